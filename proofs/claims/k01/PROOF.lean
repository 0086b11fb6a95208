import PyProof.Rows.All
import Wide.All
import OpenK.AllK
import Wide.FinOn
import HandS.ForMost
import HandS.ForExc
import HandS.Wide
import HandS.Property
import HandS.IsInst
import HandS.TupAny
import HandS.TupLe
import HandS.Style
import HandS.Flow
import HandS.ExcInit
import HandS.ExcField
import HandS.FStr
import HandS.OwnEq
import KE.GoesMore
import HandS.Codes
import HandS.DictComp
import HandS.Walk
import HandS.SortInts
import HandS.TupMul
import HandS.Gcd
import PySem.Challenge.RW_staytallies_k01_machines_refused
set_option Elab.async false
set_option linter.all false
set_option maxRecDepth 100000
set_option maxHeartbeats 4000000
namespace Sv
open PySem L2
def top (i : Nat) : Stmt := PySem.Challenge.pw_staytallies_k01_machines_refused.main.body.getD i (.Pass ⟨0, 0, 0, 0⟩)
abbrev s_BadSteps_init : Stmt := (inClass (top 3) 0)
abbrev s_Machine_init : Stmt := (inClass (top 9) 0)
abbrev s_Machine_stands : Stmt := (inClass (top 9) 1)
abbrev s_Machine_steps : Stmt := (inClass (top 9) 2)
abbrev s_Machine_ends : Stmt := (inClass (top 9) 3)
abbrev s_Machine_eq : Stmt := (inClass (top 9) 4)
abbrev s_is_whole_number : Stmt := (top 10)
abbrev s_is_integer_between : Stmt := (top 11)
abbrev s_is_stand : Stmt := (top 12)
abbrev s_check_stands : Stmt := (top 13)
abbrev s_is_step : Stmt := (top 14)
abbrev s_check_steps : Stmt := (top 15)
abbrev s_is_ascending : Stmt := (top 16)
abbrev s_check_ends : Stmt := (top 17)
abbrev s_law_taken : Stmt := (top 19)
abbrev s_law_parts : Stmt := (top 20)
abbrev s_law_machine : Stmt := (top 21)
abbrev s_law_refused : Stmt := (top 22)
abbrev s_law_spoilt : Stmt := (top 23)
abbrev s_law : Stmt := (top 24)
theorem sc_BadSteps_init : FnScope ["self", "index"] ["self", "index"] (defScope s_BadSteps_init) := ⟨rfl, rfl, rfl, by decide +kernel, rfl, by decide +kernel, by decide +kernel⟩
theorem sc_Machine_init : FnScope ["self", "stands", "steps", "ends"] ["self", "stands", "steps", "ends"] (defScope s_Machine_init) := ⟨rfl, rfl, rfl, by decide +kernel, rfl, by decide +kernel, by decide +kernel⟩
theorem sc_Machine_stands : FnScope ["self"] ["self"] (defScope s_Machine_stands) := ⟨rfl, rfl, rfl, by decide +kernel, rfl, by decide +kernel, by decide +kernel⟩
theorem sc_Machine_steps : FnScope ["self"] ["self"] (defScope s_Machine_steps) := ⟨rfl, rfl, rfl, by decide +kernel, rfl, by decide +kernel, by decide +kernel⟩
theorem sc_Machine_ends : FnScope ["self"] ["self"] (defScope s_Machine_ends) := ⟨rfl, rfl, rfl, by decide +kernel, rfl, by decide +kernel, by decide +kernel⟩
theorem sc_Machine_eq : FnScope ["self", "other"] ["self", "other"] (defScope s_Machine_eq) := ⟨rfl, rfl, rfl, by decide +kernel, rfl, by decide +kernel, by decide +kernel⟩
theorem sc_is_whole_number : FnScope ["value"] ["value"] (defScope s_is_whole_number) := ⟨rfl, rfl, rfl, by decide +kernel, rfl, by decide +kernel, by decide +kernel⟩
theorem sc_is_integer_between : FnScope ["value", "least", "most"] ["value", "least", "most"] (defScope s_is_integer_between) := ⟨rfl, rfl, rfl, by decide +kernel, rfl, by decide +kernel, by decide +kernel⟩
theorem sc_is_stand : FnScope ["stands", "value"] ["stands", "value"] (defScope s_is_stand) := ⟨rfl, rfl, rfl, by decide +kernel, rfl, by decide +kernel, by decide +kernel⟩
theorem sc_check_stands : FnScope ["stands"] ["stands"] (defScope s_check_stands) := ⟨rfl, rfl, rfl, by decide +kernel, rfl, by decide +kernel, by decide +kernel⟩
theorem sc_is_step : FnScope ["stands", "value", "begun", "letter", "end", "gain"] ["stands", "value"] (defScope s_is_step) := ⟨rfl, rfl, rfl, by decide +kernel, rfl, by decide +kernel, by decide +kernel⟩
theorem sc_check_steps : FnScope ["stands", "steps", "index", "step"] ["stands", "steps"] (defScope s_check_steps) := ⟨rfl, rfl, rfl, by decide +kernel, rfl, by decide +kernel, by decide +kernel⟩
theorem sc_is_ascending : FnScope ["value", "many", "least", "number"] ["value", "many"] (defScope s_is_ascending) := ⟨rfl, rfl, rfl, by decide +kernel, rfl, by decide +kernel, by decide +kernel⟩
theorem sc_check_ends : FnScope ["stands", "ends"] ["stands", "ends"] (defScope s_check_ends) := ⟨rfl, rfl, rfl, by decide +kernel, rfl, by decide +kernel, by decide +kernel⟩
theorem sc_law_taken : FnScope ["_law_row", "_law_many", "_law_found", "_law_cell"] ["_law_row", "_law_many"] (defScope s_law_taken) := ⟨rfl, rfl, rfl, by decide +kernel, rfl, by decide +kernel, by decide +kernel⟩
theorem sc_law_parts : FnScope ["_law_row", "_law_stands", "_law_size", "_law_many", "_law_kind", "_law_heights", "_law_steps", "_law_letters", "_law_begun", "_law_letter", "_law_end", "_law_gain", "_law_ends", "_law_stand"] ["_law_row", "_law_stands", "_law_size"] (defScope s_law_parts) := ⟨rfl, rfl, rfl, by decide +kernel, rfl, by decide +kernel, by decide +kernel⟩
theorem sc_law_machine : FnScope ["_law_d"] ["_law_d"] (defScope s_law_machine) := ⟨rfl, rfl, rfl, by decide +kernel, rfl, by decide +kernel, by decide +kernel⟩
theorem sc_law_refused : FnScope ["_law_stands", "_law_steps", "_law_ends", "_law_found", "e"] ["_law_stands", "_law_steps", "_law_ends"] (defScope s_law_refused) := ⟨rfl, rfl, rfl, by decide +kernel, rfl, by decide +kernel, by decide +kernel⟩
theorem sc_law_spoilt : FnScope ["_law_row", "_law_stands", "_law_odd"] ["_law_row", "_law_stands"] (defScope s_law_spoilt) := ⟨rfl, rfl, rfl, by decide +kernel, rfl, by decide +kernel, by decide +kernel⟩
theorem sc_law : FnScope ["_law_script", "_law_row", "_law_turn", "_law_d", "_law_stands", "_law_steps", "_law_ends", "_law_machine_here", "_law_bad", "_law_none", "_law_odd_ends", "_law_at", "_law_ahead"] ["_law_script"] (defScope s_law) := ⟨rfl, rfl, rfl, by decide +kernel, rfl, by decide +kernel, by decide +kernel⟩
structure Txt (K : PySem.W.Frag) (mg : Str → Option Value) : Type where
  a_BadSteps_init : Addr
  fd_BadSteps_init : FuncData
  F_BadSteps_init : Fun K "__init__" "BadSteps.__init__" s_BadSteps_init a_BadSteps_init fd_BadSteps_init
  b_BadSteps_init : Binds K fd_BadSteps_init ["self", "index"] []
  k_BadSteps_init : PySem.W.keepIn K (.ref a_BadSteps_init) = true
  a_Machine_init : Addr
  fd_Machine_init : FuncData
  F_Machine_init : Fun K "__init__" "Machine.__init__" s_Machine_init a_Machine_init fd_Machine_init
  b_Machine_init : Binds K fd_Machine_init ["self", "stands", "steps", "ends"] []
  k_Machine_init : PySem.W.keepIn K (.ref a_Machine_init) = true
  a_Machine_stands : Addr
  fd_Machine_stands : FuncData
  F_Machine_stands : Fun K "stands" "Machine.stands" s_Machine_stands a_Machine_stands fd_Machine_stands
  b_Machine_stands : Binds K fd_Machine_stands ["self"] []
  k_Machine_stands : PySem.W.keepIn K (.ref a_Machine_stands) = true
  a_Machine_steps : Addr
  fd_Machine_steps : FuncData
  F_Machine_steps : Fun K "steps" "Machine.steps" s_Machine_steps a_Machine_steps fd_Machine_steps
  b_Machine_steps : Binds K fd_Machine_steps ["self"] []
  k_Machine_steps : PySem.W.keepIn K (.ref a_Machine_steps) = true
  a_Machine_ends : Addr
  fd_Machine_ends : FuncData
  F_Machine_ends : Fun K "ends" "Machine.ends" s_Machine_ends a_Machine_ends fd_Machine_ends
  b_Machine_ends : Binds K fd_Machine_ends ["self"] []
  k_Machine_ends : PySem.W.keepIn K (.ref a_Machine_ends) = true
  a_Machine_eq : Addr
  fd_Machine_eq : FuncData
  F_Machine_eq : Fun K "__eq__" "Machine.__eq__" s_Machine_eq a_Machine_eq fd_Machine_eq
  b_Machine_eq : Binds K fd_Machine_eq ["self", "other"] []
  k_Machine_eq : PySem.W.keepIn K (.ref a_Machine_eq) = true
  a_is_whole_number : Addr
  fd_is_whole_number : FuncData
  F_is_whole_number : Fun K "is_whole_number" "is_whole_number" s_is_whole_number a_is_whole_number fd_is_whole_number
  b_is_whole_number : Binds K fd_is_whole_number ["value"] []
  k_is_whole_number : PySem.W.keepIn K (.ref a_is_whole_number) = true
  m_is_whole_number : mg "is_whole_number" = some (.ref a_is_whole_number)
  a_is_integer_between : Addr
  fd_is_integer_between : FuncData
  F_is_integer_between : Fun K "is_integer_between" "is_integer_between" s_is_integer_between a_is_integer_between fd_is_integer_between
  b_is_integer_between : Binds K fd_is_integer_between ["value", "least", "most"] []
  k_is_integer_between : PySem.W.keepIn K (.ref a_is_integer_between) = true
  m_is_integer_between : mg "is_integer_between" = some (.ref a_is_integer_between)
  a_is_stand : Addr
  fd_is_stand : FuncData
  F_is_stand : Fun K "_is_stand" "_is_stand" s_is_stand a_is_stand fd_is_stand
  b_is_stand : Binds K fd_is_stand ["stands", "value"] []
  k_is_stand : PySem.W.keepIn K (.ref a_is_stand) = true
  m_is_stand : mg "_is_stand" = some (.ref a_is_stand)
  a_check_stands : Addr
  fd_check_stands : FuncData
  F_check_stands : Fun K "_check_stands" "_check_stands" s_check_stands a_check_stands fd_check_stands
  b_check_stands : Binds K fd_check_stands ["stands"] []
  k_check_stands : PySem.W.keepIn K (.ref a_check_stands) = true
  m_check_stands : mg "_check_stands" = some (.ref a_check_stands)
  a_is_step : Addr
  fd_is_step : FuncData
  F_is_step : Fun K "_is_step" "_is_step" s_is_step a_is_step fd_is_step
  b_is_step : Binds K fd_is_step ["stands", "value"] []
  k_is_step : PySem.W.keepIn K (.ref a_is_step) = true
  m_is_step : mg "_is_step" = some (.ref a_is_step)
  a_check_steps : Addr
  fd_check_steps : FuncData
  F_check_steps : Fun K "_check_steps" "_check_steps" s_check_steps a_check_steps fd_check_steps
  b_check_steps : Binds K fd_check_steps ["stands", "steps"] []
  k_check_steps : PySem.W.keepIn K (.ref a_check_steps) = true
  m_check_steps : mg "_check_steps" = some (.ref a_check_steps)
  a_is_ascending : Addr
  fd_is_ascending : FuncData
  F_is_ascending : Fun K "is_ascending" "is_ascending" s_is_ascending a_is_ascending fd_is_ascending
  b_is_ascending : Binds K fd_is_ascending ["value", "many"] []
  k_is_ascending : PySem.W.keepIn K (.ref a_is_ascending) = true
  m_is_ascending : mg "is_ascending" = some (.ref a_is_ascending)
  a_check_ends : Addr
  fd_check_ends : FuncData
  F_check_ends : Fun K "_check_ends" "_check_ends" s_check_ends a_check_ends fd_check_ends
  b_check_ends : Binds K fd_check_ends ["stands", "ends"] []
  k_check_ends : PySem.W.keepIn K (.ref a_check_ends) = true
  m_check_ends : mg "_check_ends" = some (.ref a_check_ends)
  a_law_taken : Addr
  fd_law_taken : FuncData
  F_law_taken : Fun K "_law_taken" "_law_taken" s_law_taken a_law_taken fd_law_taken
  b_law_taken : Binds K fd_law_taken ["_law_row", "_law_many"] []
  k_law_taken : PySem.W.keepIn K (.ref a_law_taken) = true
  m_law_taken : mg "_law_taken" = some (.ref a_law_taken)
  a_law_parts : Addr
  fd_law_parts : FuncData
  F_law_parts : Fun K "_law_parts" "_law_parts" s_law_parts a_law_parts fd_law_parts
  b_law_parts : Binds K fd_law_parts ["_law_row", "_law_stands", "_law_size"] []
  k_law_parts : PySem.W.keepIn K (.ref a_law_parts) = true
  m_law_parts : mg "_law_parts" = some (.ref a_law_parts)
  a_law_machine : Addr
  fd_law_machine : FuncData
  F_law_machine : Fun K "_law_machine" "_law_machine" s_law_machine a_law_machine fd_law_machine
  b_law_machine : Binds K fd_law_machine ["_law_d"] []
  k_law_machine : PySem.W.keepIn K (.ref a_law_machine) = true
  m_law_machine : mg "_law_machine" = some (.ref a_law_machine)
  a_law_refused : Addr
  fd_law_refused : FuncData
  F_law_refused : Fun K "_law_refused" "_law_refused" s_law_refused a_law_refused fd_law_refused
  b_law_refused : Binds K fd_law_refused ["_law_stands", "_law_steps", "_law_ends"] []
  k_law_refused : PySem.W.keepIn K (.ref a_law_refused) = true
  m_law_refused : mg "_law_refused" = some (.ref a_law_refused)
  a_law_spoilt : Addr
  fd_law_spoilt : FuncData
  F_law_spoilt : Fun K "_law_spoilt" "_law_spoilt" s_law_spoilt a_law_spoilt fd_law_spoilt
  b_law_spoilt : Binds K fd_law_spoilt ["_law_row", "_law_stands"] []
  k_law_spoilt : PySem.W.keepIn K (.ref a_law_spoilt) = true
  m_law_spoilt : mg "_law_spoilt" = some (.ref a_law_spoilt)
  a_law : Addr
  fd_law : FuncData
  F_law : Fun K "law" "law" s_law a_law fd_law
  b_law : Binds K fd_law ["_law_script"] []
  k_law : PySem.W.keepIn K (.ref a_law) = true
  m_law : mg "law" = some (.ref a_law)
  c_Machine : Addr
  cl_Machine : Cls K c_Machine
  m_Machine : mg "Machine" = some (.ref c_Machine)
  mk_Machine : Mk K c_Machine a_Machine_init
  n__stands : NoAttr K c_Machine "_stands"
  n__steps : NoAttr K c_Machine "_steps"
  n__ends : NoAttr K c_Machine "_ends"
  q_stands : Addr
  p_stands : PropOf K c_Machine "stands" q_stands a_Machine_stands
  q_steps : Addr
  p_steps : PropOf K c_Machine "steps" q_steps a_Machine_steps
  q_ends : Addr
  p_ends : PropOf K c_Machine "ends" q_ends a_Machine_ends
  i1_Machine : PySem.W.findIn K (.ref c_Machine) "__class__" = some (some (.builtin "object.__class__"))
  i2_Machine : PySem.W.specialIn K (.builtin "object.__class__") "__get__" = some (some (.builtin "getset_descriptor.__get__"))
  i3_Machine : PySem.W.takesIn K (.builtin "object.__class__") = some true
  i4_Machine : PySem.W.mroIn K c_Machine (.type "object") = some true
  j1_Machine : PySem.W.isClsIn K c_Machine = true
  j2_Machine : PySem.W.typeIn K (.ref c_Machine) = some (.type "type")
  j3_Machine : PySem.W.findIn K (.ref c_Machine) "__eq__" = some (some (.ref a_Machine_eq))
  j4_Machine : PySem.W.isFn K (.ref a_Machine_eq) = true
  c_BadStands : Addr
  m_BadStands : mg "BadStands" = some (.ref c_BadStands)
  x_BadStands : PySem.W.excIn K c_BadStands [.type "ValueError", .type "Exception", .type "BaseException", .type "object"] "ValueError.__new__" = true
  k_BadStands : PySem.W.keepIn K (.ref c_BadStands) = true
  b_BadStands : PySem.W.subIn K (.ref c_BadStands) (.type "BaseException") = some true
  t_BadStands : PySem.W.typeIn K (.ref c_BadStands) = some (.type "type")
  e_BadStands : PySem.W.exmOne K (.ref c_BadStands) (.ref c_BadStands) = some true
  c_BadEnds : Addr
  m_BadEnds : mg "BadEnds" = some (.ref c_BadEnds)
  x_BadEnds : PySem.W.excIn K c_BadEnds [.type "ValueError", .type "Exception", .type "BaseException", .type "object"] "ValueError.__new__" = true
  k_BadEnds : PySem.W.keepIn K (.ref c_BadEnds) = true
  b_BadEnds : PySem.W.subIn K (.ref c_BadEnds) (.type "BaseException") = some true
  t_BadEnds : PySem.W.typeIn K (.ref c_BadEnds) = some (.type "type")
  e_BadEnds : PySem.W.exmOne K (.ref c_BadEnds) (.ref c_BadEnds) = some true
  c_BadSteps : Addr
  m_BadSteps : mg "BadSteps" = some (.ref c_BadSteps)
  o_BadSteps : OexC K c_BadSteps
  xf_BadSteps : XfC K c_BadSteps
  ie_BadSteps : PySem.W.findIn K (.ref c_BadSteps) "__init__" = some (some (.ref a_BadSteps_init))
  ti_BadSteps : PySem.W.typeIn K (.ref a_BadSteps_init) = some (.type "function")
  e_BadSteps : PySem.W.exmOne K (.ref c_BadSteps) (.ref c_BadSteps) = some true
  no_BadSteps_index : PySem.W.findIn K (.ref c_BadSteps) "index" = some none
  c_TallyError : Addr
  m_TallyError : mg "TallyError" = some (.ref c_TallyError)
  rd_TallyError : PySem.W.readsIn K c_TallyError (.type "type") = true
  fv_TallyError : PySem.W.findCls K (.ref c_TallyError) (.type "type") "__init__" = some (.val (.builtin "ValueError.__init__"))
  sg_TallyError : PySem.W.specialIn K (.ref c_TallyError) "__getattribute__" = some (some (.builtin "type.__getattribute__"))
  er_BadSteps_BadStands : PySem.W.exmOne K (.ref c_BadSteps) (.ref c_BadStands) = some false
  er_BadEnds_BadStands : PySem.W.exmOne K (.ref c_BadEnds) (.ref c_BadStands) = some false
  er_BadEnds_BadSteps : PySem.W.exmOne K (.ref c_BadEnds) (.ref c_BadSteps) = some false
  u_MOST_STANDS : Value
  m_MOST_STANDS : mg "MOST_STANDS" = some u_MOST_STANDS
  r_MOST_STANDS : RelV (V.int 8) u_MOST_STANDS
  u_MOST_GAIN : Value
  m_MOST_GAIN : mg "MOST_GAIN" = some u_MOST_GAIN
  r_MOST_GAIN : RelV (V.int 1000000000000000000000000000000) u_MOST_GAIN
  a_LETTERS : Addr
  m_LETTERS : mg "LETTERS" = some (.ref a_LETTERS)
  r_LETTERS : RelV (V.ref a_LETTERS) (.ref a_LETTERS)
  s_LETTERS : ∀ H, SqT K H a_LETTERS [V.str "a", V.str "b", V.str "c", V.str "d"]
  z_bool : mg "bool" = none
  z_enumerate : mg "enumerate" = none
  z_int : mg "int" = none
  z_isinstance : mg "isinstance" = none
  z_len : mg "len" = none
  z_list : mg "list" = none
  z_range : mg "range" = none
  z_str : mg "str" = none
  z_tuple : mg "tuple" = none
  bs_law : ∀ (s : Shared) (v : Value), BindsTo s fd_law ⟨[v], []⟩ [("_law_script", v)]
/-! ### heaps -/
/-- all but a stands as it was -/
def Keep (a : Addr) (H H' : Hp) : Prop := ∀ b o, b ≠ a → H b = some o → H' b = some o
theorem Keep.refl (a : Addr) (H : Hp) : Keep a H H := fun _ _ _ h => h
theorem Keep.trans {a : Addr} {H H1 H2 : Hp} (x : Keep a H H1) (y : Keep a H1 H2) : Keep a H H2 := fun b o n h => y b o n (x b o n h)
theorem Keep.at_ {a : Addr} {H : Hp} {o : HO} : Keep a H (upd H a o) := fun b u n h => by rw [upd_ne n]; exact h
theorem Keep.new {a p : Addr} {H : Hp} {o : HO} (hp : H p = none) : Keep a H (upd H p o) := fun b u _ h => by rw [upd_ne (ne_of_none h hp)]; exact h
theorem Keep.of_same {a : Addr} {H H' : Hp} (x : Same H H') : Keep a H H' := fun b o _ h => x b o h
theorem Same.new {p : Addr} {H : Hp} {o : HO} (hp : H p = none) : Same H (upd H p o) := fun b u h => by rw [upd_ne (ne_of_none h hp)]; exact h
theorem Keep.free {a p : Addr} {H H' : Hp} (x : Keep a H H') (n : p ≠ a) (h : H' p = none) : H p = none := by
  cases q : H p with
  | none => rfl
  | some o => rw [x p o n q] at h; cases h
/-- what H does not know may change -/
theorem Keep.mut {a p : Addr} {H H' : Hp} {o : HO} (x : Keep a H H') (hp : H p = none) : Keep a H (upd H' p o) := fun b u n h => by rw [upd_ne (ne_of_none h hp)]; exact x b u n h
theorem Keep.tup {K : PySem.W.Frag} {a b : Addr} {H H' : Hp} {xs : List V} (x : Keep a H H') (ha : ∃ l, H a = some (.lst l)) (h : SqT K H b xs) : SqT K H' b xs := by
  obtain ⟨l, ha⟩ := ha
  rcases h with (h | ⟨o, h⟩) | h
  · exact .inl (.inl (x _ _ (fun e => by rw [e, ha] at h; cases h) h))
  · exact .inl (.inr ⟨o, x _ _ (fun e => by rw [e, ha] at h; cases h) h⟩)
  · exact .inr h
theorem Keep.lst {K : PySem.W.Frag} {a b : Addr} {H H' : Hp} {xs : List V} (x : Keep a H H') (n : b ≠ a) (h : SqL K H b xs) : SqL K H' b xs := by
  rcases h with (h | ⟨o, h⟩) | h
  · exact .inl (.inl (x _ _ n h))
  · exact .inl (.inr ⟨o, x _ _ n h⟩)
  · exact .inr h
/-- the script: known to the object, or of the written part -/
def ScAt (K : PySem.W.Frag) (H : Hp) (b : Addr) (xs : List V) : Prop := (∃ o, H b = some (.frz o (.lst xs))) ∨ ∀ H', SqL K H' b xs
theorem ScAt.sq {K : PySem.W.Frag} {H : Hp} {b : Addr} {xs : List V} (h : ScAt K H b xs) : SqL K H b xs := by
  rcases h with ⟨o, h⟩ | h
  · exact .inl (.inr ⟨o, h⟩)
  · exact h H
theorem ScAt.keep {K : PySem.W.Frag} {a b : Addr} {H H' : Hp} {xs l : List V} (h : ScAt K H b xs) (k : Keep a H H') (ha : H a = some (.lst l)) : ScAt K H' b xs := by
  rcases h with ⟨o, h⟩ | h
  · exact .inl ⟨o, k _ _ (fun z => by rw [z, ha] at h; cases h) h⟩
  · exact .inr h
theorem ScAt.same {K : PySem.W.Frag} {b : Addr} {H H' : Hp} {xs : List V} (h : ScAt K H b xs) (k : Same H H') : ScAt K H' b xs := by
  rcases h with ⟨o, h⟩ | h
  · exact .inl ⟨o, k _ _ h⟩
  · exact .inr h
/-- the draws' row at a: the script, how many were read, the mixed number, the rest -/
def RowOk (K : PySem.W.Frag) (H : Hp) (a : Addr) : Prop := ∃ (sc : Addr) (ns : List Int) (i z r : Int), H a = some (.lst [.ref sc, .int i, .int z, .int r]) ∧ ScAt K H sc (ns.map V.int) ∧ ns.length ≤ 63 ∧ 0 ≤ i ∧ 0 ≤ z ∧ z < 2147483647
theorem RowOk.lst {K : PySem.W.Frag} {H : Hp} {a : Addr} (h : RowOk K H a) : ∃ l, H a = some (.lst l) := by
  obtain ⟨_, _, _, _, _, e, _⟩ := h; exact ⟨_, e⟩
/-- behind a step that leaves the row and the script as they were -/
theorem RowOk.same {K : PySem.W.Frag} {H H' : Hp} {a : Addr} (h : RowOk K H a) (s : Same H H') : RowOk K H' a := by
  obtain ⟨sc, ns, i, z, r, e, q, rest⟩ := h
  exact ⟨sc, ns, i, z, r, s _ _ e, q.same s, rest⟩
theorem RowOk.keep {K : PySem.W.Frag} {H H' : Hp} {a l : Addr} {xs : List V} (h : RowOk K H a) (n : a ≠ l) (e : H l = some (.lst xs)) (k : Keep l H H') : RowOk K H' a := by
  obtain ⟨sc, is, i, z, r, ea, q, rest⟩ := h
  exact ⟨sc, is, i, z, r, k _ _ n ea, q.keep k e, rest⟩
theorem RowOk.ne {K : PySem.W.Frag} {H : Hp} {a p : Addr} (h : RowOk K H a) (e : H p = none) : a ≠ p := by
  obtain ⟨l, q⟩ := h.lst
  exact ne_of_none q e
/-! ### steps: one a combinator -/
section
variable {K : PySem.W.Frag} {σ : L2.St} {H : Hp} {D : Ends} {Q : VK}
theorem k_seq {t u : TS} (h : t { D with nx := u D } σ H) : tSeq t u D σ H := h
theorem k_ifS {c : TT} {t u : TS} (h : c σ H fun b H1 => if b = true then t D σ H1 else u D σ H1) : tIfS c t u D σ H := h
theorem k_asg {te : TE} {g : TG} (h : te σ H fun x H1 => g x σ H1 D.nx) : tAsg te g D σ H := h
theorem k_ret {te : TE} (h : te σ H D.rt) : tRet te D σ H := h
theorem k_retN (h : D.rt .non H) : tRetN D σ H := h
theorem k_next (h : D.nx σ H) : tNext D σ H := h
theorem k_cont (h : D.ct σ H) : tCont D σ H := h
theorem k_break (h : D.bk σ H) : tBreak D σ H := h
theorem k_drop {te : TE} (h : te σ H fun _ H1 => D.nx σ H1) : tDrop te D σ H := h
theorem k_par {i j : Nat} {ta : TA} (h : ta σ H fun vs H1 => ∃ v w, vs = [v, w] ∧ D.nx ((σ.set i (some v)).set j (some w)) H1) : tPar i j ta D σ H := h
theorem k_two {p : V → V → Prop} {a b : V} (h : p a b) : ∃ v w, [a, b] = [v, w] ∧ p v w := ⟨a, b, rfl, h⟩
theorem k_var {i : Nat} {v : V} (e : σ[i]? = some (some v)) (h : Q v H) : tVar i σ H Q := ⟨v, e, h⟩
theorem k_c {v : V} (h : Q v H) : tC v σ H Q := h
theorem k_op {r : R2} {ta tb : TE} (h : ta σ H fun x H1 => tb σ H1 fun y H2 => r x y H2 Q) : tOp r ta tb σ H Q := h
theorem k_un {r : V → Hp → VK → Prop} {ta : TE} (h : ta σ H fun x H1 => r x H1 Q) : tUn r ta σ H Q := h
theorem k_cb {r : List V → Hp → VK → Prop} {t : TA} (h : t σ H fun vs H1 => r vs H1 Q) : tCB r t σ H Q := h
theorem k_cons {ta : TE} {tr : TA} {R : List V → Hp → Prop} (h : ta σ H fun x H1 => tr σ H1 fun xs H2 => R (x :: xs) H2) : tCons ta tr σ H R := h
theorem k_nil {R : List V → Hp → Prop} (h : R [] H) : tNil σ H R := h
theorem k_call {sp : Sp} {dvs : List V} {E : XK} {t : TA} (h : t σ H fun vs H1 => sp (vs ++ dvs) H1 Q E) : tCall sp dvs E t σ H Q := h
theorem k_make {C : Addr} {sp : Sp} {dvs : List V} {E : XK} {t : TA} (h : t σ H fun vs H1 => ∀ x dx, H1 x = none → H1 dx = none → dx ≠ x →
  sp (.ref x :: (vs ++ dvs)) (upd (upd H1 dx (.own x)) x (.ins C dx [])) (fun v H2 => v = .non ∧ Q (.ref x) H2) E) : tMake C sp dvs E t σ H Q := h
theorem k_test {t : TE} {R : Bool → Hp → Prop} (h : t σ H fun x H' => ∃ k, x = .bl k ∧ R k H') : tTest t σ H R := h
theorem k_tB {t : TE} {R : Bool → Hp → Prop} (h : t σ H fun x H' => ∃ k, x = .bl k ∧ R k H') : tB t σ H R := h
theorem k_bl {b : Bool} {R : Bool → Prop} (h : R b) : ∃ k, V.bl b = .bl k ∧ R k := ⟨b, rfl, h⟩
theorem k_and {t u : TT} {R : Bool → Hp → Prop} (h : t σ H fun c H1 => if c = true then u σ H1 R else R false H1) : tAnd t u σ H R := h
theorem k_or {t u : TT} {R : Bool → Hp → Prop} (h : t σ H fun c H1 => if c = true then R true H1 else u σ H1 R) : tOr t u σ H R := h
theorem k_not {t : TT} {R : Bool → Hp → Prop} (h : t σ H fun c H1 => R (!c) H1) : tNot t σ H R := h
theorem k_andV {ta tb : TE} (h : ta σ H fun x H1 => ∃ c, x = .bl c ∧ if c = true then tb σ H1 Q else Q (.bl false) H1) : tAndV ta tb σ H Q := h
theorem k_orV {ta tb : TE} (h : ta σ H fun x H1 => ∃ c, x = .bl c ∧ if c = true then Q (.bl true) H1 else tb σ H1 Q) : tOrV ta tb σ H Q := h
theorem k_notV {ta : TE} (h : ta σ H fun x H1 => ∃ c, x = .bl c ∧ Q (.bl (!c)) H1) : tNotV ta σ H Q := h
theorem k_ifE {t : TT} {ta tb : TE} (h : t σ H fun c H1 => if c = true then ta σ H1 Q else tb σ H1 Q) : tIf t ta tb σ H Q := h
theorem k_isN {ta : TE} (h : ta σ H fun x H1 => Q (.bl (decide (x = .non))) H1) : tIsN ta σ H Q := h
theorem k_notN {ta : TE} (h : ta σ H fun x H1 => Q (.bl (!decide (x = .non))) H1) : tNotN ta σ H Q := h
theorem k_name {i : Nat} {v : V} {R : L2.St → Hp → Prop} (h : R (σ.set i (some v)) H) : gName i v σ H R := h
theorem k_sub {to ti : TE} {t : TSet} {v : V} {R : L2.St → Hp → Prop} (h : to σ H fun o H1 => ti σ H1 fun i H2 => t o i v H2 fun H3 => R σ H3) : gSub to ti t v σ H R := h
theorem k_gt {n : Nat} {t : TGs} {R : L2.St → Hp → Prop} {a : Addr} {xs : List V} (h : SqT K H a xs) (e : xs.length = n) (q : t xs σ H R) : gTup K n t (.ref a) σ H R := ⟨a, xs, rfl, h, e, q⟩
theorem k_gn {R : L2.St → Hp → Prop} (h : R σ H) : gNil [] σ H R := ⟨rfl, h⟩
theorem k_gc {t : TG} {u : TGs} {v : V} {vs : List V} {R : L2.St → Hp → Prop} (h : t v σ H fun σ' H' => u vs σ' H' R) : gCons t u (v :: vs) σ H R := ⟨v, vs, rfl, h⟩
theorem k_I0 {g : Int → Int → V} {i j : Int} (h : Q (g i j) H) : rI0 g (.int i) (.int j) H Q := ⟨i, j, rfl, rfl, h⟩
theorem k_I {C : Int → Int → Prop} {g : Int → Int → V} {i j : Int} (c : C i j) (h : Q (g i j) H) : rI C g (.int i) (.int j) H Q := ⟨i, j, rfl, rfl, c, h⟩
theorem k_U {g : Int → V} {i : Int} (h : Q (g i) H) : rU g (.int i) H Q := ⟨i, rfl, h⟩
theorem k_eq {x y : V} (e : scal x y = true) (h : Q (.bl (decide (x = y))) H) : rEq x y H Q := ⟨e, h⟩
theorem k_ne {x y : V} (e : scal x y = true) (h : Q (.bl (!decide (x = y))) H) : rNe x y H Q := ⟨e, h⟩
theorem k_ixL {p : Addr} {xs : List V} {i : Int} {v : V} (h : SqL K H p xs) (e : atI xs i = some v) (q : Q v H) : rIxL K (.ref p) (.int i) H Q := ⟨p, xs, i, v, rfl, rfl, h, e, q⟩
theorem k_ixT {p : Addr} {xs : List V} {i : Int} {v : V} (h : SqT K H p xs) (e : atI xs i = some v) (q : Q v H) : rIxT K (.ref p) (.int i) H Q := ⟨p, xs, i, v, rfl, rfl, h, e, q⟩
theorem k_setL {p : Addr} {xs : List V} {k : Int} {j : Nat} {v : V} {R : Hp → Prop} (h : H p = some (.lst xs)) (e : ixN xs.length k = some j) (q : R (upd H p (.lst (xs.set j v)))) : rSetL (.ref p) (.int k) v H R := ⟨p, xs, k, j, rfl, rfl, h, e, q⟩
theorem k_tup {t : TA} (h : t σ H fun xs H1 => xs.length ≤ sizeLine ∧ ∀ p, H1 p = none → Q (.ref p) (upd H1 p (.tup xs))) : tTup t σ H Q := h
theorem k_lst {t : TA} (h : t σ H fun xs H1 => xs.length ≤ sizeLine ∧ ∀ p, H1 p = none → Q (.ref p) (upd H1 p (.lst xs))) : tLst t σ H Q := h
theorem k_bm {T : String} {r : V → List V → Hp → VK → Prop} {to : TE} {t : TA} (h : to σ H fun x H1 => tyV K T x H1 ∧ t σ H1 fun xs H2 => r x xs H2 Q) : tBM K T r to t σ H Q := h
theorem k_append {l : Addr} {xs : List V} {y : V} (h : H l = some (.lst xs)) (e : xs.length < sizeLine) (q : Q .non (upd H l (.lst (xs ++ [y])))) : rAppend (.ref l) [y] H Q := ⟨l, xs, y, rfl, rfl, h, e, q⟩
theorem k_dget {td ty : TE} (h : td σ H fun x H1 => ty σ H1 fun y H2 => ∃ a v, x = .ref a ∧ DGet H2 a y (some v) ∧ Q v H2) : tDGet td ty σ H Q := h
theorem k_dg {a : Addr} {y v : V} (h : DGet H a y (some v)) (q : Q v H) : ∃ b u, V.ref a = .ref b ∧ DGet H b y (some u) ∧ Q u H := ⟨a, v, rfl, h, q⟩
theorem k_fld {ta : TE} {f : Str} (h : ta σ H fun x H1 => ∃ a C dx fs v, x = .ref a ∧ H1 a = some (.ins C dx fs) ∧ Cls K C ∧ NoAttr K C f ∧ fs.lookup f = some v ∧ Q v H1) : tFld K ta f σ H Q := h
theorem k_sl {r : V → Option Int → Option Int → Hp → VK → Prop} {te : TE} {tl th : TO} (h : te σ H fun x H1 => tl σ H1 fun l H2 => th σ H2 fun u H3 => r x l u H3 Q) : L2.tSl r te tl th σ H Q := h
theorem k_noPart {R : Option Int → Hp → Prop} (h : R none H) : tNoPart σ H R := h
theorem k_part {t : TE} {R : Option Int → Hp → Prop} (h : t σ H fun x H1 => ∃ i, x = .int i ∧ R (some i) H1) : tPart t σ H R := h
theorem k_int {i : Int} {R : Int → Prop} (h : R i) : ∃ k, V.int i = .int k ∧ R k := ⟨i, rfl, h⟩
theorem k_int1 {i : Int} {R : Int → Prop} {R' : Bool → Prop} (h : R i) : (∃ j, [V.int i] = [V.int j] ∧ R j) ∨ (∃ k, [V.int i] = [V.bl k] ∧ R' k) := .inl ⟨i, rfl, h⟩
theorem k_len {a : Addr} {ys : List V} {R : List V → Prop} (h : SqL K H a ys ∨ SqT K H a ys) (q : R ys) : ∃ p xs, [V.ref a] = [V.ref p] ∧ (SqL K H p xs ∨ SqT K H p xs) ∧ R xs := ⟨a, ys, rfl, h, q⟩
theorem k_disp {trs : List (TE × TE)} (h : ∀ p, H p = none → tPairs trs σ (upd H p (.dK [])) fun ps H2 => H2 p = some (.dK []) ∧ ∃ kvs : List (Key × V), ps = kvs.map (fun kv => (kV kv.1, kv.2)) ∧ kvs.length ≤ 15 ∧ Q (.ref p) (upd H2 p (.dK (mergeK [] kvs)))) : tDisp trs σ H Q := h
theorem k_cut {t u : TS} (M : L2.St → Hp → Prop) (h : t { D with nx := M } σ H) (k : ∀ σ' H', M σ' H' → u D σ' H') : C8.tCut t u D σ H := ⟨M, h, k⟩
theorem k_rng1 {ta : TA} {R : It → Hp → Prop} (h : ta σ H fun vs H1 => ∃ j : Int, vs = [.int j] ∧ -(2 ^ 62) ≤ j ∧ j < 2 ^ 62 ∧ R (Itr 0 j.toNat) H1) : iRng1 ta σ H R := h
theorem k_rg {j : Int} {R : Int → Prop} (h1 : 0 ≤ j) (h2 : j < 2 ^ 62) (q : R j) : ∃ i : Int, [V.int j] = [V.int i] ∧ -(2 ^ 62) ≤ i ∧ i < 2 ^ 62 ∧ R i := ⟨j, rfl, by omega, h2, q⟩
theorem k_for {wi : TI} {g : TG} {tb : TS} (h : wi σ H fun J H1 => ∃ W : Nat → Nat → L2.St → Hp → Prop, (∃ m, W 0 m σ H1) ∧ ∀ i m σ H, W i m σ H →
  (J.stop i H ∧ D.nx σ H) ∨ (J.go i H ∧ ∃ N : L2.St → Hp → Prop, (∀ σ' H', N σ' H' → ∃ m', m' < m ∧ W (i + 1) m' σ' H') ∧ ∀ x H', J.yld i H x H' → g x σ H' fun σ2 H2 => tb { D with nx := N, ct := N, bk := D.nx } σ2 H2)) : tFor wi g tb D σ H := h
theorem k_lc {wi : TI} {g : TG} {tt : TT} {te : TE} {vs : List Nat} (h : wi σ H fun J H1 => ∀ D, H1 D = none → ∃ W : Nat → Nat → Hp → Prop, (∃ m, W 0 m (upd H1 D (.lst []))) ∧ ∀ i m H, W i m H →
  (J.stop i H ∧ Q (.ref D) H) ∨ (J.go i H ∧ ∃ Nx : Hp → Prop, (∀ H', Nx H' → ∃ m', m' < m ∧ W (i + 1) m' H') ∧ ∀ x H', J.yld i H x H' → g x (wipe σ vs) H' fun σ2 H2 => wipe σ2 vs = wipe σ vs ∧ tt σ2 H2 fun b H3 =>
    if b = true then te σ2 H3 fun y H4 => ∃ acc, H4 D = some (.lst acc) ∧ acc.length < sizeLine ∧ Nx (upd H4 D (.lst (acc ++ [y]))) else Nx H3)) : tLc wi g tt te vs σ H Q := h
theorem k_yesT {R : Bool → Hp → Prop} (h : R true H) : tYes σ H R := h
theorem k_str {te : TE} {R : It → Hp → Prop} (h : te σ H fun v H1 => ∃ x, v = .str x ∧ R (Its x) H1) : iStr te σ H R := h
theorem k_slS {z : Str} {lo hi : Option Int} (e : z.length ≤ sizeLine) (q : Q (.str (cutS z lo hi)) H) : rSlS (.str z) lo hi H Q := ⟨z, rfl, e, q⟩
theorem k_prs {tk tv : TE} {r : List (TE × TE)} {R : List (V × V) → Hp → Prop} (h : tk σ H fun x H1 => tv σ H1 fun y H2 => tPairs r σ H2 fun ps H3 => R ((x, y) :: ps) H3) : tPairs ((tk, tv) :: r) σ H R := h
theorem k_prn {R : List (V × V) → Hp → Prop} (h : R [] H) : tPairs [] σ H R := h
theorem k_aug {i : Nat} {te : TE} {ti : TIp} {x : V} (e : σ[i]? = some (some x)) (h : te σ H fun y H1 => ti x y H1 fun z H2 => D.nx (σ.set i (some z)) H2) : tAug i te ti D σ H := ⟨x, e, h⟩
theorem k_ipI {f : Int → Int → Int} {i j : Int} (h : Q (.int (f i j)) H) : ipI f (.int i) (.int j) H Q := ⟨i, j, rfl, rfl, h⟩
theorem k_din {ty td : TE} (h : ty σ H fun y H1 => td σ H1 fun x H2 => ∃ a o, x = .ref a ∧ DGet H2 a y o ∧ Q (.bl o.isSome) H2) : tDIn ty td σ H Q := h
theorem k_dnotin {ty td : TE} (h : ty σ H fun y H1 => td σ H1 fun x H2 => ∃ a o, x = .ref a ∧ DGet H2 a y o ∧ Q (.bl (!o.isSome)) H2) : tDNotIn ty td σ H Q := h
theorem k_dput {td ty tv : TE} (h : tv σ H fun v H1 => td σ H1 fun x H2 => ty σ H2 fun y H3 => ∃ a H4, x = .ref a ∧ DPut H3 a y v H4 ∧ D.nx σ H4) : sDPut td ty tv D σ H := h
theorem k_prop {C : Addr} {sp : Sp} {dvs : List V} {E : XK} {ta : TE} (h : ta σ H fun x H1 => ∃ a dx fs, x = .ref a ∧ H1 a = some (.ins C dx fs) ∧ sp (.ref a :: dvs) H1 Q E) : tProp C sp dvs E ta σ H Q := h
theorem k_itup {tl : TE} {R : It → Hp → Prop} (h : tl σ H fun x H1 => ∃ a, x = .ref a ∧ (∃ xs, SqT K H1 a xs) ∧ R (Itt K a) H1) : iTup K tl σ H R := h
theorem k_ilst {tl : TE} {R : It → Hp → Prop} (h : tl σ H fun x H1 => ∃ a, x = .ref a ∧ (∃ xs, SqL K H1 a xs) ∧ R (Itl K a) H1) : iList K tl σ H R := h
theorem k_bm0 {T : String} {r : V → List V → Hp → VK → Prop} {to : TE} (h : to σ H fun x H1 => tyV K T x H1 ∧ r x [] H1 Q) : tBM0 K T r to σ H Q := h
theorem k_dc {wi : TI} {g : TG} {tt : TT} {tk tv : TE} {vs : List Nat} (h : wi σ H fun J H1 => ∀ D, H1 D = none → ∃ W : Nat → Nat → Hp → Prop, (∃ m, W 0 m (upd H1 D (.dK []))) ∧ ∀ i m H, W i m H →
  (J.stop i H ∧ Q (.ref D) H) ∨ (J.go i H ∧ ∃ Nx : Hp → Prop, (∀ H', Nx H' → ∃ m', m' < m ∧ W (i + 1) m' H') ∧ ∀ x H', J.yld i H x H' → g x (wipe σ vs) H' fun σ2 H2 => wipe σ2 vs = wipe σ vs ∧ tt σ2 H2 fun b H3 =>
    if b = true then tk σ2 H3 fun y H4 => tv σ2 H4 fun z H5 => ∃ kvs k, y = kV k ∧ H5 D = some (.dK kvs) ∧ kvs.length < sizeLine ∧ Nx (upd H5 D (.dK (putK kvs k z))) else Nx H3)) : tDc wi g tt tk tv vs σ H Q := h
theorem k_whl {c : TT} {tb : TS} (W : Nat → L2.St → Hp → Prop) (h0 : ∃ m, W m σ H) (h : ∀ m σ H, W m σ H → c σ H fun b H1 => if b = true then tb { D with nx := fun σ' H' => ∃ m', m' < m ∧ W m' σ' H', ct := fun σ' H' => ∃ m', m' < m ∧ W m' σ' H', bk := D.nx } σ H1 else D.nx σ H1)
    (mono : ∀ σ H (R R' : Bool → Hp → Prop), (∀ b H1, R b H1 → R' b H1) → c σ H R → c σ H R') : tWhile c tb D σ H := by
  refine ⟨W, h0, fun m σ H w => mono _ _ _ _ (fun b H1 q => ?_) (h m σ H w)⟩
  cases b with
  | false => exact q
  | true => exact ⟨_, fun _ _ z => z, q⟩
theorem k_ite {p A B : Prop} [Decidable p] (h1 : p → A) (h2 : ¬ p → B) : if decide p = true then A else B := by
  by_cases h : p
  · rw [decide_eq_true h]; exact iteT (h1 h)
  · rw [decide_eq_false h]; exact iteF (h2 h)
theorem k_iteN {p A B : Prop} [Decidable p] (h1 : p → B) (h2 : ¬ p → A) : if (!decide p) = true then A else B := by
  by_cases h : p
  · rw [decide_eq_true h]; exact iteF (h1 h)
  · rw [decide_eq_false h]; exact iteT (h2 h)
theorem k_yes {c : Bool} {A B : Prop} (e : c = true) (h : A) : if c = true then A else B := by rw [e]; exact iteT h
theorem k_no {c : Bool} {A B : Prop} (e : c = false) (h : B) : if c = true then A else B := by rw [e]; exact iteF h
theorem k_bool {c : Bool} {A B : Prop} (h1 : c = true → A) (h2 : c = false → B) : if c = true then A else B := by cases c; exact iteF (h2 rfl); exact iteT (h1 rfl)
end
section
variable {K : PySem.W.Frag} {σ : L2.St} {H : Hp} {D : Ends} {Q : VK}
theorem k_par3 {i j l : Nat} {ta : TA} (h : ta σ H fun vs H1 => ∃ u v w, vs = [u, v, w] ∧ D.nx (((σ.set i (some u)).set j (some v)).set l (some w)) H1) : tPar3 i j l ta D σ H := h
theorem k_three {p : V → V → V → Prop} {a b c : V} (h : p a b c) : ∃ u v w, [a, b, c] = [u, v, w] ∧ p u v w := ⟨a, b, c, rfl, h⟩
theorem k_neD {x y : V} {d e : PyData} (h1 : Dp K H x d) (h2 : Dp K H y e) (s1 : SeqAt.shaped d = true) (s2 : SeqAt.shaped e = true) (q : Q (.bl (!PyData.eqv d e)) H) : rNeD K x y H Q := ⟨d, e, h1, h2, s1, s2, q⟩
theorem k_eqD {x y : V} {d e : PyData} (h1 : Dp K H x d) (h2 : Dp K H y e) (s1 : SeqAt.shaped d = true) (s2 : SeqAt.shaped e = true) (q : Q (.bl (PyData.eqv d e)) H) : rEqD K x y H Q := ⟨d, e, h1, h2, s1, s2, q⟩
theorem k_lenS {z : Str} {R : Int → Prop} (h : z.length ≤ sizeLine) (q : R z.length) : ∃ y : Str, [V.str z] = [V.str y] ∧ y.length ≤ sizeLine ∧ R y.length := ⟨z, rfl, h, q⟩
end
local macro_rules | `(tactic| walk_at "st") => `(tactic| first
  | ((with_reducible show tVar _ _ _ _); refine k_var rfl ?_)
  | (with_reducible first
    | refine k_c ?_ | refine k_op ?_ | refine k_I0 ?_ | refine k_seq ?_ | refine k_asg ?_ | refine k_name ?_ | refine k_cons ?_ | refine k_nil ?_ | refine k_cb ?_
    | refine k_ret ?_ | refine k_ifS ?_ | refine k_test ?_ | refine k_tB ?_ | refine k_bl ?_ | refine k_call ?_ | refine k_make ?_ | refine k_par3 ?_ | refine k_three ?_ | refine k_ipI ?_ | refine k_din ?_ | refine k_dnotin ?_ | refine k_dput ?_ | refine k_prop ?_ | refine k_itup ?_ | refine k_ilst ?_ | refine k_bm0 ?_ | refine k_dc ?_ | refine k_prs ?_ | refine k_prn ?_ | refine k_lc ?_ | refine k_yesT ?_ | refine k_str ?_ | refine k_disp ?_ | refine k_for ?_ | refine k_rng1 ?_ | refine k_drop ?_ | refine k_next ?_ | refine k_sub ?_ | refine k_un ?_ | refine k_U ?_
    | refine k_par ?_ | refine k_two ?_ | refine k_and ?_ | refine k_or ?_ | refine k_not ?_ | refine k_andV ?_ | refine k_orV ?_ | refine k_notV ?_ | refine k_ifE ?_ | refine k_isN ?_ | refine k_notN ?_
    | refine k_gn ?_ | refine k_gc ?_ | refine k_tup ?_ | refine k_lst ?_ | refine k_bm ?_ | refine k_dget ?_ | refine k_fld ?_ | refine k_sl ?_ | refine k_noPart ?_ | refine k_part ?_ | refine k_int ?_
    | refine k_int1 ?_ | refine k_retN ?_ | refine k_cont ?_ | refine k_break ?_)
  | ((with_reducible show rIxL _ _ _ _ _); refine k_ixL (SqL.of (by first | assumption | exact upd_same)) rfl ?_)
  | ((with_reducible show rSetL _ _ _ _ _); refine k_setL (by first | assumption | exact upd_same) rfl ?_)
  | ((with_reducible show tAug _ _ _ _ _ _); refine k_aug rfl ?_)
  | ((with_reducible show rEq _ _ _ _); refine k_eq rfl ?_)
  | ((with_reducible show rNe _ _ _ _); refine k_ne rfl ?_))
local macro_rules | `(tactic| walk_at "go") => `(tactic| repeat (walk_at "st"))
local macro_rules | `(tactic| walk_at "begin") => `(tactic| ((try dsimp only [cxOf]); simp only [L2.start, List.map_cons, List.map_nil, List.length_cons, List.length_nil, Nat.reduceAdd, Nat.reduceSub, List.replicate_succ, List.replicate_zero, List.cons_append, List.nil_append]))
/-! ### a draw: any number below the most -/
def sp_taken (K : PySem.W.Frag) : Sp := fun vs H Q _ => ∃ (a : Addr) (m : Int), vs = [.ref a, .int m] ∧ 0 < m ∧ m.natAbs < 2 ^ 8000 ∧ RowOk K H a ∧
  ∀ (x : Int) (H' : Hp), 0 ≤ x → x < m → RowOk K H' a → Keep a H H' → Q (.int x) H'
section
variable {P : Program} {w : World} {K : PySem.W.Frag} {mg : Str → Option Value} {base : Heap}
theorem ok_law_taken (T : Txt K mg) : FnOk P w K mg base (L2.CX P w) 1 T.a_law_taken T.fd_law_taken ["_law_row", "_law_many"] (sp_taken K) := by
  refine T.F_law_taken.okX sc_law_taken (fun vs H Q E h => ?_) (fun cdv A outer s H vs Q E hr h => ?_)
  · obtain ⟨a, m, rfl, _⟩ := h
    rfl
  · obtain ⟨a, m, rfl, m0, mb, ⟨sc, ns, i, z, r, ea, hs, hn, i0, z0, z1⟩, k⟩ := h
    refine ⟨_, (PSs.nox (pss_cons (ps_if (pt_cmpR op_gt (pe_ix ix_list (pv 0) pe_int (fun _ _ => rfl)) pe_int (nomark _))
  (pss_cons (ps_set (i := 2) sc_law_taken.nd rfl (Or.inl rfl) (pe_op op_mod (pe_callTy call_int1 (by rfl) T.z_int PySem.Pv.boot_int (pa_cons (pe_ix ix_list (pv 0) pe_int (fun _ _ => rfl)) pa_nil)) (pv 1)))
  (pss_cons (ps_asg (pe_op op_fdivW (pe_ix ix_list (pv 0) pe_int (fun _ _ => rfl)) (pv 1)) (pg_sub (pv 0) pe_int set_list))
  (pss_one (ps_ret (pv 2)))))
  pss_nil)
  (pss_cons (ps_asg (pe_op op_add (pe_ix ix_list (pv 0) pe_int (fun _ _ => rfl)) pe_int) (pg_sub (pv 0) pe_int set_list))
  (pss_cons (ps_if (pt_cmpR op_gt (pe_ix ix_list (pv 0) pe_int (fun _ _ => rfl)) (pe_callB call_len_seq (by rfl) T.z_len PySem.boot_len (pa_cons (pe_ix ix_list (pv 0) pe_int (fun _ _ => rfl)) pa_nil)) (nomark _))
  (pss_cons (ps_asg (pe_op op_mod (pe_callTy call_int1 (by rfl) T.z_int PySem.Pv.boot_int (pa_cons (pe_op op_add (pe_op op_mulW (pe_ix ix_list (pv 0) pe_int (fun _ _ => rfl)) pe_int) pe_int) pa_nil)) pe_int) (pg_sub (pv 0) pe_int set_list))
  (pss_one (ps_ret (pe_op op_mod (pe_callTy call_int1 (by rfl) T.z_int PySem.Pv.boot_int (pa_cons (pe_op op_fdivW (pe_ix ix_list (pv 0) pe_int (fun _ _ => rfl)) pe_int) pa_nil)) (pv 1)))))
  pss_nil)
  (pss_cons (ps_set (i := 3) sc_law_taken.nd rfl (Or.inl rfl) (pe_ix ix_list (pe_ix ix_list (pv 0) pe_int (fun _ _ => rfl)) (pe_op op_sub (pe_ix ix_list (pv 0) pe_int (fun _ _ => rfl)) pe_int) (fun _ _ => rfl)))
  (pss_cons (ps_asg (pe_op op_mod (pe_callTy call_int1 (by rfl) T.z_int PySem.Pv.boot_int (pa_cons (pe_op op_add (pe_op op_add (pe_op op_mulW (pe_ix ix_list (pv 0) pe_int (fun _ _ => rfl)) pe_int) (pv 3)) pe_int) pa_nil)) pe_int) (pg_sub (pv 0) pe_int set_list))
  (pss_cons (ps_if (pt_cmpR op_ge (pv 3) (pe_op op_pow pe_int pe_int) (nomark _))
  (pss_one (ps_asg (pe_op op_fdivW (pv 3) (pv 1)) (pg_sub (pv 0) pe_int set_list)))
  pss_nil)
  (pss_one (ps_ret (pe_op op_mod (pe_callTy call_int1 (by rfl) T.z_int PySem.Pv.boot_int (pa_cons (pv 3) pa_nil)) (pv 1))))))))))), ?_⟩
    walk_at "begin"
    walk_at "go"
    have CD : CDivW r m := wide_div m0 mb (by decide) (by decide)
    have CZ : CMulW z 48271 := wide_mul (a := 31) (b := 16) (by omega) (by decide) (by decide) (by decide) (by decide)
    refine k_ite (fun c => ?_) (fun c => ?_)
    · walk_at "go"
      refine k_I m0 ?_
      walk_at "go"
      refine k_I CD ?_
      walk_at "go"
      exact k _ _ (Int.emod_nonneg _ (by omega)) (Int.emod_lt_of_pos _ m0) ⟨sc, ns, i, z, r / m, upd_same, hs.keep Keep.at_ ea, hn, i0, z0, z1⟩ Keep.at_
    · walk_at "go"
      have K1 : Keep a H (upd H a (HO.lst ([V.ref sc, V.int i, V.int z, V.int r].set (Int.toNat 1) (V.int (i + 1))))) := Keep.at_
      refine k_len (.inl (hs.keep K1 ea).sq) ?_
      walk_at "go"
      have zn : ∀ q : Int, 0 ≤ q % 2147483647 ∧ q % 2147483647 < 2147483647 := fun q => ⟨Int.emod_nonneg _ (by decide), Int.emod_lt_of_pos _ (by decide)⟩
      have mn : ∀ q : Int, 0 ≤ q % m ∧ q % m < m := fun q => ⟨Int.emod_nonneg _ (by omega), Int.emod_lt_of_pos _ m0⟩
      refine k_ite (fun c1 => ?_) (fun c1 => ?_)
      · walk_at "go"
        refine k_I CZ ?_
        walk_at "go"
        refine k_I (by decide) ?_
        walk_at "go"
        refine k_I (wide_div (b := 3) (by decide) (by decide) (by decide) (by decide)) ?_
        walk_at "go"
        refine k_I m0 ?_
        exact k _ _ (mn _).1 (mn _).2 ⟨sc, ns, i + 1, _, r, upd_same, (hs.keep K1 ea).keep Keep.at_ upd_same, hn, by omega, (zn _).1, (zn _).2⟩ (K1.trans Keep.at_)
      · walk_at "go"
        rw [List.length_map] at c1
        have hl : (i + 1 - 1).toNat < ns.length := by omega
        refine k_ixL (hs.keep K1 ea).sq (v := V.int (ns[(i + 1 - 1).toNat]'hl)) (at_of (j := (i + 1 - 1).toNat) (by omega) (by rw [List.getElem?_map, List.getElem?_eq_getElem hl]; rfl)) ?_
        generalize ns[(i + 1 - 1).toNat]'hl = cell
        walk_at "go"
        refine k_I CZ ?_
        walk_at "go"
        refine k_I (by decide) ?_
        walk_at "go"
        refine k_I (by exact ⟨by decide, by decide, by decide⟩) ?_
        walk_at "go"
        refine k_ite (fun c2 => ?_) (fun c2 => ?_)
        · walk_at "go"
          refine k_I (wide_div m0 mb (by decide) (by decide)) ?_
          walk_at "go"
          refine k_I m0 ?_
          exact k _ _ (mn _).1 (mn _).2 ⟨sc, ns, i + 1, _, _, upd_same, ((hs.keep K1 ea).keep Keep.at_ upd_same).keep Keep.at_ upd_same, hn, by omega, (zn _).1, (zn _).2⟩ ((K1.trans Keep.at_).trans Keep.at_)
        · walk_at "go"
          refine k_I m0 ?_
          exact k _ _ (mn _).1 (mn _).2 ⟨sc, ns, i + 1, _, _, upd_same, (hs.keep K1 ea).keep Keep.at_ upd_same, hn, by omega, (zn _).1, (zn _).2⟩ (K1.trans Keep.at_)
end
/-! ### enumerate over a tuple -/
section
open Builtin
theorem meets_enumT (t : Addr) (its : Array Value) : Meets (Builtin.«enumerate.__new__» ⟨[.type "enumerate", .ref t], []⟩) (fun _ R st => st.heap.IsTuple t its ∧
    R (.ok (.ret (.ref (st.heap.objs.size + 1)))) { st with heap := (st.heap.push { cls := .type "tuple_iterator", data := .fields #[.ref t, .int 0 0] }).push { cls := .type "enumerate", data := .fields #[.none, .bool false, .ref st.heap.objs.size, rawInt 0, .none, .none] } }) := by
  refine Meets.of_wp fun prog w A R st hh => ?_
  rcases st with ⟨h0, g0, d0, t0, o0⟩
  obtain ⟨isT, q⟩ := hh
  have sub := sub_enumerate
  have L : Heap.IsTuple (Shared.heap ⟨h0, g0, d0, t0, o0⟩) t its := isT
  obtain ⟨ob, e0, c0, n0, dt0⟩ := L
  have z : (Heap.push h0 { cls := .type "tuple_iterator", data := .fields #[.ref t, .int 0 0] }).objs.size = h0.objs.size + 1 := Heap.size_push ..
  have q' := q
  rw [← z] at q'
  wp_walk using PySem.wpAny_pyIter_tuple isT
  refine wpAny_stack_any fun fr => wpAny_pure ?_
  split
  · rename_i cc _ _ _ _ _
    cases (cc == Value.type "enumerate")
    · wp_walk using PySem.wpAny_pyIter_tuple isT
      exact ⟨_, rfl, q'⟩
    · wp_walk using PySem.wpAny_pyIter_tuple isT
      exact ⟨_, rfl, q'⟩
  · wp_walk using PySem.wpAny_pyIter_tuple isT
    exact ⟨_, rfl, q'⟩
end
section
variable {prog : Program} {w : World} {A : Around} {E : Value → Shared → Prop} {s : Shared}
theorem call_enumT {t : Addr} {its : Array Value} {Q : Value → Shared → Prop} (isT : s.heap.IsTuple t its)
    (k : ∀ h', IsEnum h' (s.heap.objs.size + 1) s.heap.objs.size 0 .none → h'.IsTupleIter s.heap.objs.size t 0 → (∀ b o, s.heap.get? b = some o → h'.get? b = some o) →
      Q (.ref (s.heap.objs.size + 1)) { s with heap := h' }) : wpAny (model prog w) A (call (.type "enumerate") [.ref t]) Q E s := by
  have m := meets_enumT t its
  refine callType_new F.called_enumerate (by decide) (F.typeCall_enumerate_1 _) (F.newCall_enumerate_1 _) (fun o => F.args_object_init_2 o _) F.entry_enumerate_new m ⟨isT, ?_⟩
  have z : (Heap.push s.heap { cls := .type "tuple_iterator", data := .fields #[.ref t, .int 0 0] }).objs.size = s.heap.objs.size + 1 := Heap.size_push ..
  have g := Heap.get?_push_size (Heap.push s.heap { cls := .type "tuple_iterator", data := .fields #[.ref t, .int 0 0] })
    (o := { cls := .type "enumerate", data := .fields #[.none, .bool false, .ref s.heap.objs.size, rawInt 0, .none, .none] }) rfl
  rw [z] at g
  exact ⟨⟨_, g, rfl⟩, k _ g ⟨_, Heap.get?_push_of_some _ (Heap.get?_push_size _ rfl), rfl, rfl⟩ fun b o x => Heap.get?_push_of_some _ (Heap.get?_push_of_some _ x)⟩
end
/-- the i-th pair is new: its place and the tuple's item -/
def Iet (K : PySem.W.Frag) (a : Addr) : It :=
  ⟨fun i H => ∃ (xs : List V) (x : V), SqT K H a xs ∧ xs[i]? = some x,
   fun i H v H' => ∃ p x, v = .ref p ∧ H p = none ∧ H' = upd H p (.tup [.int (i : Nat), x]) ∧ ∀ xs, SqT K H a xs → xs[i]? = some x,
   fun i H => ∃ xs : List V, SqT K H a xs ∧ xs.length ≤ i⟩
theorem turn_enumT {P : Program} {w : World} {K : PySem.W.Frag} {es : List Expr} {c : Nat} {tp : Pos} (a e it : Addr) :
    Turn P w K (.Tuple es c tp) (Iet K a) [e, it] e (fun i h => (∃ old, IsEnum h e it ((i : Nat) : Int) old) ∧ h.IsTupleIter it a i ∧ e ≠ it) := by
  have two : ∀ b, b ∈ [e, it] → b = e ∨ b = it := fun b hb => by simpa using hb
  constructor
  case mem => simp
  case obj =>
    rintro i h ⟨⟨old, he⟩, ⟨o, ho, hc, hd⟩, _⟩ b hb
    rcases two b hb with rfl | rfl
    · exact ⟨_, he, fun v q => nomatch q⟩
    · exact ⟨o, ho, fun v q => by rw [hd] at q; cases q⟩
  case keep =>
    rintro i h h' ⟨⟨old, he⟩, hi, ne⟩ k
    exact ⟨⟨old, k e (by simp) _ he⟩, hi.at fun o q => k it (by simp) o q, ne⟩
  case item =>
    rintro X rfl rfl rfl hC i pins s σ H E I hf ⟨⟨old, he⟩, hit, ne⟩ ⟨xs, x, hq, hx⟩
    obtain ⟨its, rv, p, hz⟩ := I.tuple hq
    obtain ⟨u, hu, ru⟩ := rv.get hx
    have le : e < s.heap.objs.size := Heap.lt_size he
    have li : it < s.heap.objs.size := by obtain ⟨_, q, _⟩ := hit; exact Heap.lt_size q
    have pt : s.heap.IsTuple a its.toArray := p
    have na : a ≠ it := fun z => by
      obtain ⟨o1, q1, c1, _⟩ := hit
      obtain ⟨o2, q2, c2, _⟩ := pt
      rw [z, q1] at q2
      cases q2
      rw [c1] at c2
      exact absurd c2 (by simp)
    have nb : e ≠ a := fun z => by
      obtain ⟨o2, q2, c2, _⟩ := pt
      have q3 : s.heap.get? e = _ := he
      rw [z, q2] at q3
      cases q3
      exact absurd c2 (by simp)
    have Dr := Draws.tuple (prog := X.prog) (w := X.w) (A := X.A.in1) (I.ok.hd hC) it a na its.toArray
    refine wpAny_pyNext_enum_itemD (i := i) Dr he ⟨hit, pt⟩ (by simpa using (List.getElem?_eq_some_iff.mp hu).1) ne (by simp [ne, nb]) fun x' h' tk px ho st hT hsz hk => ?_
    have ex : x' = u := by
      have q : its.toArray[i]? = some x' := px
      rw [List.getElem?_toArray, hu] at q
      exact (Option.some.inj q).symm
    subst ex
    refine ⟨_, rfl, wpAny_letOwnedTupleGo_enum (s := { s with heap := h', toks := tk + 1 }) ho fun h2 he2 sb => ?_⟩
    have hT2 : h2.get? s.heap.objs.size = some { cls := .type "tuple", data := .seq #[.int i tk, x'] } := (sb.2 _ (Nat.ne_of_gt le)).trans hT
    have new : ObjOk X.prog X.w (upd H s.heap.objs.size (.tup [.int (i : Nat), x])) h2 s.heap.objs.size (.tup [.int (i : Nat), x]) :=
      ⟨(by decide : 2 ≤ sizeLine), [.int i tk, x'], .cons ⟨_, rfl⟩ (.cons ru .nil), ⟨_, hT2, rfl, _, rfl⟩⟩
    have I1 : Inv X pins σ (upd H s.heap.objs.size (.tup [.int (i : Nat), x])) { s with heap := h2, toks := tk + 1 } :=
      I.turnedNew (ch := [e, it]) (fun b ob hb q => (sb.2 b (fun z => hb (by simp [z]))).trans (hk b ob (fun z => hb (by simp [z])) (fun z => hb (by simp [z])) q)) hf (Nat.le_refl _) new
    refine ⟨.ref s.heap.objs.size, _, I1, rfl, ⟨_, x, rfl, I.hok.fresh (Nat.le_refl _), rfl, fun ys hy => ?_⟩, ⟨⟨x', ?_⟩, ?_, ne⟩, fun b hb => ?_⟩
    · rw [I.tuple_inj hy hq]; exact hx
    · have e1 : ((i + 1 : Nat) : Int) = (i : Int) + 1 := by omega
      rw [e1]; exact he2
    · exact st.1.at fun o q => (sb.2 it (Ne.symm ne)).trans q
    · have lb : b < s.heap.objs.size := by rcases two b hb with rfl | rfl <;> assumption
      rw [upd_ne (Nat.ne_of_lt lb)]
      exact (hf b hb).1
  case done =>
    rintro X rfl rfl rfl hC i pins s σ H E I hf ⟨⟨old, he⟩, hit, ne⟩ ⟨xs, hq, hx⟩
    obtain ⟨its, rv, p, hz⟩ := I.tuple hq
    have pt : s.heap.IsTuple a its.toArray := p
    have na : a ≠ it := fun z => by
      obtain ⟨o1, q1, c1, _⟩ := hit
      obtain ⟨o2, q2, c2, _⟩ := pt
      rw [z, q1] at q2
      cases q2
      rw [c1] at c2
      exact absurd c2 (by simp)
    have out : its.toArray[i]? = none := by
      have hl := rv.length
      rw [List.getElem?_toArray]
      exact List.getElem?_eq_none (by omega)
    have Dr : Draws X.prog X.w X.A.in1 it [it, a] i (fun _ _ => True) (fun j h => j = i ∧ h.IsTupleIter it a j ∧ h.IsTuple a its.toArray) :=
      { live := fun j h st => by obtain ⟨_, ⟨o, ho, _⟩, _⟩ := st; exact ⟨o, ho⟩
        frame := fun j h h' st hk => ⟨st.1, st.2.1.at fun o e => hk it (by simp) o e, st.2.2.at fun o e => hk a (by simp) o e⟩
        item := fun j s Q E hj st hQ => absurd st.1 (Nat.ne_of_lt hj)
        done := fun s Q E st hE => wpAny_nextOf_tuple_end (A := X.A.in1) (I.ok.hd hC) st.2.1 st.2.2 out hE }
    obtain ⟨f0, f1, f2, f3, f4, f5⟩ := hf it (by simp)
    exact wpAny_pyNext_enum_endD Dr he ⟨rfl, hit, pt⟩ fun h' eb => ⟨rfl, I.turned (t' := s.toks) (fun b o hb q => eb b o hb q) f0 f1 f3 f4 f5⟩
  case self =>
    rintro A i s Q E ⟨⟨_, he⟩, _⟩ h
    exact wpAny_pyIter_enum he h
def iEnumT (K : PySem.W.Frag) (ta : TA) : TI := fun σ H R => ta σ H fun vs H1 => ∃ a xs, vs = [.ref a] ∧ SqT K H1 a xs ∧ R (Iet K a) H1
theorem pi_enumT {X : Cx} {e : Expr} {ta : TA} {p pos tpos : Pos} {es : List Expr} {c : Nat} (hg : Gl X "enumerate") (hm : X.mg "enumerate" = none) (ha : PA X [e] ta)
    (hs : starEach [e] X.env = [(false, eval e X.env)] := by rfl) : PI X (.Tuple es c tpos) (.Call (.Name "enumerate" p) [e] [] pos) (iEnumT X.K ta) := by
  constructor
  intro pins s σ H R I h
  refine PyProof.Rows.Call_ (ld_blt I hg hm (show bootBuiltins "enumerate" = some (.type "enumerate") by decide +kernel) (PyProof.Rows.callWith_type1 (thn (ha.run pos pins s σ H _ I h) ?_) hs rfl))
  rintro us s1 ⟨vs, H1, I1, r1, a, xs, rfl, hq, q⟩
  obtain ⟨u, rfl, ru⟩ := vals1 r1
  cases ru
  obtain ⟨its, rv, p', hz⟩ := I1.tuple hq
  have pt : s1.heap.IsTuple a its.toArray := p'
  refine call_enumT pt fun h' he hit hk => wpAny_pyIter_enum he ?_
  have I2 : Inv X pins σ H1 { s1 with heap := h' } := I1.kept (t' := s1.toks) hk
  refine ⟨s1.heap.objs.size + 1, [s1.heap.objs.size + 1, s1.heap.objs.size], _, _, H1, rfl, I2, turn_enumT a (s1.heap.objs.size + 1) s1.heap.objs.size, ⟨⟨.none, he⟩, hit, Nat.succ_ne_self _⟩, fun b hb => ?_, q⟩
  have lb : s1.heap.objs.size ≤ b := by
    have two : b = s1.heap.objs.size + 1 ∨ b = s1.heap.objs.size := by simpa using hb
    rcases two with rfl | rfl
    · exact Nat.le_succ _
    · exact Nat.le_refl _
  exact I1.fpOk lb (I1.hok.fresh lb)
/-- over a tuple that stands still, the place and the item in a new pair -/
theorem for_enumT {K : PySem.W.Frag} {a : Addr} {xs : List V} {g : TG} {tb : TS} {D : Ends} {σ : L2.St} {H : Hp} (Pv : Nat → L2.St → Hp → Prop) (h0 : Pv 0 σ H) (hl : ∀ i σ H, i ≤ xs.length → Pv i σ H → SqT K H a xs)
    (hs : ∀ i x p σ H, xs[i]? = some x → Pv i σ H → H p = none → g (.ref p) σ (upd H p (.tup [.int (i : Nat), x])) fun σ2 H2 => tb { D with nx := Pv (i + 1), ct := Pv (i + 1), bk := D.nx } σ2 H2) (hd : ∀ σ H, Pv xs.length σ H → D.nx σ H) :
    ∃ W : Nat → Nat → L2.St → Hp → Prop, (∃ m, W 0 m σ H) ∧ ∀ i m σ H, W i m σ H → ((Iet K a).stop i H ∧ D.nx σ H) ∨
      ((Iet K a).go i H ∧ ∃ N : L2.St → Hp → Prop, (∀ σ' H', N σ' H' → ∃ m', m' < m ∧ W (i + 1) m' σ' H') ∧ ∀ x H', (Iet K a).yld i H x H' → g x σ H' fun σ2 H2 => tb { D with nx := N, ct := N, bk := D.nx } σ2 H2) := by
  refine ⟨fun i m σ H => m + i = xs.length ∧ Pv i σ H, ⟨xs.length, by simp, h0⟩, fun i m σ H ⟨em, hP⟩ => ?_⟩
  have sq := hl i σ H (by omega) hP
  by_cases c : i < xs.length
  · refine .inr ⟨⟨xs, xs[i], sq, List.getElem?_eq_getElem c⟩, Pv (i + 1), fun σ' H' z => ⟨m - 1, by omega, by omega, z⟩, ?_⟩
    rintro v H' ⟨p, x, rfl, hp, rfl, hx⟩
    exact hs i x p σ H (hx xs sq) hP hp
  · have e : i = xs.length := by omega
    exact .inl ⟨⟨xs, sq, by omega⟩, hd σ H (e ▸ hP)⟩
/-! ### machines as data -/
structure Stp where
  b : Nat
  c : Nat
  e : Nat
  g : Int
structure MD where
  n : Nat
  ss : List Stp
  es : List Nat
def stpV (s : Stp) : List V := [.int (s.b : Nat), .str ⟨#[s.c]⟩, .int (s.e : Nat), .int s.g]
structure Stp.Ok (n : Nat) (s : Stp) : Prop where
  b : s.b < n
  c : 97 ≤ s.c
  c' : s.c ≤ 100
  e : s.e < n
  g : -(10 ^ 30) ≤ s.g
  g' : s.g ≤ 10 ^ 30
def Stp.lt (s t : Stp) : Prop := s.b < t.b ∨ (s.b = t.b ∧ s.c < t.c)
structure MD.Ok (m : MD) : Prop where
  n1 : 1 ≤ m.n
  n8 : m.n ≤ 8
  ok : ∀ s ∈ m.ss, s.Ok m.n
  up : m.ss.Pairwise Stp.lt
  len : m.ss.length ≤ 32
  eb : ∀ e ∈ m.es, e < m.n
  eu : m.es.Pairwise (· < ·)
  el : m.es.length ≤ 8
/-- steps alone, whatever the number of stands -/
structure StOk (N : Nat) (s : Stp) : Prop where
  b : s.b < N
  c : 97 ≤ s.c
  c' : s.c ≤ 100
  e : s.e < N
  g : -(10 ^ 32) ≤ s.g
  g' : s.g ≤ 10 ^ 32
structure SsOk (N : Nat) (ss : List Stp) : Prop where
  n1 : 1 ≤ N
  n64 : N ≤ 63
  ok : ∀ s ∈ ss, StOk N s
  len : ss.length ≤ 300
theorem MD.Ok.sok {m : MD} (o : m.Ok) : SsOk m.n m.ss := ⟨o.n1, by have := o.n8; omega, fun s h => let k := o.ok s h; ⟨k.b, k.c, k.c', k.e, by have := k.g; omega, by have := k.g'; omega⟩, by have := o.len; omega⟩
/-- the steps' tuples -/
def StpsAt (K : PySem.W.Frag) (H : Hp) (vs : List V) (ss : List Stp) : Prop := vs.length = ss.length ∧ ∀ (i : Nat) (s : Stp), ss[i]? = some s → ∃ p, vs[i]? = some (V.ref p) ∧ SqT K H p (stpV s)
def nats (es : List Nat) : List V := es.map fun e => V.int (e : Nat)
def StAt (K : PySem.W.Frag) (H : Hp) (t : Addr) (ss : List Stp) : Prop := ∃ us, SqT K H t us ∧ StpsAt K H us ss
/-- steps and ends as they stand -/
def PartsAt (K : PySem.W.Frag) (H : Hp) (t u : Addr) (m : MD) : Prop := (∃ vs, SqT K H t vs ∧ StpsAt K H vs m.ss) ∧ SqT K H u (nats m.es)
def DAt (K : PySem.W.Frag) (H : Hp) (d : Addr) (m : MD) : Prop := ∃ t u, H d = some (.dK [(.inr "stands", .int (m.n : Nat)), (.inr "steps", .ref t), (.inr "ends", .ref u)]) ∧ PartsAt K H t u m
def mfs (n : Nat) (t u : Addr) : List (Str × V) := [("_stands", .int (n : Nat)), ("_steps", .ref t), ("_ends", .ref u)]
def MAt (K : PySem.W.Frag) (C : Addr) (H : Hp) (x : Addr) (m : MD) : Prop := ∃ dx t u, H x = some (.ins C dx (mfs m.n t u)) ∧ PartsAt K H t u m
section
variable {K : PySem.W.Frag} {a : Addr} {H H' : Hp}
/-- tuples stay -/
def Tups (H H' : Hp) : Prop := (∀ b xs, H b = some (.tup xs) → H' b = some (.tup xs)) ∧ ∀ b o xs, H b = some (.frz o (.tup xs)) → H' b = some (.frz o (.tup xs))
theorem Tups.trans {H H1 H2 : Hp} (a : Tups H H1) (b : Tups H1 H2) : Tups H H2 := ⟨fun c xs e => b.1 c xs (a.1 c xs e), fun c o xs e => b.2 c o xs (a.2 c o xs e)⟩
theorem Tups.sq {p : Addr} {xs : List V} (k : Tups H H') (h : SqT K H p xs) : SqT K H' p xs := by
  rcases h with (h | ⟨o, h⟩) | h
  · exact .inl (.inl (k.1 _ _ h))
  · exact .inl (.inr ⟨o, k.2 _ _ _ h⟩)
  · exact .inr h
theorem Tups.steps {vs : List V} {ss : List Stp} (k : Tups H H') (h : StpsAt K H vs ss) : StpsAt K H' vs ss := ⟨h.1, fun i s e => let ⟨p, e1, q⟩ := h.2 i s e; ⟨p, e1, k.sq q⟩⟩
theorem Tups.stAt {t : Addr} {ss : List Stp} (k : Tups H H') (h : StAt K H t ss) : StAt K H' t ss := let ⟨us, q, z⟩ := h; ⟨us, k.sq q, k.steps z⟩
theorem Tups.parts {t u : Addr} {m : MD} (k : Tups H H') (h : PartsAt K H t u m) : PartsAt K H' t u m := let ⟨⟨vs, q, z⟩, r⟩ := h; ⟨⟨vs, k.sq q, k.steps z⟩, k.sq r⟩
theorem same_tups (k : Same H H') : Tups H H' := ⟨fun _ _ e => k _ _ e, fun _ _ _ e => k _ _ e⟩
theorem Keep.tups {l : List V} (k : Keep a H H') (ha : H a = some (.lst l)) : Tups H H' := ⟨fun b _ e => k _ _ (fun z => by rw [z, ha] at e; cases e) e, fun b _ _ e => k _ _ (fun z => by rw [z, ha] at e; cases e) e⟩
theorem Tups.new {p : Addr} {o : HO} (h : H p = none) : Tups H (upd H p o) := same_tups (Same.new h)
theorem Tups.lst {p : Addr} {xs : List V} {o : HO} (h : H p = some (.lst xs)) : Tups H (upd H p o) := Keep.tups (Keep.at_) h
theorem DAt.keep {d : Addr} {m : MD} {l : List V} (h : DAt K H d m) (k : Keep a H H') (ha : H a = some (.lst l)) : DAt K H' d m :=
  let ⟨t, u, e, q⟩ := h; ⟨t, u, k _ _ (fun z => by rw [z, ha] at e; cases e) e, (k.tups ha).parts q⟩
theorem MAt.keep {C x : Addr} {m : MD} {l : List V} (h : MAt K C H x m) (k : Keep a H H') (ha : H a = some (.lst l)) : MAt K C H' x m :=
  let ⟨dx, t, u, e, q⟩ := h; ⟨dx, t, u, k _ _ (fun z => by rw [z, ha] at e; cases e) e, (k.tups ha).parts q⟩
theorem DAt.same {d : Addr} {m : MD} (h : DAt K H d m) (k : Same H H') : DAt K H' d m := let ⟨t, u, e, q⟩ := h; ⟨t, u, k _ _ e, (same_tups k).parts q⟩
theorem MAt.same {C x : Addr} {m : MD} (h : MAt K C H x m) (k : Same H H') : MAt K C H' x m := let ⟨dx, t, u, e, q⟩ := h; ⟨dx, t, u, k _ _ e, (same_tups k).parts q⟩
theorem StpsAt.snoc {vs : List V} {ss : List Stp} {p : Addr} {s : Stp} (h : StpsAt K H vs ss) (q : SqT K H p (stpV s)) : StpsAt K H (vs ++ [V.ref p]) (ss ++ [s]) := by
  refine ⟨by rw [List.length_append, List.length_append, h.1]; rfl, fun i t e => ?_⟩
  by_cases c : i < ss.length
  · rw [List.getElem?_append_left c] at e
    obtain ⟨r, e1, q1⟩ := h.2 i t e
    exact ⟨r, by rw [List.getElem?_append_left (by rw [h.1]; exact c)]; exact e1, q1⟩
  · rw [List.getElem?_append_right (by omega)] at e
    have z : i - ss.length = 0 := by
      have := (List.getElem?_eq_some_iff.mp e).1
      simp at this
      omega
    rw [z] at e
    cases e
    exact ⟨p, by rw [List.getElem?_append_right (by rw [h.1]; omega), h.1, z]; rfl, q⟩
end
/-! ### what a machine checks -/
def NotInt (K : PySem.W.Frag) (H : Hp) (v : V) : Prop := (∃ b, v = .bl b) ∨ ∃ t, TyX K H v t ∧ PySem.W.kitOne K t (.type "int") = some false
theorem k_isi {K : PySem.W.Frag} {H : Hp} {Q : VK} {x c : V} {t u : Value} {b : Bool} (hc : ClsV c u) (ht : TyX K H x t) (hk : PySem.W.kitOne K t u = some b) (h : Q (.bl b) H) : rIsi K [x, c] H Q := ⟨x, c, t, u, b, rfl, hc, ht, hk, h⟩
theorem k_chain {r r' : R2} {ta tb tc : TE} {σ : L2.St} {H : Hp} {Q : VK} (h : ta σ H fun x H1 => tb σ H1 fun y H2 => r x y H2 fun z H3 => ∃ k, z = .bl k ∧
  (if k = true then tc σ H3 fun w' H4 => r' y w' H4 Q else Q (.bl false) H3)) : tChain r r' ta tb tc σ H Q := h
def sp_whole (K : PySem.W.Frag) : Sp := fun vs H Q _ => ∃ v : V, vs = [v] ∧ ((∃ i, v = .int i ∧ Q (.bl true) H) ∨ (NotInt K H v ∧ Q (.bl false) H))
def sp_between (K : PySem.W.Frag) : Sp := fun vs H Q _ => ∃ (v : V) (lo hi : Int), vs = [v, .int lo, .int hi] ∧ ((∃ i, v = .int i ∧ Q (.bl (decide (lo ≤ i ∧ i ≤ hi))) H) ∨ (NotInt K H v ∧ Q (.bl false) H))
def sp_is_stand (K : PySem.W.Frag) : Sp := fun vs H Q _ => ∃ (v : V) (n : Int), vs = [.int n, v] ∧ ((∃ i, v = .int i ∧ Q (.bl (decide (0 ≤ i ∧ i < n))) H) ∨ (NotInt K H v ∧ Q (.bl false) H))
def sp_check_stands (K : PySem.W.Frag) : Sp := fun vs H Q _ => ∃ n : Int, vs = [.int n] ∧ 1 ≤ n ∧ n ≤ 8 ∧ Q .non H
section
variable {P : Program} {w : World} {K : PySem.W.Frag} {mg : Str → Option Value} {base : Heap}
theorem ok_is_whole_number (T : Txt K mg) : FnOk P w K mg base (L2.CX P w) 1 T.a_is_whole_number T.fd_is_whole_number ["value"] (sp_whole K) := by
  refine T.F_is_whole_number.okX sc_is_whole_number (fun vs H Q E h => ?_) (fun cdv A outer s H vs Q E hr h => ?_)
  · obtain ⟨v, rfl, _⟩ := h
    rfl
  · obtain ⟨v, rfl, k⟩ := h
    refine ⟨_, (PSs.nox (pss_one (ps_ret (pe_and (pe_callB call_isi (by rfl) T.z_isinstance (by decide +kernel) (pa_cons (pv 0) (pa_cons (pe_bltn (v := .ty "int") (by rfl) T.z_int (by decide +kernel) rfl) pa_nil))) (pe_one (pe_not (pe_callB call_isi (by rfl) T.z_isinstance (by decide +kernel) (pa_cons (pv 0) (pa_cons (pe_bltn (v := .ty "bool") (by rfl) T.z_bool (by decide +kernel) rfl) pa_nil))))))))), ?_⟩
    walk_at "begin"
    walk_at "go"
    rcases k with ⟨i, rfl, k⟩ | ⟨⟨b, rfl⟩ | ⟨t, ht, hk⟩, k⟩
    · refine k_isi (.ty _) (.base (.int i)) (kit_ty (b := "int") (r := true) (by decide +kernel)) ?_
      walk_at "go"
      refine iteT ?_
      walk_at "go"
      refine k_isi (.ty _) (.base (.int i)) (kit_ty (b := "bool") (r := false) (by decide +kernel)) ?_
      walk_at "go"
      exact k
    · refine k_isi (.ty _) (.base (.bl b)) (kit_ty (b := "int") (r := true) (by decide +kernel)) ?_
      walk_at "go"
      refine iteT ?_
      walk_at "go"
      refine k_isi (.ty _) (.base (.bl b)) (kit_ty (b := "bool") (r := true) (by decide +kernel)) ?_
      walk_at "go"
      exact k
    · refine k_isi (.ty _) ht hk ?_
      walk_at "go"
      exact iteF k
theorem ok_is_integer_between (T : Txt K mg) : FnOk P w K mg base (L2.CX P w) 2 T.a_is_integer_between T.fd_is_integer_between ["value", "least", "most"] (sp_between K) := by
  refine T.F_is_integer_between.okX sc_is_integer_between (fun vs H Q E h => ?_) (fun cdv A outer s H vs Q E hr h => ?_)
  · obtain ⟨v, lo, hi, rfl, _⟩ := h
    rfl
  · obtain ⟨v, lo, hi, rfl, k⟩ := h
    refine ⟨_, (PSs.nox (pss_one (ps_ret (pe_and (pe_call (ok_is_whole_number T) (hr.mono (by decide)) (by rfl) T.m_is_whole_number T.k_is_whole_number T.b_is_whole_number .nil passL (pa_cons (pv 0) pa_nil)) (pe_one (pe_chain op_le op_le (pv 1) (pv 0) (pv 2))))))), ?_⟩
    walk_at "begin"
    walk_at "go"
    rcases k with ⟨i, rfl, k⟩ | ⟨ni, k⟩
    · refine ⟨_, rfl, .inl ⟨i, rfl, ?_⟩⟩
      walk_at "go"
      refine iteT (k_chain ?_)
      walk_at "go"
      refine k_ite (fun c => ?_) (fun c => ?_)
      · walk_at "go"
        rw [decide_eq_decide.mpr (show lo ≤ i ∧ i ≤ hi ↔ i ≤ hi from ⟨fun z => z.2, fun z => ⟨c, z⟩⟩)] at k
        exact k
      · walk_at "go"
        rw [decide_eq_false (show ¬ (lo ≤ i ∧ i ≤ hi) from fun z => c z.1)] at k
        exact k
    · refine ⟨_, rfl, .inr ⟨ni, ?_⟩⟩
      walk_at "go"
      exact iteF k
theorem ok_is_stand (T : Txt K mg) : FnOk P w K mg base (L2.CX P w) 3 T.a_is_stand T.fd_is_stand ["stands", "value"] (sp_is_stand K) := by
  refine T.F_is_stand.okX sc_is_stand (fun vs H Q E h => ?_) (fun cdv A outer s H vs Q E hr h => ?_)
  · obtain ⟨v, n, rfl, _⟩ := h
    rfl
  · obtain ⟨v, n, rfl, k⟩ := h
    refine ⟨_, (PSs.nox (pss_one (ps_ret (pe_call (ok_is_integer_between T) (hr.mono (by decide)) (by rfl) T.m_is_integer_between T.k_is_integer_between T.b_is_integer_between .nil passL (pa_cons (pv 1) (pa_cons pe_int (pa_cons (pe_op op_sub (pv 0) pe_int) pa_nil))))))), ?_⟩
    walk_at "begin"
    walk_at "go"
    refine ⟨v, 0, n - 1, rfl, ?_⟩
    rcases k with ⟨i, rfl, k⟩ | ⟨ht, k⟩
    · refine .inl ⟨i, rfl, ?_⟩
      rw [decide_eq_decide.mpr (show (0 ≤ i ∧ i < n) ↔ (0 ≤ i ∧ i ≤ n - 1) by omega)] at k
      exact k
    · exact .inr ⟨ht, k⟩
theorem ok_check_stands (T : Txt K mg) : FnOk P w K mg base (L2.CX P w) 3 T.a_check_stands T.fd_check_stands ["stands"] (sp_check_stands K) := by
  refine T.F_check_stands.okX sc_check_stands (fun vs H Q E h => ?_) (fun cdv A outer s H vs Q E hr h => ?_)
  · obtain ⟨n, rfl, _⟩ := h
    rfl
  · obtain ⟨n, rfl, n1, n8, k⟩ := h
    refine ⟨_, (PSs.nox (pss_one (ps_if (pt_not (pt_val (pe_call (ok_is_integer_between T) (hr.mono (by decide)) (by rfl) T.m_is_integer_between T.k_is_integer_between T.b_is_integer_between .nil passL (pa_cons (pv 0) (pa_cons pe_int (pa_cons (pe_glob (by rfl) T.m_MOST_STANDS T.r_MOST_STANDS) pa_nil))))))
  (pss_one ps_never)
  pss_nil))), ?_⟩
    walk_at "begin"
    walk_at "go"
    refine ⟨_, 1, 8, rfl, .inl ⟨n, rfl, ?_⟩⟩
    rw [decide_eq_true (show 1 ≤ n ∧ n ≤ 8 from ⟨n1, n8⟩)]
    walk_at "go"
    refine iteF ?_
    walk_at "go"
    exact k
end
/-! ### (int, text) <= (int, text) -/
def le2 (i : Int) (s : Str) (j : Int) (t : Str) : Bool := if i = j then (if s = t then true else !decide (t.cps.toList < s.cps.toList)) else decide (i ≤ j)
def rLe2 (K : PySem.W.Frag) : R2 := fun x y H Q => ∃ (a b : Addr) (i j : Int) (s t : Str), x = .ref a ∧ y = .ref b ∧ SqT K H a [.int i, .str s] ∧ SqT K H b [.int j, .str t] ∧ Q (.bl (le2 i s j t)) H
theorem op_le2 {X : Cx} (hu : X.A.units < cLine) : OpR X (compareOp .LtE) (rLe2 X.K) := by
  rintro pins st σ H x y v u Q I rx ry ⟨a, b, i, j, s, t, rfl, rfl, ha, hb, q⟩
  cases rx
  cases ry
  obtain ⟨us, r1, p1, _⟩ := I.tuple ha
  obtain ⟨ws, r2, p2, _⟩ := I.tuple hb
  obtain ⟨u1, u2, rfl, ⟨k1, rfl⟩, ⟨k2, rfl⟩⟩ := vals2 r1
  obtain ⟨w1, w2, rfl, ⟨l1, rfl⟩, ⟨l2, rfl⟩⟩ := vals2 r2
  have R := Ob.RcOp.tuples_le (A := X.A) (s := st) (e := fun n => if n = 0 then (i == j) else decide (s = t)) (r := fun n => if n = 0 then decide (i ≤ j) else !decide (t.cps.toList < s.cps.toList)) p1 p2 hu
    (fun n h1 h2 => by
      have n2 : n < 2 := h1
      match n, n2 with
      | 0, _ => exact SeqAt.EqAt.int_int _ _ _ _
      | 1, _ => exact SeqAt.EqAt.str_str _ _ _ _)
    (fun n h1 h2 _ => by
      have n2 : n < 2 := h1
      match n, n2 with
      | 0, _ => exact Ob.RcOp.le_int _ _ _ _
      | 1, _ => exact fun prog w E Q hQ => PySem.P.le_str hQ)
  have z : Ob.lexAt (fun n => if n = 0 then (i == j) else decide (s = t)) (fun n => if n = 0 then decide (i ≤ j) else !decide (t.cps.toList < s.cps.toList)) (decide ((2 : Nat) ≤ 2)) 0 (min 2 2) = le2 i s j t := by
    show Ob.lexAt _ _ _ 0 2 = _
    rw [Ob.lexAt_succ]
    unfold le2
    by_cases c : i = j
    · have c' : (i == j) = true := beq_iff_eq.mpr c
      simp only [if_pos, c', if_pos c]
      rw [Ob.lexAt_succ]
      by_cases d : s = t
      · simp [d, Ob.lexAt_zero]
      · simp [d]
    · have c' : (i == j) = false := beq_eq_false_iff_ne.mpr c
      simp [c']
      exact fun z => absurd z c
  have R' := R X.prog X.w X.xe (EP X pins σ Q) ⟨.bl _, H, I, rfl, (by rw [← z] at q; exact q)⟩
  exact R'
/-! ### steps, ends, machines -/
theorem ty_tup {K : PySem.W.Frag} {H : Hp} {p : Addr} {xs : List V} (h : SqT K H p xs) : TyX K H (.ref p) (.type "tuple") := by
  rcases h with (h | ⟨o, h⟩) | ⟨o, its, n, h, hc, _⟩
  · exact .base (.tup h)
  · exact .fTuple h
  · exact .kTuple h hc
theorem k_in {K : PySem.W.Frag} {neg : Bool} {H : Hp} {Q : VK} {p : Addr} {x : V} {xs : List V} (h : SqL K H p xs ∨ SqT K H p xs) (fx : flatV x = true) (fa : xs.all flatV = true) (q : Q (.bl (if neg then !inV x xs else inV x xs)) H) : rIn K neg x (.ref p) H Q := ⟨p, xs, rfl, h, fx, fa, q⟩
theorem letter_in {c : Nat} (h : 97 ≤ c) (h' : c ≤ 100) : inV (.str ⟨#[c]⟩) [V.str "a", V.str "b", V.str "c", V.str "d"] = true := by
  have z : c = 97 ∨ c = 98 ∨ c = 99 ∨ c = 100 := by omega
  rcases z with rfl | rfl | rfl | rfl <;> decide
theorem k_slA2 {K : PySem.W.Frag} {H : Hp} {Q : VK} {a : Addr} {x y z u : V} (h : SqT K H a [x, y, z, u]) (q : ∀ p, H p = none → Q (.ref p) (upd H p (.tup [x, y]))) : rSlA K (.ref a) none (some 2) H Q :=
  ⟨a, _, rfl, h, fun e => absurd e (by show ¬ ((0 : Nat) = 0 ∧ (2 : Nat) = 4); decide), fun _ p hp => q p hp⟩
theorem le2_no {s t : Stp} (h : s.lt t) : le2 (t.b : Nat) ⟨#[t.c]⟩ (s.b : Nat) ⟨#[s.c]⟩ = false := by
  unfold le2
  rcases h with h | ⟨h1, h2⟩
  · rw [if_neg (by omega), decide_eq_false (by omega)]
  · rw [if_pos (by omega), if_neg (by intro z; injection z with z; simp at z; omega)]
    simp
    exact List.Lex.rel h2
theorem few {n : Nat} (k : Nat) (h : k < 1000) (q : n ≤ k) : n < 1000 := Nat.lt_of_le_of_lt q h
def sp_is_step (K : PySem.W.Frag) : Sp := fun vs H Q _ => ∃ (n : Nat) (p : Addr) (s : Stp), vs = [.int (n : Nat), .ref p] ∧ SqT K H p (stpV s) ∧ s.Ok n ∧ Q (.bl true) H
def sp_check_steps (K : PySem.W.Frag) : Sp := fun vs H Q _ => ∃ (t : Addr) (us : List V) (m : MD), vs = [.int (m.n : Nat), .ref t] ∧ SqT K H t us ∧ StpsAt K H us m.ss ∧ m.Ok ∧ ∀ H', Same H H' → Q .non H'
def sp_check_ends (K : PySem.W.Frag) : Sp := fun vs H Q _ => ∃ (t : Addr) (m : MD), vs = [.int (m.n : Nat), .ref t] ∧ SqT K H t (nats m.es) ∧ m.Ok ∧ ∀ H', Same H H' → Q .non H'
/-- whether values are ascending integers from l to below n -/
def ascV (n : Int) : Int → List V → Bool
  | _, [] => true
  | l, .int j :: r => decide (l ≤ j ∧ j ≤ n - 1) && ascV n (j + 1) r
  | _, _ => false
theorem ascV_odd {n l : Int} {x : V} {r : List V} (h : ∀ j, x ≠ .int j) : ascV n l (x :: r) = false := by
  cases x with
  | int j => exact (h j rfl).elim
  | _ => rfl
theorem ascV_nats {n : Nat} : ∀ {es : List Nat} {l : Nat}, (∀ e ∈ es, e < n) → es.Pairwise (· < ·) → (∀ e ∈ es, l ≤ e) → ascV (n : Nat) (l : Nat) (nats es) = true
  | [], _, _, _, _ => rfl
  | e :: es, l, h1, h2, h3 => by
    show (decide (((l : Nat) : Int) ≤ (e : Nat) ∧ ((e : Nat) : Int) ≤ (n : Nat) - 1) && ascV (n : Nat) (((e + 1 : Nat)) : Int) (nats es)) = true
    have a := h1 e (List.mem_cons_self ..)
    have b := h3 e (List.mem_cons_self ..)
    have c := List.pairwise_cons.mp h2
    rw [decide_eq_true (by omega), ascV_nats (fun x hx => h1 x (List.mem_cons_of_mem _ hx)) c.2 (fun x hx => c.1 x hx)]
    rfl
def sp_asc (K : PySem.W.Frag) : Sp := fun vs H Q _ => ∃ (v : V) (n : Int), vs = [v, .int n] ∧ ((∃ ty, TyX K H v ty ∧ PySem.W.kitOne K ty (.type "tuple") = some false ∧ Q (.bl false) H) ∨
  ∃ t xs, v = .ref t ∧ SqT K H t xs ∧ (∀ x ∈ xs, (∃ j, x = .int j) ∨ (NotInt K H x ∧ ∀ j, x ≠ .int j)) ∧ Q (.bl (ascV n 0 xs)) H)
def sp_init (K : PySem.W.Frag) (C : Addr) : Sp := fun vs H Q _ => ∃ (x dx t u : Addr) (m : MD), vs = [.ref x, .int (m.n : Nat), .ref t, .ref u] ∧ H x = some (.ins C dx []) ∧ PartsAt K H t u m ∧ m.Ok ∧
  ∀ H', Keep x H H' → H' x = some (.ins C dx (mfs m.n t u)) → Q .non H'
def sp_machine (K : PySem.W.Frag) (C : Addr) : Sp := fun vs H Q _ => ∃ (d : Addr) (m : MD), vs = [.ref d] ∧ DAt K H d m ∧ m.Ok ∧ ∀ x H', Same H H' → H x = none → MAt K C H' x m → Q (.ref x) H'
section
variable {P : Program} {w : World} {K : PySem.W.Frag} {mg : Str → Option Value} {base : Heap}
theorem ok_is_step (T : Txt K mg) : FnOk P w K mg base (L2.CX P w) 4 T.a_is_step T.fd_is_step ["stands", "value"] (sp_is_step K) := by
  refine T.F_is_step.okX sc_is_step (fun vs H Q E h => ?_) (fun cdv A outer s H vs Q E hr h => ?_)
  · obtain ⟨n, p, s, rfl, _⟩ := h
    rfl
  · obtain ⟨n, p, t, rfl, hp, o, k⟩ := h
    refine ⟨_, (PSs.nox (pss_cons (ps_if (PW.pt (pw_or (pt_not (pt_val (pe_callB call_isi (by rfl) T.z_isinstance (by decide +kernel) (pa_cons (pv 1) (pa_cons (pe_bltn (v := .ty "tuple") (by rfl) T.z_tuple (by decide +kernel) rfl) pa_nil))))) (pw_or1 (pt_cmpR op_ne (pe_callB call_len_seq (by rfl) T.z_len PySem.boot_len (pa_cons (pv 1) pa_nil)) pe_int (nomark _)))))
  (pss_one (ps_ret pe_bl))
  pss_nil)
  (pss_cons (ps_asg (pv 1) (pg_tup rfl (pgs_cons (pg_name (i := 2) sc_is_step.nd rfl (Or.inl rfl)) (pgs_cons (pg_name (i := 3) sc_is_step.nd rfl (Or.inl rfl)) (pgs_cons (pg_name (i := 4) sc_is_step.nd rfl (Or.inl rfl)) (pgs_cons (pg_name (i := 5) sc_is_step.nd rfl (Or.inl rfl)) pgs_nil))))))
  (pss_one (ps_ret (pe_and (pe_call (ok_is_stand T) (hr.mono (by decide)) (by rfl) T.m_is_stand T.k_is_stand T.b_is_stand .nil passL (pa_cons (pv 0) (pa_cons (pv 2) pa_nil))) (pe_and (pe_cmpR op_in_seq (pv 3) (pe_glob (by rfl) T.m_LETTERS T.r_LETTERS) (by rfl)) (pe_and (pe_call (ok_is_stand T) (hr.mono (by decide)) (by rfl) T.m_is_stand T.k_is_stand T.b_is_stand .nil passL (pa_cons (pv 0) (pa_cons (pv 4) pa_nil))) (pe_one (pe_call (ok_is_integer_between T) (hr.mono (by decide)) (by rfl) T.m_is_integer_between T.k_is_integer_between T.b_is_integer_between .nil passL (pa_cons (pv 5) (pa_cons (pe_un un_neg (pe_glob (by rfl) T.m_MOST_GAIN T.r_MOST_GAIN)) (pa_cons (pe_glob (by rfl) T.m_MOST_GAIN T.r_MOST_GAIN) pa_nil))))))))))))), ?_⟩
    walk_at "begin"
    walk_at "go"
    refine k_isi (.ty _) (ty_tup hp) (kit_ty (b := "tuple") (r := true) (by decide +kernel)) ?_
    walk_at "go"
    refine iteF ?_
    walk_at "go"
    refine k_len (.inr hp) ?_
    walk_at "go"
    refine iteF ?_
    walk_at "go"
    refine k_gt hp rfl ?_
    unfold stpV
    walk_at "go"
    refine ⟨_, _, rfl, .inl ⟨_, rfl, ?_⟩⟩
    rw [decide_eq_true (show 0 ≤ ((t.b : Nat) : Int) ∧ ((t.b : Nat) : Int) < (n : Nat) from ⟨Int.natCast_nonneg _, by have := o.b; omega⟩)]
    walk_at "go"
    refine iteT ?_
    walk_at "go"
    refine k_in (.inr (T.s_LETTERS _)) rfl (by decide) ?_
    rw [letter_in o.c o.c']
    walk_at "go"
    refine iteT ?_
    walk_at "go"
    refine ⟨_, _, rfl, .inl ⟨_, rfl, ?_⟩⟩
    rw [decide_eq_true (show 0 ≤ ((t.e : Nat) : Int) ∧ ((t.e : Nat) : Int) < (n : Nat) from ⟨Int.natCast_nonneg _, by have := o.e; omega⟩)]
    walk_at "go"
    refine iteT ?_
    walk_at "go"
    refine ⟨_, _, _, rfl, .inl ⟨_, rfl, ?_⟩⟩
    rw [decide_eq_true (show -1000000000000000000000000000000 ≤ t.g ∧ t.g ≤ 1000000000000000000000000000000 from ⟨by have := o.g; omega, by have := o.g'; omega⟩)]
    exact k
theorem ok_check_steps (T : Txt K mg) : FnOk P w K mg base (L2.CX P w) 5 T.a_check_steps T.fd_check_steps ["stands", "steps"] (sp_check_steps K) := by
  refine T.F_check_steps.okX sc_check_steps (fun vs H Q E h => ?_) (fun cdv A outer s H vs Q E hr h => ?_)
  · obtain ⟨t, us, m, rfl, _⟩ := h
    rfl
  · obtain ⟨t, us, m, rfl, ht, hs, o, k⟩ := h
    refine ⟨_, (PSs.nox (pss_cons (ps_if (pt_not (pt_val (pe_callB call_isi (by rfl) T.z_isinstance (by decide +kernel) (pa_cons (pv 1) (pa_cons (pe_bltn (v := .ty "tuple") (by rfl) T.z_tuple (by decide +kernel) rfl) pa_nil)))))
  (pss_one ps_never)
  pss_nil)
  (pss_one (ps_for PassesOwn.never rfl (pi_enumT (by rfl) T.z_enumerate (pa_cons (pv 1) pa_nil)) (pg_tup rfl (pgs_cons (pg_name (i := 2) sc_check_steps.nd rfl (Or.inl rfl)) (pgs_cons (pg_name (i := 3) sc_check_steps.nd rfl (Or.inl rfl)) pgs_nil)))
  (pss_cons (ps_if (pt_not (pt_val (pe_call (ok_is_step T) (hr.mono (by decide)) (by rfl) T.m_is_step T.k_is_step T.b_is_step .nil passL (pa_cons (pv 0) (pa_cons (pv 3) pa_nil)))))
  (pss_one ps_never)
  pss_nil)
  (pss_one (ps_if (PW.pt (pw_and (pt_cmpR op_gt (pv 2) pe_int (nomark _)) (pw_and1 (pt_cmpR (op_le2 hr.units0) (pe_slice sl_tupA (pv 3) po_none (po_some pe_int)) (pe_slice sl_tupA (pe_ix ix_tup (pv 1) (pe_op op_sub (pv 2) pe_int) (fun _ _ => rfl)) po_none (po_some pe_int)) (nomark _)))))
  (pss_one ps_never)
  pss_nil))))))), ?_⟩
    walk_at "begin"
    walk_at "go"
    refine k_isi (.ty _) (ty_tup ht) (kit_ty (b := "tuple") (r := true) (by decide +kernel)) ?_
    walk_at "go"
    refine iteF ?_
    walk_at "go"
    refine ⟨_, rfl, t, us, rfl, ht, for_enumT (xs := us) (fun i σ H' => Same H H' ∧ ∃ a b, σ = [some (.int (m.n : Nat)), some (.ref t), a, b]) ⟨Same.refl _, _, _, rfl⟩ (fun i σ H' _ ⟨z, _⟩ => (same_tups z).sq ht) ?_ ?_⟩
    · rintro i x p σ H1 hx ⟨z, a, b, rfl⟩ hp
      have il : i < m.ss.length := by rw [← hs.1]; exact (List.getElem?_eq_some_iff.mp hx).1
      obtain ⟨q, eq, hq⟩ := hs.2 i _ (List.getElem?_eq_getElem il)
      rw [hx] at eq
      cases eq
      have z1 : Same H (upd H1 p (.tup [.int (i : Nat), .ref q])) := z.trans (Same.new hp)
      have hq1 := (same_tups z1).sq hq
      have ok1 := o.ok _ (List.getElem_mem il)
      refine k_gt (SqT.of upd_same) rfl ?_
      walk_at "go"
      refine ⟨m.n, q, _, rfl, hq1, ok1, ?_⟩
      walk_at "go"
      refine iteF ?_
      walk_at "go"
      refine k_ite (fun c => ?_) (fun c => iteF ?_)
      · walk_at "go"
        have jl : i - 1 < m.ss.length := by omega
        obtain ⟨q2, eq2, hq2⟩ := hs.2 (i - 1) _ (List.getElem?_eq_getElem jl)
        refine k_slA2 hq1 fun p1 n1 => ?_
        have z2 := z1.trans (Same.new (o := .tup [.int ((m.ss[i]'il).b : Nat), .str ⟨#[(m.ss[i]'il).c]⟩]) n1)
        walk_at "go"
        refine k_ixT ((same_tups z2).sq ht) (v := .ref q2) (at_of (j := i - 1) (by omega) eq2) ?_
        walk_at "go"
        refine k_slA2 ((same_tups z2).sq hq2) fun p2 n2 => ?_
        have z3 := z2.trans (Same.new (o := .tup [.int ((m.ss[i - 1]'jl).b : Nat), .str ⟨#[(m.ss[i - 1]'jl).c]⟩]) n2)
        refine ⟨p1, p2, _, _, _, _, rfl, rfl, SqT.of (Same.new n2 _ _ upd_same), SqT.of upd_same, ?_⟩
        · have up := List.pairwise_iff_getElem.mp o.up (i - 1) i jl il (by omega)
          rw [le2_no up]
          walk_at "go"
          refine iteF ?_
          walk_at "go"
          exact ⟨z3, _, _, rfl⟩
      · walk_at "go"
        exact ⟨z1, _, _, rfl⟩
    · rintro σ H1 ⟨z, _⟩
      exact k H1 z
theorem ok_is_ascending (T : Txt K mg) : FnOk P w K mg base (L2.CX P w) 3 T.a_is_ascending T.fd_is_ascending ["value", "many"] (sp_asc K) := by
  refine T.F_is_ascending.okX sc_is_ascending (fun vs H Q E h => ?_) (fun cdv A outer s H vs Q E hr h => ?_)
  · obtain ⟨v, n, rfl, _⟩ := h
    rfl
  · obtain ⟨v, n, rfl, h⟩ := h
    refine ⟨_, (PSs.nox (pss_cons (ps_if (pt_not (pt_val (pe_callB call_isi (by rfl) T.z_isinstance (by decide +kernel) (pa_cons (pv 0) (pa_cons (pe_bltn (v := .ty "tuple") (by rfl) T.z_tuple (by decide +kernel) rfl) pa_nil)))))
  (pss_one (ps_ret pe_bl))
  pss_nil)
  (pss_cons (ps_set (i := 2) sc_is_ascending.nd rfl (Or.inl rfl) pe_int)
  (pss_cons (ps_for PassesOwn.never rfl (pi_tup (pv 0)) (pg_name (i := 3) sc_is_ascending.nd rfl (Or.inl rfl))
  (pss_cons (ps_if (pt_not (pt_val (pe_call (ok_is_integer_between T) (hr.mono (by decide)) (by rfl) T.m_is_integer_between T.k_is_integer_between T.b_is_integer_between .nil passL (pa_cons (pv 3) (pa_cons (pv 2) (pa_cons (pe_op op_sub (pv 1) pe_int) pa_nil))))))
  (pss_one (ps_ret pe_bl))
  pss_nil)
  (pss_one (ps_set (i := 2) sc_is_ascending.nd rfl (Or.inl rfl) (pe_op op_add (pv 3) pe_int)))))
  (pss_one (ps_ret pe_bl)))))), ?_⟩
    walk_at "begin"
    walk_at "go"
    rcases h with ⟨ty, h1, h2, k⟩ | ⟨t, xs, rfl, ht, hx, k⟩
    · refine k_isi (.ty _) h1 h2 ?_
      walk_at "go"
      refine iteT ?_
      walk_at "go"
      exact k
    · refine k_isi (.ty _) (ty_tup ht) (kit_ty (b := "tuple") (r := true) (by decide +kernel)) ?_
      walk_at "go"
      refine iteF ?_
      walk_at "go"
      refine ⟨t, rfl, ⟨_, ht⟩, ?_⟩
      refine for_tup (xs := xs) (fun i σ H' => H' = H ∧ ∃ (l : Int) (a : Option V), σ = [some (.ref t), some (.int n), some (.int l), a] ∧ ascV n 0 xs = ascV n l (xs.drop i)) ⟨rfl, 0, _, rfl, rfl⟩ (fun i σ H' _ ⟨e, _⟩ => by rw [e]; exact ht) ?_ ?_
      · rintro i x σ H1 hx1 ⟨rfl, l, a, rfl, eq⟩
        have il : i < xs.length := (List.getElem?_eq_some_iff.mp hx1).1
        have dr : xs.drop i = x :: xs.drop (i + 1) := by rw [List.drop_eq_getElem_cons il, (List.getElem?_eq_some_iff.mp hx1).2]
        rw [dr] at eq
        walk_at "go"
        rcases hx x (List.mem_of_getElem? hx1) with ⟨j, rfl⟩ | ⟨ni, nj⟩
        · refine ⟨_, _, _, rfl, .inl ⟨j, rfl, ?_⟩⟩
          by_cases c : l ≤ j ∧ j ≤ n - 1
          · rw [decide_eq_true c]
            walk_at "go"
            refine iteF ?_
            walk_at "go"
            refine ⟨rfl, _, _, rfl, ?_⟩
            rw [eq]
            show (decide (l ≤ j ∧ j ≤ n - 1) && ascV n (j + 1) (xs.drop (i + 1))) = _
            rw [decide_eq_true c]
            rfl
          · rw [decide_eq_false c]
            walk_at "go"
            refine iteT ?_
            walk_at "go"
            have e2 : ascV n 0 xs = false := by
              rw [eq]
              show (decide (l ≤ j ∧ j ≤ n - 1) && ascV n (j + 1) (xs.drop (i + 1))) = _
              rw [decide_eq_false c]
              rfl
            rw [e2] at k
            exact k
        · refine ⟨_, _, _, rfl, .inr ⟨ni, ?_⟩⟩
          walk_at "go"
          refine iteT ?_
          walk_at "go"
          have e2 : ascV n 0 xs = false := by
            rw [eq]
            exact ascV_odd nj
          rw [e2] at k
          exact k
      · rintro σ H1 ⟨rfl, l, a, rfl, eq⟩
        rw [List.drop_length] at eq
        rw [eq] at k
        walk_at "go"
        exact k
theorem ok_check_ends (T : Txt K mg) : FnOk P w K mg base (L2.CX P w) 4 T.a_check_ends T.fd_check_ends ["stands", "ends"] (sp_check_ends K) := by
  refine T.F_check_ends.okX sc_check_ends (fun vs H Q E h => ?_) (fun cdv A outer s H vs Q E hr h => ?_)
  · obtain ⟨t, m, rfl, _⟩ := h
    rfl
  · obtain ⟨t, m, rfl, ht, o, k⟩ := h
    refine ⟨_, (PSs.nox (pss_one (ps_if (pt_not (pt_val (pe_call (ok_is_ascending T) (hr.mono (by decide)) (by rfl) T.m_is_ascending T.k_is_ascending T.b_is_ascending .nil passL (pa_cons (pv 1) (pa_cons (pv 0) pa_nil)))))
  (pss_one ps_never)
  pss_nil))), ?_⟩
    walk_at "begin"
    walk_at "go"
    refine ⟨_, _, rfl, .inr ⟨t, _, rfl, ht, fun x h => ?_, ?_⟩⟩
    · obtain ⟨e, _, rfl⟩ := List.mem_map.mp h
      exact .inl ⟨_, rfl⟩
    rw [show ascV (m.n : Nat) 0 (nats m.es) = true from ascV_nats (l := 0) (fun e h => o.eb e h) o.eu (fun _ _ => Nat.zero_le _)]
    walk_at "go"
    refine iteF ?_
    walk_at "go"
    exact k H (Same.refl _)
theorem ok_Machine_init (T : Txt K mg) : FnOk P w K mg base (L2.CX P w) 6 T.a_Machine_init T.fd_Machine_init ["self", "stands", "steps", "ends"] (sp_init K T.c_Machine) := by
  refine T.F_Machine_init.okX sc_Machine_init (fun vs H Q E h => ?_) (fun cdv A outer s H vs Q E hr h => ?_)
  · obtain ⟨x, dx, t, u, m, rfl, _⟩ := h
    rfl
  · obtain ⟨x, dx, t, u, m, rfl, hx, ⟨⟨us, ht, hs⟩, hu⟩, o, k⟩ := h
    refine ⟨_, (PSs.nox (pss_cons (ps_expr (pe_call (ok_check_stands T) (hr.mono (by decide)) (by rfl) T.m_check_stands T.k_check_stands T.b_check_stands .nil passL (pa_cons (pv 1) pa_nil)))
  (pss_cons (ps_expr (pe_call (ok_check_steps T) (hr.mono (by decide)) (by rfl) T.m_check_steps T.k_check_steps T.b_check_steps .nil passL (pa_cons (pv 1) (pa_cons (pv 2) pa_nil))))
  (pss_cons (ps_expr (pe_call (ok_check_ends T) (hr.mono (by decide)) (by rfl) T.m_check_ends T.k_check_ends T.b_check_ends .nil passL (pa_cons (pv 1) (pa_cons (pv 3) pa_nil))))
  (pss_cons (ps_fld (pv 0) (pv 1) rfl)
  (pss_cons (ps_fld (pv 0) (pv 2) rfl)
  (pss_one (ps_fld (pv 0) (pv 3) rfl)))))))), ?_⟩
    walk_at "begin"
    walk_at "go"
    refine ⟨_, rfl, by have := o.n1; omega, by have := o.n8; omega, ?_⟩
    walk_at "go"
    refine ⟨t, us, m, rfl, ht, hs, o, fun H1 z1 => ?_⟩
    walk_at "go"
    refine ⟨u, m, rfl, (same_tups z1).sq hu, o, fun H2 z2 => ?_⟩
    walk_at "go"
    have e2 : H2 x = some (.ins T.c_Machine dx []) := z2 _ _ (z1 _ _ hx)
    refine ⟨_, rfl, _, rfl, x, _, dx, _, rfl, e2, T.cl_Machine, T.n__stands, (by decide : 0 < 1000), ?_⟩
    refine ⟨_, rfl, _, rfl, x, _, dx, _, rfl, upd_same, T.cl_Machine, T.n__steps, few 1 (by decide) (length_putF _ _ _), ?_⟩
    refine ⟨_, rfl, _, rfl, x, _, dx, _, rfl, upd_same, T.cl_Machine, T.n__ends, few 2 (by decide) (Nat.le_trans (length_putF _ _ _) (Nat.succ_le_succ (length_putF _ _ _))), ?_⟩
    refine k _ (((Keep.of_same (z1.trans z2)).trans Keep.at_).trans (Keep.at_.trans Keep.at_)) ?_
    rw [upd_same]
    rfl
theorem ok_law_machine (T : Txt K mg) : FnOk P w K mg base (L2.CX P w) 8 T.a_law_machine T.fd_law_machine ["_law_d"] (sp_machine K T.c_Machine) := by
  refine T.F_law_machine.okX sc_law_machine (fun vs H Q E h => ?_) (fun cdv A outer s H vs Q E hr h => ?_)
  · obtain ⟨d, m, rfl, _⟩ := h
    rfl
  · obtain ⟨d, m, rfl, ⟨t, u, hd, hp⟩, o, k⟩ := h
    refine ⟨_, (PSs.nox (pss_one (ps_ret (pe_make T.mk_Machine (ok_Machine_init T) (hr.mono (by decide)) (by rfl) T.m_Machine T.b_Machine_init .nil passL (pa_cons (pe_dget (hu_of hr) (pv 0) pe_str (fun _ _ => rfl)) (pa_cons (pe_dget (hu_of hr) (pv 0) pe_str (fun _ _ => rfl)) (pa_cons (pe_dget (hu_of hr) (pv 0) pe_str (fun _ _ => rfl)) pa_nil))))))), ?_⟩
    walk_at "begin"
    walk_at "go"
    refine ⟨d, .int (m.n : Nat), rfl, DGet.k (k := .inr "stands") hd, ?_⟩
    walk_at "go"
    refine ⟨d, .ref t, rfl, DGet.k (k := .inr "steps") hd, ?_⟩
    walk_at "go"
    refine ⟨d, .ref u, rfl, DGet.k (k := .inr "ends") hd, ?_⟩
    walk_at "go"
    intro x dx hx hdx ne
    refine ⟨x, dx, t, u, m, rfl, upd_same, (same_tups ((Same.new hdx).trans (Same.new ?_))).parts hp, o, fun H' z e => ⟨rfl, ?_⟩⟩
    · rw [upd_ne ne.symm]; exact hx
    · have zz : Same H H' := fun b ob eb => z b ob (ne_of_none eb hx) (by rw [upd_ne (ne_of_none eb hx), upd_ne (ne_of_none eb hdx)]; exact eb)
      exact k x H' zz hx ⟨dx, t, u, e, (same_tups zz).parts hp⟩
end
/-! ### the drawn machines -/
def sp_parts (K : PySem.W.Frag) : Sp := fun vs H Q _ => ∃ (a : Addr) (st : Nat) (sz : Int), vs = [.ref a, .int (st : Nat), .int sz] ∧ 1 ≤ st ∧ st ≤ 8 ∧ 0 ≤ sz ∧ 2 * sz + 1 ≤ 10 ^ 30 ∧ RowOk K H a ∧
  ∀ (d : Addr) (m : MD) (H' : Hp), m.Ok → m.n ≤ st → (∀ s ∈ m.ss, -(2 * sz + 1) ≤ s.g ∧ s.g ≤ 2 * sz + 1) → DAt K H' d m → RowOk K H' a → Keep a H H' → H d = none → Q (.ref d) H'
theorem abcd_cut {k : Nat} (h1 : 1 ≤ k) (h4 : k ≤ 4) : cutS "abcd" none (some ((k : Nat) : Int)) = ⟨(([97, 98, 99, 100] : List Nat).take k).toArray⟩ := by
  have z : k = 1 ∨ k = 2 ∨ k = 3 ∨ k = 4 := by omega
  rcases z with rfl | rfl | rfl | rfl <;> decide
theorem abcd_at {k j c : Nat} (h : (([97, 98, 99, 100] : List Nat).take k).toArray[j]? = some c) : c = 97 + j ∧ j < 4 := by
  rw [List.getElem?_toArray, List.getElem?_take] at h
  split at h
  · match j, h with
    | 0, h => simp at h; omega
    | 1, h => simp at h; omega
    | 2, h => simp at h; omega
    | 3, h => simp at h; omega
    | n + 4, h => simp at h
  · cases h
/-- the steps so far: of the stands below i, and of i by the first j letters -/
structure Sofar (K : PySem.W.Frag) (H : Hp) (l : Addr) (n : Nat) (sz : Int) (i j : Nat) (ss : List Stp) : Prop where
  at_ : ∃ vs, H l = some (.lst vs) ∧ StpsAt K H vs ss
  ok : ∀ s ∈ ss, s.Ok n
  up : ss.Pairwise Stp.lt
  bd : ∀ s ∈ ss, s.b < i ∨ (s.b = i ∧ s.c < 97 + j)
  gb : ∀ s ∈ ss, -(2 * sz + 1) ≤ s.g ∧ s.g ≤ 2 * sz + 1
  len : ss.length ≤ 4 * i + j
theorem Sofar.keep {K : PySem.W.Frag} {H H' : Hp} {l a : Addr} {n i j : Nat} {sz : Int} {ss : List Stp} {xs : List V} (h : Sofar K H l n sz i j ss) (k : Keep a H H') (ha : H a = some (.lst xs)) (ne : l ≠ a) : Sofar K H' l n sz i j ss :=
  let ⟨vs, e, q⟩ := h.at_
  ⟨⟨vs, k _ _ ne e, (k.tups ha).steps q⟩, h.ok, h.up, h.bd, h.gb, h.len⟩
theorem Sofar.more {K : PySem.W.Frag} {H : Hp} {l : Addr} {n i j j' : Nat} {sz : Int} {ss : List Stp} (h : Sofar K H l n sz i j ss) (e : j ≤ j') : Sofar K H l n sz i j' ss :=
  ⟨h.at_, h.ok, h.up, fun s hs => (h.bd s hs).imp id fun z => ⟨z.1, by omega⟩, h.gb, by have := h.len; omega⟩
theorem Sofar.line {K : PySem.W.Frag} {H : Hp} {l : Addr} {n i j : Nat} {sz : Int} {ss : List Stp} (h : Sofar K H l n sz i j ss) (e : j ≤ 4) : Sofar K H l n sz (i + 1) 0 ss :=
  ⟨h.at_, h.ok, h.up, fun s hs => .inl (by rcases h.bd s hs with z | z <;> omega), h.gb, by have := h.len; omega⟩
theorem Sofar.snoc {K : PySem.W.Frag} {H : Hp} {l p : Addr} {n i j e : Nat} {sz g : Int} {ss : List Stp} (h : Sofar K H l n sz i j ss) (hp : H p = none) (hi : i < n) (hj : j < 4) (he : e < n) (z1 : 2 * sz + 1 ≤ 10 ^ 30)
    (g1 : -(2 * sz + 1) ≤ g) (g2 : g ≤ 2 * sz + 1) : ∀ vs, H l = some (.lst vs) →
    Sofar K (upd (upd H p (.tup (stpV ⟨i, 97 + j, e, g⟩))) l (.lst (vs ++ [.ref p]))) l n sz i (j + 1) (ss ++ [⟨i, 97 + j, e, g⟩]) := fun vs ev => by
  obtain ⟨vs', e', q⟩ := h.at_
  rw [ev] at e'
  cases e'
  have np : l ≠ p := ne_of_none ev hp
  have t1 : Tups H (upd H p (.tup (stpV ⟨i, 97 + j, e, g⟩))) := Tups.new hp
  have el : (upd H p (.tup (stpV ⟨i, 97 + j, e, g⟩))) l = some (.lst vs) := by rw [upd_ne np]; exact ev
  have t2 := Tups.lst (o := .lst (vs ++ [.ref p])) el
  have mem : ∀ s, s ∈ ss ++ [(⟨i, 97 + j, e, g⟩ : Stp)] → s ∈ ss ∨ s = ⟨i, 97 + j, e, g⟩ := fun s hs => by simpa using hs
  refine ⟨⟨_, upd_same, (t2.steps ((t1.steps q).snoc (SqT.of upd_same)))⟩, fun s hs => ?_, ?_, fun s hs => ?_, fun s hs => ?_, ?_⟩
  · rcases mem s hs with hs | rfl
    · exact h.ok s hs
    · exact ⟨hi, by show 97 ≤ 97 + j; omega, by show 97 + j ≤ 100; omega, he, by show -(10 ^ 30) ≤ g; omega, by show g ≤ 10 ^ 30; omega⟩
  · refine List.pairwise_append.mpr ⟨h.up, List.pairwise_singleton _ _, fun s hs t ht => ?_⟩
    have ht' : t = ⟨i, 97 + j, e, g⟩ := by simpa using ht
    subst ht'
    rcases h.bd s hs with z | ⟨z, z'⟩
    · exact .inl z
    · exact .inr ⟨z, z'⟩
  · rcases mem s hs with hs | rfl
    · rcases h.bd s hs with z | ⟨z, z'⟩
      · exact .inl z
      · exact .inr ⟨z, by omega⟩
    · exact .inr ⟨rfl, by show 97 + j < 97 + (j + 1); omega⟩
  · rcases mem s hs with hs | rfl
    · exact h.gb s hs
    · exact ⟨g1, g2⟩
  · rw [List.length_append, List.length_singleton]
    have := h.len
    omega
section
variable {P : Program} {w : World} {K : PySem.W.Frag} {mg : Str → Option Value} {base : Heap}
theorem ok_law_parts (T : Txt K mg) : FnOk P w K mg base (L2.CX P w) 2 T.a_law_parts T.fd_law_parts ["_law_row", "_law_stands", "_law_size"] (sp_parts K) := by
  refine T.F_law_parts.okX sc_law_parts (fun vs H Q E h => ?_) (fun cdv A outer s H vs Q E hr h => ?_)
  · obtain ⟨a, st, sz, rfl, _⟩ := h
    rfl
  · obtain ⟨a, st, sz, rfl, st1, st8, sz0, sz1, R0, k⟩ := h
    refine ⟨_, (PSs.nox (pss_cons (ps_par (i := 3) (j := 4) (by rfl) sc_law_parts.nd rfl rfl (by decide) rfl rfl (pa_cons (pe_op op_add pe_int (pe_call (ok_law_taken T) (hr.mono (by decide)) (by rfl) T.m_law_taken T.k_law_taken T.b_law_taken .nil passL (pa_cons (pv 0) (pa_cons (pv 1) pa_nil)))) (pa_cons (pe_call (ok_law_taken T) (hr.mono (by decide)) (by rfl) T.m_law_taken T.k_law_taken T.b_law_taken .nil passL (pa_cons (pv 0) (pa_cons pe_int pa_nil))) pa_nil)) (by rfl))
  (pss_cons (ps_setLc (i := 5) (own := [("_law_stand", 13)]) (g := (gName 13)) (tt := tYes) rfl sc_law_parts.nd rfl rfl (sw_true rfl rfl rfl (by decide +kernel)) (pi_range1 (by rfl) T.z_range (pa_cons (pv 3) pa_nil)) (blkOk_by (own := [("_law_stand", 13)]) (N := ["_law_row", "_law_stands", "_law_size", "_law_many", "_law_kind", "_law_heights", "_law_steps", "_law_letters", "_law_begun", "_law_letter", "_law_end", "_law_gain", "_law_ends", "_law_stand"]) (sc := defScope s_law_parts) (by decide +kernel)) (fun _ _ _ _ _ => (pg_name (i := 13) sc_law_parts.nd rfl (Or.inl rfl))) (fun _ _ _ _ _ => pts_nil) (fun _ _ _ _ _ => (pe_op op_sub (pe_call (ok_law_taken T) (hr.mono (by decide)) (by rfl) T.m_law_taken T.k_law_taken T.b_law_taken .nil passL (pa_cons (pv 0) (pa_cons (pe_op op_add (pe_op op_mulW pe_int (pv 2)) pe_int) pa_nil))) (pv 2))))
  (pss_cons (ps_par (i := 6) (j := 7) (by rfl) sc_law_parts.nd rfl rfl (by decide) rfl rfl (pa_cons (pe_lst pa_nil) (pa_cons (pe_slice sl_str pe_str po_none (po_some (pe_op op_add pe_int (pe_call (ok_law_taken T) (hr.mono (by decide)) (by rfl) T.m_law_taken T.k_law_taken T.b_law_taken .nil passL (pa_cons (pv 0) (pa_cons pe_int pa_nil)))))) pa_nil)) (by rfl))
  (pss_cons (ps_for PassesOwn.never rfl (pi_range1 (by rfl) T.z_range (pa_cons (pv 3) pa_nil)) (pg_name (i := 8) sc_law_parts.nd rfl (Or.inl rfl))
  (pss_one (ps_for PassesOwn.never rfl (pi_str (pv 7)) (pg_name (i := 9) sc_law_parts.nd rfl (Or.inl rfl))
  (pss_one (ps_if (pt_cmpR op_gt (pe_call (ok_law_taken T) (hr.mono (by decide)) (by rfl) T.m_law_taken T.k_law_taken T.b_law_taken .nil passL (pa_cons (pv 0) (pa_cons pe_int pa_nil))) pe_int (nomark _))
  (pss_cons (ps_set (i := 10) sc_law_parts.nd rfl (Or.inl rfl) (pe_call (ok_law_taken T) (hr.mono (by decide)) (by rfl) T.m_law_taken T.k_law_taken T.b_law_taken .nil passL (pa_cons (pv 0) (pa_cons (pv 3) pa_nil))))
  (pss_cons (ps_set (i := 11) sc_law_parts.nd rfl (Or.inl rfl) (pe_op op_sub (pe_ix ix_list (pv 5) (pv 10) (fun _ _ => rfl)) (pe_ix ix_list (pv 5) (pv 8) (fun _ _ => rfl))))
  (C8.pss_cut (ps_if (PW.pt (pw_or (PW.pt (pw_and (pt_cmpR op_eq (pv 4) pe_int (nomark _)) (pw_and1 (pt_cmpR op_eq (pe_call (ok_law_taken T) (hr.mono (by decide)) (by rfl) T.m_law_taken T.k_law_taken T.b_law_taken .nil passL (pa_cons (pv 0) (pa_cons pe_int pa_nil))) pe_int (nomark _))))) (pw_or1 (pt_cmpR op_eq (pv 4) pe_int (nomark _)))))
  (pss_one (ps_set (i := 11) sc_law_parts.nd rfl (Or.inl rfl) (pe_op op_sub (pe_call (ok_law_taken T) (hr.mono (by decide)) (by rfl) T.m_law_taken T.k_law_taken T.b_law_taken .nil passL (pa_cons (pv 0) (pa_cons (pe_op op_add (pe_op op_mulW pe_int (pv 2)) pe_int) pa_nil))) (pv 2))))
  pss_nil)
  (C8.pss_cut (ps_if (PW.pt (pw_and (pt_cmpR op_eq (pv 4) pe_int (nomark _)) (pw_and1 (pt_cmpR op_eq (pe_call (ok_law_taken T) (hr.mono (by decide)) (by rfl) T.m_law_taken T.k_law_taken T.b_law_taken .nil passL (pa_cons (pv 0) (pa_cons pe_int pa_nil))) pe_int (nomark _)))))
  (pss_one (ps_set (i := 11) sc_law_parts.nd rfl (Or.inl rfl) (pe_op op_add (pv 11) pe_int)))
  pss_nil)
  (pss_one (ps_expr (pe_bm PySem.F.plainAttrs_list PySem.F.slot_list_append PySem.F.type_list_append mt_append (pv 6) (pa_cons (pe_tup (pa_cons (pv 8) (pa_cons (pv 9) (pa_cons (pv 10) (pa_cons (pv 11) pa_nil))))) pa_nil))))))))
  pss_nil)))))
  (pss_cons (ps_set (i := 12) sc_law_parts.nd rfl (Or.inl rfl) (pe_callTy call_tuple_of (by rfl) T.z_tuple PySem.Pv.boot_tuple (pa_cons (pe_lc (own := [("_law_stand", 13)]) (g := (gName 13)) rfl sc_law_parts.nd (pi_range1 (by rfl) T.z_range (pa_cons (pv 3) pa_nil)) (blkOk_by (own := [("_law_stand", 13)]) (N := ["_law_row", "_law_stands", "_law_size", "_law_many", "_law_kind", "_law_heights", "_law_steps", "_law_letters", "_law_begun", "_law_letter", "_law_end", "_law_gain", "_law_ends", "_law_stand"]) (sc := defScope s_law_parts) (by decide +kernel)) (fun _ _ _ _ _ => (pg_name (i := 13) sc_law_parts.nd rfl (Or.inl rfl))) (fun _ _ _ _ _ => (pts_one (pt_cmpR op_eq (pe_call (ok_law_taken T) (hr.mono (by decide)) (by rfl) T.m_law_taken T.k_law_taken T.b_law_taken .nil passL (pa_cons (pv 0) (pa_cons pe_int pa_nil))) pe_int (nomark _)))) (fun _ _ _ _ _ => (pv 13))) pa_nil)))
  (pss_one (ps_ret (pe_disp (pps_cons pe_str (pv 3) (pps_cons pe_str (pe_callTy call_tuple_of (by rfl) T.z_tuple PySem.Pv.boot_tuple (pa_cons (pv 6) pa_nil)) (pps_cons pe_str (pv 12) pps_nil))) (by rfl) (by rfl) (fun z => by cases z) (by decide)))))))))), ?_⟩
    walk_at "begin"
    walk_at "go"
    refine ⟨a, _, rfl, by omega, by omega, R0, fun x1 H1 x1a x1b R1 K1 => ?_⟩
    obtain ⟨y, rfl⟩ := Int.eq_ofNat_of_zero_le x1a
    walk_at "go"
    refine ⟨a, 4, rfl, by omega, by decide, R1, fun kind H2 kda kdb R2 K2 => ?_⟩
    walk_at "go"
    have en : (1 + (y : Int)) = ((y + 1 : Nat) : Int) := by omega
    rw [en]
    refine k_rg (by omega) (by omega) fun D hD => ?_
    have K02 := K1.trans K2
    have nD : a ≠ D := R2.ne hD
    have hD0 : H D = none := K02.free nD.symm hD
    have CM : CMulW 2 sz := wide_mul (a := 2) (b := 101) (by decide) (by omega) (by decide) (by decide) (by decide)
    have small : ∀ {hs : List Int} {i : Nat}, hs.length = i → i < 100 → (hs.map V.int).length < sizeLine := fun e q => by
      rw [List.length_map, e]
      exact Nat.lt_trans q (by decide)
    -- the heights
    refine lc_range (lo := 0) (n := (((y + 1 : Nat) : Int)).toNat) (fun i H' => Keep a H H' ∧ RowOk K H' a ∧ ∃ hs : List Int, H' D = some (.lst (hs.map V.int)) ∧ hs.length = i ∧ ∀ h ∈ hs, -sz ≤ h ∧ h ≤ sz)
      ⟨K02.trans (Keep.new hD), R2.same (Same.new hD), [], upd_same, rfl, fun _ h => absurd h (by simp)⟩ ?_ ?_
    · rintro i H3 hi ⟨K3, R3, hs, eD, hl, hb⟩
      walk_at "go"
      refine ⟨rfl, ?_⟩
      walk_at "go"
      refine iteT ?_
      walk_at "go"
      refine k_I CM ?_
      walk_at "go"
      refine ⟨a, _, rfl, by omega, by omega, R3, fun x H4 xa xb R4 K4 => ?_⟩
      walk_at "go"
      have eD4 := K4 _ _ nD.symm eD
      refine ⟨_, eD4, small hl (by omega), (K3.trans K4).mut hD0, R4.keep nD eD4 Keep.at_, hs ++ [x - sz], ?_, ?_, ?_⟩
      · rw [upd_same, List.map_append]; rfl
      · rw [List.length_append, hl]; rfl
      · intro h hh
        rcases List.mem_append.mp hh with hh | hh
        · exact hb h hh
        · have : h = x - sz := by simpa using hh
          omega
    · rintro H3 ⟨K3, R3, hs, eD, hl, hb⟩
      walk_at "go"
      refine ⟨Nat.zero_le _, fun l hl0 => ?_⟩
      have nl : a ≠ l := R3.ne hl0
      have hlH : H l = none := K3.free nl.symm hl0
      have nDl : D ≠ l := ne_of_none eD hl0
      walk_at "go"
      refine ⟨a, 4, rfl, by omega, by decide, R3.same (Same.new hl0), fun x2 H4 xa xb R4 K4 => ?_⟩
      obtain ⟨y2, rfl⟩ := Int.eq_ofNat_of_zero_le xa
      have en2 : (1 + (y2 : Int)) = ((y2 + 1 : Nat) : Int) := by omega
      walk_at "go"
      rw [en2]
      refine k_slS (by decide) ?_
      rw [abcd_cut (by omega) (by omega)]
      walk_at "go"
      refine k_rg (by omega) (by omega) ?_
      have K04 : Keep a H H4 := (K3.trans (Keep.new hl0)).trans K4
      have eD4 : H4 D = some (.lst (hs.map V.int)) := K4 _ _ nD.symm (Keep.new (a := a) hl0 _ _ nD.symm eD)
      have el4 : H4 l = some (.lst []) := K4 _ _ nl.symm upd_same
      clear K3 R3 eD K4
      -- the steps
      obtain ⟨LT, hLT⟩ : ∃ z : Str, z = ⟨(([97, 98, 99, 100] : List Nat).take (y2 + 1)).toArray⟩ := ⟨_, rfl⟩
      rw [← hLT]
      have nat : ∀ z : Nat, ((z : Int)).toNat = z := fun z => rfl
      refine for_range (lo := 0) (n := (((y + 1 : Nat) : Int)).toNat) (fun i σ H' => ∃ ss s8 s9 s10 s11, Keep a H H' ∧ RowOk K H' a ∧ H' D = some (.lst (hs.map V.int)) ∧ Sofar K H' l (y + 1) sz i 0 ss ∧
        σ = [some (.ref a), some (.int (st : Nat)), some (.int sz), some (.int ((y + 1 : Nat) : Int)), some (.int kind), some (.ref D), some (.ref l), some (.str LT), s8, s9, s10, s11, none, none])
        ⟨[], none, none, none, none, K04, R4, eD4, ⟨⟨[], el4, rfl, fun _ _ h => absurd h (by simp)⟩, fun _ h => absurd h (by simp), .nil, fun _ h => absurd h (by simp), fun _ h => absurd h (by simp), Nat.zero_le _⟩, rfl⟩ ?_ ?_
      · rintro i σ H5 hi ⟨ss, s8, s9, s10, s11, K5, R5, eD5, S5, rfl⟩
        walk_at "go"
        refine ⟨_, rfl, for_it walk_str (fun j σ H' => ∃ ss s9 s10 s11, Keep a H H' ∧ RowOk K H' a ∧ H' D = some (.lst (hs.map V.int)) ∧ Sofar K H' l (y + 1) sz i j ss ∧
          σ = [some (.ref a), some (.int (st : Nat)), some (.int sz), some (.int ((y + 1 : Nat) : Int)), some (.int kind), some (.ref D), some (.ref l), some (.str LT), some (.int (0 + (i : Nat))), s9, s10, s11, none, none])
          ⟨ss, s9, s10, s11, K5, R5, eD5, S5, rfl⟩ (fun _ _ _ _ _ => trivial) ?_ ?_⟩
        · rintro j x σ H6 H6' hj ⟨ss, s9, s10, s11, K6, R6, eD6, S6, rfl⟩ ⟨rfl, c, hc, rfl⟩
          have hc' : c = 97 + j ∧ j < 4 := by
            rw [hLT] at hc
            exact abcd_at hc
          obtain ⟨rfl, j4⟩ := hc'
          walk_at "go"
          refine ⟨a, 4, rfl, by omega, by decide, R6, fun x1 H7 _ _ R7 K7 => ?_⟩
          walk_at "go"
          have eD7 := K7 _ _ nD.symm eD6
          obtain ⟨lr, er6⟩ := R6.lst
          have S7 := S6.keep K7 er6 nl.symm
          refine k_ite (fun c1 => ?_) (fun c1 => ?_)
          · walk_at "go"
            refine ⟨a, _, rfl, by omega, by omega, R7, fun x2 H8 x2a x2b R8 K8 => ?_⟩
            obtain ⟨e, rfl⟩ := Int.eq_ofNat_of_zero_le x2a
            have eD8 := K8 _ _ nD.symm eD7
            obtain ⟨lr7, er7⟩ := R7.lst
            have S8 := S7.keep K8 er7 nl.symm
            walk_at "go"
            have le : e < hs.length := by rw [hl, nat]; omega
            have li : i < hs.length := by rw [hl, nat]; omega
            refine k_ixL (SqL.of eD8) (v := .int (hs[e]'le)) (at_of (j := e) rfl (by rw [List.getElem?_map, List.getElem?_eq_getElem le]; rfl)) ?_
            walk_at "go"
            refine k_ixL (SqL.of eD8) (v := .int (hs[i]'li)) (at_of (j := i) (by omega) (by rw [List.getElem?_map, List.getElem?_eq_getElem li]; rfl)) ?_
            have be := hb _ (List.getElem_mem le)
            have bi := hb _ (List.getElem_mem li)
            generalize hs[e]'le = he at be ⊢
            generalize hs[i]'li = hi' at bi ⊢
            walk_at "go"
            have K68 := (K6.trans K7).trans K8
            refine k_cut (fun σ' H' => ∃ g, -(2 * sz) ≤ g ∧ g ≤ 2 * sz ∧ Keep a H H' ∧ RowOk K H' a ∧ H' D = some (.lst (hs.map V.int)) ∧ Sofar K H' l (y + 1) sz i j ss ∧
              σ' = [some (.ref a), some (.int (st : Nat)), some (.int sz), some (.int ((y + 1 : Nat) : Int)), some (.int kind), some (.ref D), some (.ref l), some (.str LT), some (.int (0 + (i : Nat))), some (.str ⟨#[97 + j]⟩), some (.int (e : Nat)), some (.int g), none, none]) ?_ ?_
            · have old : ∀ H', Keep a H8 H' → RowOk K H' a → H' D = some (.lst (hs.map V.int)) ∧ Sofar K H' l (y + 1) sz i j ss := fun H' kk rr => by
                obtain ⟨lr8, er8⟩ := R8.lst
                exact ⟨kk _ _ nD.symm eD8, S8.keep kk er8 nl.symm⟩
              have draw : ∀ H9, Keep a H8 H9 → RowOk K H9 a → ∀ x H10, 0 ≤ x → x < 2 * sz + 1 → RowOk K H10 a → Keep a H9 H10 → -(2 * sz) ≤ x - sz ∧ x - sz ≤ 2 * sz ∧ Keep a H H10 ∧ RowOk K H10 a ∧ H10 D = some (.lst (hs.map V.int)) ∧ Sofar K H10 l (y + 1) sz i j ss := fun H9 k9 r9 x H10 x0 x1 r10 k10 => by
                have o := old H10 (k9.trans k10) r10
                exact ⟨by omega, by omega, (K68.trans k9).trans k10, r10, o.1, o.2⟩
              walk_at "go"
              refine k_ite (fun d1 => ?_) (fun d1 => ?_)
              · walk_at "go"
                refine ⟨a, 4, rfl, by omega, by decide, R8, fun x3 H9 _ _ R9 K9 => ?_⟩
                walk_at "go"
                refine k_ite (fun d2 => ?_) (fun d2 => ?_)
                · refine iteT ?_
                  walk_at "go"
                  refine k_I CM ?_
                  walk_at "go"
                  refine ⟨a, _, rfl, by omega, by omega, R9, fun x4 H10 x4a x4b R10 K10 => ?_⟩
                  walk_at "go"
                  obtain ⟨q1, q2, q3, q4, q5, q6⟩ := draw H9 K9 R9 x4 H10 x4a x4b R10 K10
                  exact ⟨_, q1, q2, q3, q4, q5, q6, rfl⟩
                · walk_at "go"
                  refine k_ite (fun d3 => ?_) (fun d3 => ?_)
                  · rw [d1] at d3; exact absurd d3 (by decide)
                  · walk_at "go"
                    exact ⟨_, by omega, by omega, K68.trans K9, R9, (old H9 K9 R9).1, (old H9 K9 R9).2, rfl⟩
              · refine iteF ?_
                walk_at "go"
                refine k_ite (fun d3 => ?_) (fun d3 => ?_)
                · walk_at "go"
                  refine k_I CM ?_
                  walk_at "go"
                  refine ⟨a, _, rfl, by omega, by omega, R8, fun x4 H10 x4a x4b R10 K10 => ?_⟩
                  walk_at "go"
                  obtain ⟨q1, q2, q3, q4, q5, q6⟩ := draw H8 (Keep.refl _ _) R8 x4 H10 x4a x4b R10 K10
                  exact ⟨_, q1, q2, q3, q4, q5, q6, rfl⟩
                · walk_at "go"
                  exact ⟨_, by omega, by omega, K68, R8, eD8, S8, rfl⟩
            · rintro σ' H9 ⟨g, g1, g2, K9, R9, eD9, S9, rfl⟩
              refine k_cut (fun σ' H' => ∃ g, -(2 * sz + 1) ≤ g ∧ g ≤ 2 * sz + 1 ∧ Keep a H H' ∧ RowOk K H' a ∧ H' D = some (.lst (hs.map V.int)) ∧ Sofar K H' l (y + 1) sz i j ss ∧
                σ' = [some (.ref a), some (.int (st : Nat)), some (.int sz), some (.int ((y + 1 : Nat) : Int)), some (.int kind), some (.ref D), some (.ref l), some (.str LT), some (.int (0 + (i : Nat))), some (.str ⟨#[97 + j]⟩), some (.int (e : Nat)), some (.int g), none, none]) ?_ ?_
              · walk_at "go"
                refine k_ite (fun d1 => ?_) (fun d1 => ?_)
                · walk_at "go"
                  refine ⟨a, 3, rfl, by omega, by decide, R9, fun x3 H10 _ _ R10 K10 => ?_⟩
                  obtain ⟨lr9, er9⟩ := R9.lst
                  have eD10 := K10 _ _ nD.symm eD9
                  have S10 := S9.keep K10 er9 nl.symm
                  walk_at "go"
                  refine k_ite (fun d2 => ?_) (fun d2 => ?_)
                  · walk_at "go"
                    exact ⟨_, by omega, by omega, K9.trans K10, R10, eD10, S10, rfl⟩
                  · walk_at "go"
                    exact ⟨_, by omega, by omega, K9.trans K10, R10, eD10, S10, rfl⟩
                · refine iteF ?_
                  walk_at "go"
                  exact ⟨_, by omega, by omega, K9, R9, eD9, S9, rfl⟩
              · rintro σ' H10 ⟨g, g1, g2, K10, R10, eD10, S10, rfl⟩
                walk_at "go"
                obtain ⟨vs10, el10, _⟩ := S10.at_
                refine ⟨.inl ⟨rfl, _, SqL.of el10⟩, ?_⟩
                walk_at "go"
                refine ⟨(by decide : 4 ≤ sizeLine), fun p hp => ?_⟩
                have z0 : (0 + (i : Nat) : Int) = ((i : Nat) : Int) := by omega
                rw [z0]
                walk_at "go"
                have npl : l ≠ p := ne_of_none el10 hp
                have npD : D ≠ p := ne_of_none eD10 hp
                have el11 : (upd H10 p (.tup [.int (i : Nat), .str ⟨#[97 + j]⟩, .int (e : Nat), .int g])) l = some (.lst vs10) := by rw [upd_ne npl]; exact el10
                have lv : vs10.length < sizeLine := by
                  obtain ⟨vs', e', q'⟩ := S10.at_
                  rw [el10] at e'
                  cases e'
                  have := S10.len
                  have : vs10.length < 100 := by rw [q'.1]; omega
                  exact Nat.lt_trans this (by decide)
                refine k_append el11 lv ?_
                walk_at "go"
                have S11 := S10.snoc hp (by omega) j4 (show e < y + 1 by omega) sz1 g1 g2 vs10 el10
                have R11 := R10.same (Same.new (o := .tup [.int (i : Nat), .str ⟨#[97 + j]⟩, .int (e : Nat), .int g]) hp)
                refine ⟨_, some (.str ⟨#[97 + j]⟩), some (.int (e : Nat)), some (.int g), (K10.trans (Keep.new hp)).mut hlH, R11.keep nl el11 Keep.at_, ?_, S11, ?_⟩
                · rw [upd_ne nDl, upd_ne npD]; exact eD10
                · rfl
          · walk_at "go"
            exact ⟨ss, _, _, _, K6.trans K7, R7, eD7, S7.more (Nat.le_succ _), rfl⟩
        · rintro σ H6 ⟨ss, s9, s10, s11, K6, R6, eD6, S6, rfl⟩
          refine ⟨ss, _, _, _, _, K6, R6, eD6, S6.line ?_, rfl⟩
          rw [hLT]
          simp
          omega
      · rintro σ H5 ⟨ss, s8, s9, s10, s11, K5, R5, eD5, S5, rfl⟩
        obtain ⟨vs, el5, q5⟩ := S5.at_
        walk_at "go"
        refine k_rg (by omega) (by omega) fun B hB => ?_
        have nB : a ≠ B := R5.ne hB
        have hB0 : H B = none := K5.free nB.symm hB
        have nlB : l ≠ B := ne_of_none el5 hB
        -- the ends
        refine lc_range (lo := 0) (n := (((y + 1 : Nat) : Int)).toNat) (fun i H' => Keep a H H' ∧ RowOk K H' a ∧ H' l = some (.lst vs) ∧ StpsAt K H' vs ss ∧ ∃ es : List Nat, H' B = some (.lst (nats es)) ∧ es.length ≤ i ∧ (∀ e ∈ es, e < i) ∧ es.Pairwise (· < ·))
          ⟨K5.trans (Keep.new hB), R5.same (Same.new hB), by rw [upd_ne nlB]; exact el5, (Tups.new hB).steps q5, [], upd_same, Nat.le_refl _, fun _ h => absurd h (by simp), .nil⟩ ?_ ?_
        · rintro i H6 hi ⟨K6, R6, el6, q6, es, eB, h1, h2, h3⟩
          obtain ⟨lr6, er6⟩ := R6.lst
          walk_at "go"
          refine ⟨rfl, ?_⟩
          walk_at "go"
          refine ⟨a, 2, rfl, by omega, by decide, R6, fun x H7 _ _ R7 K7 => ?_⟩
          have eB7 := K7 _ _ nB.symm eB
          have el7 := K7 _ _ nl.symm el6
          have q7 := (K7.tups er6).steps q6
          walk_at "go"
          refine k_ite (fun c => ?_) (fun c => ?_)
          · walk_at "go"
            have z0 : (0 + (i : Nat) : Int) = ((i : Nat) : Int) := by omega
            rw [z0]
            refine ⟨_, eB7, ?_, (K6.trans K7).mut hB0, R7.keep nB eB7 Keep.at_, by rw [upd_ne nlB]; exact el7, (Tups.lst eB7).steps q7, es ++ [i], ?_, ?_, ?_, ?_⟩
            · have : (nats es).length < 100 := by unfold nats; rw [List.length_map]; omega
              exact Nat.lt_trans this (by decide)
            · rw [upd_same]; unfold nats; rw [List.map_append]; rfl
            · rw [List.length_append]; simp; omega
            · intro e he
              rcases List.mem_append.mp he with he | he
              · have := h2 e he; omega
              · have : e = i := by simpa using he
                omega
            · refine List.pairwise_append.mpr ⟨h3, List.pairwise_singleton _ _, fun e he f hf => ?_⟩
              have : f = i := by simpa using hf
              have := h2 e he
              omega
          · exact ⟨K6.trans K7, R7, el7, q7, es, eB7, by omega, fun e he => by have := h2 e he; omega, h3⟩
        · rintro H6 ⟨K6, R6, el6, q6, es, eB, h1, h2, h3⟩
          walk_at "go"
          refine ⟨B, _, rfl, .inl ⟨SqL.of eB, fun u hu => ?_⟩⟩
          have nu : a ≠ u := R6.ne hu
          have K7 := K6.trans (Keep.new (o := .tup (nats es)) hu)
          have R7 := R6.same (Same.new (o := .tup (nats es)) hu)
          have el7 : (upd H6 u (.tup (nats es))) l = some (.lst vs) := by rw [upd_ne (ne_of_none el6 hu)]; exact el6
          have q7 := (Tups.new (o := .tup (nats es)) hu).steps q6
          walk_at "go"
          intro d hd
          have K8 := K7.trans (Keep.new (o := .dK []) hd)
          have R8 := R7.same (Same.new (o := .dK []) hd)
          have el8 : (upd (upd H6 u (.tup (nats es))) d (.dK [])) l = some (.lst vs) := by rw [upd_ne (ne_of_none el7 hd)]; exact el7
          have q8 := (Tups.new (o := .dK []) hd).steps q7
          have hd0 : H d = none := K7.free (R7.ne hd).symm hd
          walk_at "go"
          refine ⟨l, vs, rfl, .inl ⟨SqL.of el8, fun t ht => ?_⟩⟩
          walk_at "go"
          have ntd : d ≠ t := ne_of_none upd_same ht
          have e1 : (upd (upd (upd H6 u (.tup (nats es))) d (.dK [])) t (.tup vs)) d = some (.dK []) := by rw [upd_ne ntd, upd_same]
          refine ⟨e1, [(.inr "stands", .int ((y + 1 : Nat) : Int)), (.inr "steps", .ref t), (.inr "ends", .ref u)], rfl, (by decide : 3 ≤ 15), ?_⟩
          have em : mergeK [] [((.inr "stands" : Key), V.int ((y + 1 : Nat) : Int)), (.inr "steps", .ref t), (.inr "ends", .ref u)] = [(.inr "stands", .int ((y + 1 : Nat) : Int)), (.inr "steps", .ref t), (.inr "ends", .ref u)] := rfl
          rw [em]
          have t9 : Tups (upd (upd H6 u (.tup (nats es))) d (.dK [])) (upd (upd (upd H6 u (.tup (nats es))) d (.dK [])) t (.tup vs)) := Tups.new ht
          have nuD : u ≠ d := ne_of_none (upd_same (H := H6) (o := .tup (nats es))) hd
          have t10 : Tups (upd (upd (upd H6 u (.tup (nats es))) d (.dK [])) t (.tup vs)) (upd (upd (upd (upd H6 u (.tup (nats es))) d (.dK [])) t (.tup vs)) d (.dK [(.inr "stands", .int ((y + 1 : Nat) : Int)), (.inr "steps", .ref t), (.inr "ends", .ref u)])) :=
            ⟨fun b xs e => by rw [upd_ne (fun z => by rw [z, e1] at e; cases e)]; exact e, fun b o xs e => by rw [upd_ne (fun z => by rw [z, e1] at e; cases e)]; exact e⟩
          refine k d ⟨y + 1, ss, es⟩ _ ⟨by show 1 ≤ y + 1; omega, by show y + 1 ≤ 8; omega, S5.ok, S5.up, ?_, fun e he => ?_, h3, ?_⟩ (by show y + 1 ≤ st; omega) S5.gb ⟨t, u, upd_same, ⟨vs, t10.sq (SqT.of upd_same), (t10.steps (t9.steps q8))⟩, ?_⟩ ?_ ?_ hd0
          · have := S5.len
            show ss.length ≤ 32
            rw [nat] at this
            omega
          · have := h2 e he
            rw [nat] at this
            exact this
          · show es.length ≤ 8
            rw [nat] at h1
            omega
          · exact t10.sq (t9.sq ((Tups.new (o := .dK []) hd).sq (SqT.of upd_same)))
          · have R9 := R8.same (Same.new (o := .tup vs) ht)
            obtain ⟨sc, ns, i, z, r, e, q, rest⟩ := R9
            have nad : a ≠ d := R7.ne hd
            refine ⟨sc, ns, i, z, r, by rw [upd_ne nad]; exact e, ?_, rest⟩
            rcases q with ⟨o, q⟩ | q
            · exact .inl ⟨o, by rw [upd_ne (fun z => by rw [z, e1] at q; cases q)]; exact q⟩
            · exact .inr q
          · exact (K8.trans (Keep.new ht)).mut hd0
end
/-! ### what is never reached needs no reading -/
theorem ps_any {X : Cx} {st : Stmt} : PS X st (fun _ _ _ => False) := ⟨fun _ _ _ _ _ _ h => h.elim⟩
theorem pss_any {X : Cx} {l : List Stmt} : PSs X l (fun _ _ _ => False) := ⟨fun _ _ _ _ _ _ h => h.elim⟩
theorem pe_any {X : Cx} {e : Expr} : PE X e (fun _ _ _ => False) := ⟨fun _ _ _ _ _ _ h => h.elim⟩
/-! ### an own object whose __init__ may be left by an error -/
def tMakeS (C : Addr) (sp : Sp) (E : L2.St → XK) (t : TA) : TE := fun σ H Q => t σ H fun vs H1 => ∀ x dx, H1 x = none → H1 dx = none → dx ≠ x → sp (.ref x :: vs) (upd (upd H1 dx (.own x)) x (.ins C dx [])) (fun v H2 => v = .non ∧ Q (.ref x) H2) (E σ)
theorem k_makeS {C : Addr} {sp : Sp} {E : L2.St → XK} {t : TA} {σ : L2.St} {H : Hp} {Q : VK} (h : t σ H fun vs H1 => ∀ x dx, H1 x = none → H1 dx = none → dx ≠ x → sp (.ref x :: vs) (upd (upd H1 dx (.own x)) x (.ins C dx [])) (fun v H2 => v = .non ∧ Q (.ref x) H2) (E σ)) : tMakeS C sp E t σ H Q := h
section
variable {X : Cx} {k : Nat} {f C : Addr} {fd : FuncData} {ps : List Str} {sp : Sp} {E : L2.St → XK} {x : Str} {p pos : Pos} {e : Expr} {es : List Expr} {t : TA}
theorem run_makeS {pins : List (Addr × Obj)} {σ : L2.St} {H : Hp} {s : Shared} {Q : VK} {us : List Value} {vs : List V} (M : Mk X.K C f) (F : FnOk X.prog X.w X.K X.mg X.base (L2.CX X.prog X.w) k f fd ps sp) (hr : Room (k + 1) X.A) (hb : Binds X.K fd ps [])
    (hx : PassesAt (L2.CX X.prog X.w) X σ (E σ)) (I : Inv X pins σ H s) (r : Vals vs us)
    (h : ∀ x dx, H x = none → H dx = none → dx ≠ x → sp (.ref x :: vs) (upd (upd H dx (.own x)) x (.ins C dx [])) (fun v H2 => v = .non ∧ Q (.ref x) H2) (E σ)) :
    wpAny (model X.prog X.w) X.A (call (.ref C) us) (EP X pins σ Q) X.xe s := by
  have hq := h (s.heap.objs.size + 1) s.heap.objs.size (I.hok.fresh (Nat.le_succ _)) (I.hok.fresh (Nat.le_refl _)) (Nat.ne_of_lt (Nat.lt_succ_self _))
  have I2 := Inv.made (C := C) I
  have r2 : Vals (V.ref (s.heap.objs.size + 1) :: vs) (Value.ref (s.heap.objs.size + 1) :: us) := .cons rfl r
  have hl : (Value.ref (s.heap.objs.size + 1) :: us ++ []).length = ps.length := by
    have e := r2.length
    rw [F.len _ _ _ _ hq] at e
    rw [List.append_nil]
    exact e.symm
  have b := hb _ (Value.ref (s.heap.objs.size + 1) :: us) I2.kIn hl
  rw [List.append_nil] at b
  refine wpAny_call (make_map (f := f) I.kIn M.makes M.init (beq_iff_eq.mp M.fn) (codeAny_mono (F.run _ X.stack _ _ ⟨Value.ref (s.heap.objs.size + 1) :: us, []⟩ (Value.ref (s.heap.objs.size + 1) :: us) _ _ (E σ) (hr.make C us [])
    (I2.env0.make C us []) b r2 hq) fun r s' hq' => ?_))
  cases r with
  | error e => exact hx pins _ _ e s' I2 hq'
  | ok fl =>
    cases fl with
    | ret u =>
      obtain ⟨v, H', I3, rv, ev, q3⟩ := I2.after hq'
      subst ev
      exact ⟨rv, ⟨V.ref (s.heap.objs.size + 1), H', I3, rfl, q3⟩⟩
    | next => exact False.elim hq'
    | brk => exact False.elim hq'
    | cont => exact False.elim hq'
theorem pe_makeS (M : Mk X.K C f) (F : FnOk X.prog X.w X.K X.mg X.base (L2.CX X.prog X.w) k f fd ps sp) (hr : Room (k + 1) X.A) (hg : Gl X x) (hm : X.mg x = some (.ref C)) (hb : Binds X.K fd ps []) (hx : ∀ σ, PassesAt (L2.CX X.prog X.w) X σ (E σ))
    (ha : PA X (e :: es) t) (hdb : (x == ("__debug__" : Str)) = false := by decide) (he : starEach (e :: es) X.env = (false, eval e X.env) :: starEach es X.env := by rfl) (hpl : (backTo pos (starEach es X.env)).any (·.1) = false := by rfl) :
    PE X (.Call (.Name x p) (e :: es) [] pos) (tMakeS C sp E t) := by
  refine ⟨fun pins s σ H Q I h => ?_⟩
  refine wpAny_Call_Name_kw (ld_glob I hg hm ?_ hdb)
  refine PySem.W.callWith_K (h₀ := X.base) I.ok.mod.kin M.kp (thn (ha.run pos pins s σ H _ I h) fun us s1 ⟨vs, H1, I1, r, q⟩ => ⟨I1.kIn, ?_⟩) he hpl
  exact run_makeS M F hr hb (hx σ) I1 r q
end
theorem exc_rel {K : PySem.W.Frag} {S C : Addr} {b : Bool} (hb : PySem.W.subIn K (.ref C) (.type "BaseException") = some true) (hc : PySem.W.isClsIn K C = true) (ht : PySem.W.typeIn K (.ref C) = some (.type "type")) (hs : PySem.W.subIn K (.ref S) (.ref C) = some b) : PySem.W.exmOne K (.ref S) (.ref C) = some b := by
  have hc' : (PySem.W.clsIn K C).isSome = true := hc
  unfold PySem.W.exmOne PySem.W.kitCls
  simp only [hb, ht, hc', hs, beq_self_eq_true, Bool.and_self, if_true]
theorem FnOk.or {P : Program} {w : World} {K : PySem.W.Frag} {mg : Str → Option Value} {base : Heap} {CX : CXT} {k : Nat} {f : Addr} {fd : FuncData} {ps : List Str} {sp sp' : Sp} (F : FnOk P w K mg base CX k f fd ps sp) (G : FnOk P w K mg base CX k f fd ps sp') :
    FnOk P w K mg base CX k f fd ps (fun vs H Q E => sp vs H Q E ∨ sp' vs H Q E) :=
  ⟨fun vs H Q E q => q.elim (F.len vs H Q E) (G.len vs H Q E), fun A outer s H args us vs Q E hr he hb hv hs => hs.elim (F.run A outer s H args us vs Q E hr he hb hv) (G.run A outer s H args us vs Q E hr he hb hv)⟩
/-! ### several except clauses, some of them with a name -/
/-- what the clauses wish of an exception of the body, one after the other; some i: the slot of the clause's name -/
def wManyA (K : PySem.W.Frag) (Wout : WX) (D : Ends) : List (Value × Option Nat × (Addr → Value → Option Addr → TS)) → WX
  | [] => Wout
  | (c, none, ts) :: r => fun cls d σ H => ∃ b, PySem.W.exmOne K cls c = some b ∧ (b = true → ∀ a, H a = none → ts a cls d D σ H) ∧ (b = false → wManyA K Wout D r cls d σ H)
  | (c, some i, ts) :: r => fun cls d σ H => ∃ b, PySem.W.exmOne K cls c = some b ∧ (b = true → ∀ a, H a = none → ts a cls d { nx := fun σ' H' => D.nx (σ'.set i none) H', rt := D.rt, bk := fun σ' H' => D.bk (σ'.set i none) H', ct := fun σ' H' => D.ct (σ'.set i none) H' } (σ.set i (some (.ref a))) H) ∧
      (b = false → wManyA K Wout D r cls d σ H)
inductive HdsOkA (X : Cx) : List ExceptHandler → List (Value × Option Nat × (Addr → Value → Option Addr → TS)) → Prop
  | nil : HdsOkA X [] []
  | cons {x : Str} {c : Value} {ts : Addr → Value → Option Addr → TS} {b₀ : Stmt} {suite : List Stmt} {np pos' : Pos} {hds : List ExceptHandler} {l : List (Value × Option Nat × (Addr → Value → Option Addr → TS))} (hc : Names X x c)
      (hsu : ∀ (a : Addr) (oe : Obj) (cls : Value) (d : Option Addr) (pn : List (Addr × Obj)), Zc cls d oe → (∃ vs, oe.data = .fields vs) → PSs (X.suite a ((a, oe) :: pn)) (b₀ :: suite) (ts a cls d)) (r : HdsOkA X hds l) :
      HdsOkA X (.ExceptHandler (some (.Name x np)) none (b₀ :: suite) pos' :: hds) ((c, none, ts) :: l)
  | consA {x n : Str} {i : Nat} {c : Value} {ts : Addr → Value → Option Addr → TS} {b₀ : Stmt} {suite : List Stmt} {np pos' : Pos} {hds : List ExceptHandler} {l : List (Value × Option Nat × (Addr → Value → Option Addr → TS))} (hN : X.N.Nodup) (hi : X.N[i]? = some n) (hln : X.env.kindOf n = some .local) (hc : Names X x c)
      (hsu : ∀ (a : Addr) (oe : Obj) (cls : Value) (d : Option Addr) (pn : List (Addr × Obj)), Zc cls d oe → (∃ vs, oe.data = .fields vs) → PSs (X.suite a ((a, oe) :: pn)) (b₀ :: suite) (ts a cls d)) (r : HdsOkA X hds l) :
      HdsOkA X (.ExceptHandler (some (.Name x np)) (some n) (b₀ :: suite) pos' :: hds) ((c, some i, ts) :: l)
section
variable {X : Cx} {body : List Stmt} {h₀ : ExceptHandler} {hds : List ExceptHandler} {l : List (Value × Option Nat × (Addr → Value → Option Addr → TS))} {pos : Pos} {tb : WX → TS} {Wout : WX}
theorem ps_try_manyA (hs : X.stack = X.env :: X.outer) (hf : X.env.frame = some X.env.locals) (tk : Takes X Wout)
    (hb : ∀ (W : WX) (pn : List (Addr × Obj)) (xe : Value → Shared → Prop), Takes (X.tr pn xe) W → PassesOwn (model X.prog X.w) X.A X.env xe → PSs (X.tr pn xe) body (tb W))
    (hh : HdsOkA X (h₀ :: hds) l) : PS X (.Try body (h₀ :: hds) [] [] pos) (fun D σ H => tb (wManyA X.K Wout D l) D σ H) := by
  refine ⟨fun pins s σ H D I h => ?_⟩
  have ok := I.ok
  have hfr : X.A.frames = some (X.env :: X.outer) := by rw [ok.frames, hs]
  refine PySem.wpAny_Try_except ?_
  refine wpAny_mono ((hb (wManyA X.K Wout D l) (X.pn ++ pins) (fun e s₁ => wpAny (model X.prog X.w) X.A (noteFrame e X.env) (fun _ s₂ => wpAny (model X.prog X.w) X.A (setFlight e none) (fun _ s₃ =>
    wpAny (model X.prog X.w) X.A (handleBy e X.env (h₀ :: hds)) (SP X pins D) X.xe s₃) X.xe s₂) X.xe s₁) (fun u s' xx => ?_) PassesOwn.looking).run [] s σ H D (I.toTry _) h) (fun f s1 hsp => ?_) (fun e s1 he => he)
  · -- the catch
    obtain ⟨a, B, sI, pins', σ', H', cls, d, rfl, J', nb, up, sky, na, os, ag, w⟩ := xx
    have J : Inv X pins σ' H' sI := J'.ofTry ok
    have sky' : Sky B (X.env :: X.outer) a (Zc cls d) X.env.locals s'.heap := by rw [← hs]; exact sky
    show wpAny (model X.prog X.w) X.A (noteFrame (.ref a) X.env) _ _ _
    refine Sky.land Zc.steady hfr hf sky' fun h3 fl3 up3 => ?_
    have J3 : Inv X pins σ' H' { s' with heap := h3 } := J.landed nb fl3.1 (up.trans up3) os ag
    obtain ⟨oe3, vs3, he3, hz3, hd3⟩ := fl3.there
    have notFr : ∀ {h : Heap} {o : Obj} {vs : Array Value}, h.FunFrames B (X.env :: X.outer) → h.get? a = some o → o.data = .fields vs → a ∉ frs (X.env :: X.outer) := fun {h o vs} ff e dd hm => by
      obtain ⟨_, o', e', hnf⟩ := ff.mem hm
      rw [e] at e'; cases e'
      exact hnf _ dd
    have nfr := notFr fl3.2.2.1 he3 hd3
    have nL : a ≠ X.env.locals := fun z => nfr (List.mem_filterMap.mpr ⟨X.env, List.mem_cons_self, by rw [hf, z]⟩)
    have nF : a ∉ X.fs := fun hm => by
      obtain ⟨e, he, q⟩ := List.mem_filterMap.mp hm
      exact nfr (List.mem_filterMap.mpr ⟨e, List.mem_cons_of_mem _ he, q⟩)
    have S3 := J3.suite he3 hd3 na nL nF
    have go : ∀ {hds' : List ExceptHandler} {l' : List (Value × Option Nat × (Addr → Value → Option Addr → TS))}, HdsOkA X hds' l' → wManyA X.K Wout D l' cls d σ' H' →
        wpAny (model X.prog X.w) X.A (handleBy (.ref a) X.env hds') (SP X pins D) X.xe { s' with heap := h3 } := by
      intro hds' l' hk
      induction hk with
      | nil =>
        intro w
        refine PySem.wpAny_handleBy_nil ?_
        obtain ⟨k1, k2, k3, oe, vs, T, oT, ts', he, hz, hd, h1, hr⟩ := id fl3
        unfold PySem.passOn
        refine wpAny_bind (wpAny_field he hd h1 ?_)
        rw [if_neg (show ¬ ((Value.ref T == Value.none) = true) from by simp)]
        have fin : wpAny (model X.prog X.w) X.A (setFlight (.ref a) X.env.frame) (fun _ s4 => wpAny (model X.prog X.w) X.A (throw (.ref a) : Sem Flow) (SP X pins D) X.xe s4) X.xe { s' with heap := h3 } := by
          rw [hf]
          refine HandSPX.setFlight_upZ fl3 fun h4 hh4 up4 => wpAny_throw (tk _ _ ?_)
          exact ⟨a, B, sI, pins, σ', H', cls, d, rfl, J, nb, (up.trans up3).trans up4, .inr (.inr (by rw [hs]; exact hh4)), na, os, ag, w⟩
        first
          | exact wpAny_bind (wpAny_pure (wpAny_bind fin))
          | exact wpAny_bind fin
      | @cons x c ts b₀ suite np pos' hds2 l2 hc hsu r ih =>
        intro w
        obtain ⟨b, hb1, hyes, hno⟩ := w
        refine wpAny_handleBy_cons (codeAny_handlers_test ?_) (by intro q; cases q)
        have LT : PySem.W.Looks (model X.prog X.w) h3 (typeOf (.ref a)) cls := fun A Q E s k q => wpAny_typeOf_ref (k _ _ he3) (by rw [hz3.1]; exact q)
        have LM := PySem.W.exm_one (M := model X.prog X.w) (J3.kIn) LT hb1
        have test : ∀ {Q : Value → Shared → Prop} {E : Value → Shared → Prop}, Q c { s' with heap := h3 } → wpAny (model X.prog X.w) (X.A.mark (some (.ref a))) (eval (.Name x np) X.env) Q E { s' with heap := h3 } := fun {Q E} q => by
          obtain ⟨hg, hdbg, hm | ⟨hm, hv, hnn⟩⟩ := hc
          · exact ld_glob (X := X.suite a ((a, oe3) :: (X.pn ++ pins))) S3 hg hm q hdbg
          · exact ld_blt (X := X.suite a ((a, oe3) :: (X.pn ++ pins))) S3 hg hm hv q hnn hdbg
        refine test (LM.here ?_)
        cases b with
        | true =>
          refine codeAny_handlers_suite ?_
          refine HandSPX.lands_againZ fl3 fun h4 fl4 up4 => ?_
          have J4 : Inv X pins σ' H' { s' with heap := h4 } := J.landed nb fl4.1 ((up.trans up3).trans up4) os ag
          obtain ⟨oe4, vs4, he4, hz4, hd4⟩ := fl4.there
          have S4 := J4.suite he4 hd4 na nL nF
          refine wpAny_mono ((hsu a oe4 cls d (X.pn ++ pins) hz4 ⟨_, hd4⟩).run [] _ _ H' _ S4 (hyes rfl a na)) (fun f s6 hsp => ?_) (fun _ _ z => False.elim z)
          cases f with
          | next =>
            obtain ⟨σ6, H6, S6, q6⟩ := hsp
            exact ⟨_, _, S6.unsuite ok, q6⟩
          | brk =>
            obtain ⟨σ6, H6, S6, q6⟩ := hsp
            exact ⟨_, _, S6.unsuite ok, q6⟩
          | cont =>
            obtain ⟨σ6, H6, S6, q6⟩ := hsp
            exact ⟨_, _, S6.unsuite ok, q6⟩
          | ret u =>
            obtain ⟨v6, σ6, H6, S6, r6, q6⟩ := hsp
            exact ⟨_, _, _, S6.unsuite ok, r6, q6⟩
        | false =>
          show wpAny _ X.A (handleBy (.ref a) X.env hds2) _ _ _
          exact ih (hno rfl)
      | @consA x n i c ts b₀ suite np pos' hds2 l2 hN hi hln hc hsu r ih =>
        intro w
        obtain ⟨b, hb1, hyes, hno⟩ := w
        have hloc : Loc X.env.scope n := .inl hln
        refine wpAny_handleBy_cons (codeAny_handlers_test ?_) (by intro q; cases q)
        have LT : PySem.W.Looks (model X.prog X.w) h3 (typeOf (.ref a)) cls := fun A Q E s k q => wpAny_typeOf_ref (k _ _ he3) (by rw [hz3.1]; exact q)
        have LM := PySem.W.exm_one (M := model X.prog X.w) (J3.kIn) LT hb1
        have test : ∀ {Q : Value → Shared → Prop} {E : Value → Shared → Prop}, Q c { s' with heap := h3 } → wpAny (model X.prog X.w) (X.A.mark (some (.ref a))) (eval (.Name x np) X.env) Q E { s' with heap := h3 } := fun {Q E} q => by
          obtain ⟨hg, hdbg, hm | ⟨hm, hv, hnn⟩⟩ := hc
          · exact ld_glob (X := X.suite a ((a, oe3) :: (X.pn ++ pins))) S3 hg hm q hdbg
          · exact ld_blt (X := X.suite a ((a, oe3) :: (X.pn ++ pins))) S3 hg hm hv q hnn hdbg
        refine test (LM.here ?_)
        cases b with
        | true =>
          refine codeAny_handlers_suite_as ?_
          refine HandSPX.lands_againZ fl3 fun h4 fl4 up4 => ?_
          have J4 : Inv X pins σ' H' { s' with heap := h4 } := J.landed nb fl4.1 ((up.trans up3).trans up4) os ag
          obtain ⟨oe4, vs4, he4, hz4, hd4⟩ := fl4.there
          have S4 := J4.suite he4 hd4 na nL nF
          refine store_ok (X := X.suite a ((a, oe4) :: (X.pn ++ pins))) (v := .ref a) S4 hN hi hloc rfl (fun s5 S5 => ?_) (.inr hln)
          refine wpAny_mono ((hsu a oe4 cls d (X.pn ++ pins) hz4 ⟨_, hd4⟩).run [] s5 _ H' _ S5 (hyes rfl a na)) (fun f s6 hsp => ?_) (fun _ _ z => False.elim z)
          have end_ : ∀ {σ6 : L2.St} {H6 : Hp} {Q : Shared → Prop}, Inv (X.suite a ((a, oe4) :: (X.pn ++ pins))) [] σ6 H6 s6 → (∀ s7, Inv X pins (σ6.set i none) H6 s7 → Q s7) →
              wpAny (model X.prog X.w) X.A (do bindName X.env n .none; unbindBehindTheSuite X.env n pos') (fun _ s7 => Q s7) X.xe s6 := fun {σ6 H6 Q} S6 hq => gone_ok (S6.unsuite ok) hN hi hln hq
          cases f with
          | next =>
            obtain ⟨σ6, H6, S6, q6⟩ := hsp
            exact end_ S6 fun s7 J7 => ⟨_, _, J7, q6⟩
          | brk =>
            obtain ⟨σ6, H6, S6, q6⟩ := hsp
            exact end_ S6 fun s7 J7 => ⟨_, _, J7, q6⟩
          | cont =>
            obtain ⟨σ6, H6, S6, q6⟩ := hsp
            exact end_ S6 fun s7 J7 => ⟨_, _, J7, q6⟩
          | ret u =>
            obtain ⟨v6, σ6, H6, S6, r6, q6⟩ := hsp
            exact end_ S6 fun s7 J7 => ⟨_, _, _, J7, r6, q6⟩
        | false =>
          show wpAny _ X.A (handleBy (.ref a) X.env hds2) _ _ _
          exact ih (hno rfl)
    exact go hh w
  · cases f with
    | next =>
      obtain ⟨σ', H', J', q⟩ := hsp
      exact PySem.wpAny_execs_nil ⟨σ', H', J'.ofTry ok, q⟩
    | brk =>
      obtain ⟨σ', H', J', q⟩ := hsp
      exact ⟨σ', H', J'.ofTry ok, q⟩
    | cont =>
      obtain ⟨σ', H', J', q⟩ := hsp
      exact ⟨σ', H', J'.ofTry ok, q⟩
    | ret u =>
      obtain ⟨v, σ', H', J', r, q⟩ := hsp
      exact ⟨v, σ', H', J'.ofTry ok, r, q⟩
end
/-! ### an own error whose __init__ calls its base's, and that is told by a field -/
theorem pe_tveinit {X : Cx} {e : Expr} {es : List Expr} {ta : TA} {p1 p2 pos : Pos} {x : Str} {CB : Addr} {pl : Sem Bool} (hg : Gl X x) (hm : X.mg x = some (.ref CB)) (hr : PySem.W.readsIn X.K CB (.type "type") = true)
    (vV : PySem.W.findCls X.K (.ref CB) (.type "type") "__init__" = some (.val (.builtin "ValueError.__init__"))) (sg : PySem.W.specialIn X.K (.ref CB) "__getattribute__" = some (some (.builtin "type.__getattribute__"))) (ha : PA X (e :: es) ta)
    (hdb : (x == ("__debug__" : Str)) = false := by decide)
    (hc : eval (.Call (.Attribute (.Name x p1) "__init__" p2) (e :: es) [] pos) X.env = (do
      let ov ← eval (.Name x p1) X.env
      standAt p2.atName
      let (f, first) ← holding [ov] (getMethod ov "__init__" pl)
      callWith pos f first (backTo pos (starEach (e :: es) X.env)) (backToKw pos (keywordEach [] X.env))) := by rfl)
    (he : starEach (e :: es) X.env = (false, eval e X.env) :: starEach es X.env := by rfl) (hpl : (backTo pos (starEach es X.env)).any (·.1) = false := by rfl) :
    PE X (.Call (.Attribute (.Name x p1) "__init__" p2) (e :: es) [] pos) (tVeI X.K ta) := by
  refine ⟨fun pins s σ H Q I h => ?_⟩
  refine PySem.W.methodCall_KW (ld_glob I hg hm ?_ hdb) hc
  refine PySem.W.method_cls I.kIn sg (PySem.W.cls_value I.kIn hr vV rfl ?_)
  show wpAny _ _ (callWith pos (Value.builtin "ValueError.__init__") [] (backTo pos (starEach (e :: es) X.env)) []) _ _ _
  refine PyProof.Rows.callWith_method1 (thn (ha.run pos pins _ σ H _ (I.tok _) h) fun us s1 ⟨vs, H1, I1, r1, a, C, ws, ev, hl, T, ea, q⟩ => ?_) he hpl
  subst ev
  cases r1 with
  | @cons _ u0 _ ur ra rw' =>
    obtain rfl : u0 = Value.ref a := ra
    have hlen : ur.length ≤ sizeLine := by
      rw [← Paired.length rw', sizeLine_eq]
      omega
    exact oinit_ok T I1 ea hlen fun s' J => ⟨.non, H1, J, rfl, q⟩
/-- what __init__ of such an error is called with, and leaves -/
def sp_einit (K : PySem.W.Frag) (C : Addr) (f : Str) : Sp := fun vs H Q _ => ∃ (a : Addr) (v : V), vs = [.ref a, v] ∧ H a = some (exo a C none) ∧ ∀ dx, H dx = none → dx ≠ a → Q .non (upd (upd H dx (exd dx [(f, v)])) a (exo a C (some dx)))
theorem k_vei {K : PySem.W.Frag} {ta : TA} {σ : L2.St} {H : Hp} {Q : VK} (h : ta σ H fun vs H1 => ∃ (a C : Addr) (ws : List V), vs = .ref a :: ws ∧ ws.length ≤ 1000 ∧ OexC K C ∧ H1 a = some (exo a C none) ∧ Q .non H1) : tVeI K ta σ H Q := h
theorem k_ost {K : PySem.W.Frag} {f : Str} {to te : TE} {D : Ends} {σ : L2.St} {H : Hp} (h : te σ H fun y H1 => to σ H1 fun x H2 => ∃ a C : Addr, x = .ref a ∧ OexC K C ∧ PySem.W.findIn K (.ref C) f = some none ∧
  ((H2 a = some (exo a C none) ∧ ∀ dx, H2 dx = none → dx ≠ a → D.nx σ (upd (upd H2 dx (exd dx [(f, y)])) a (exo a C (some dx)))) ∨
    ∃ (dx : Addr) (fs : List (Str × V)), H2 a = some (exo a C (some dx)) ∧ H2 dx = some (exd dx fs) ∧ fs.length ≤ 900 ∧ D.nx σ (upd H2 dx (exd dx ((f, y) :: fs))))) : tOst K f to te D σ H := h
theorem k_mkO {C : Addr} {sp : Sp} {dvs : List V} {ta : TA} {σ : L2.St} {H : Hp} {Q : XK} (h : ta σ H fun vs H1 => vs.length ≤ 1000 ∧ ∀ a, H1 a = none → sp (.ref a :: (vs ++ dvs)) (upd H1 a (exo a C none))
  (fun v H2 => v = .non ∧ ∃ (d : Addr) (fs : List (Str × V)), H2 a = some (exo a C (some d)) ∧ H2 d = some (exd d fs) ∧ H1 d = none ∧ Q (.ref C) (some d) (upd (del H2 a) d (.xd fs))) (fun _ _ _ => False)) : tMkO C sp dvs ta σ H Q := h
theorem k_xf {a : Addr} {cls : Value} {d : Option Addr} {C : Addr} {f : Str} {te : TE} {σ : L2.St} {H : Hp} {Q : VK} (h : te σ H fun x H1 => x = .ref a ∧ cls = .ref C ∧ ∃ (dd : Addr) (fs : List (Str × V)) (v : V), d = some dd ∧ H1 dd = some (.xd fs) ∧ fs.lookup f = some v ∧ Q v H1) : tXf a cls d C f te σ H Q := h
/-! ### a call that an error may leave -/
section
variable {K : PySem.W.Frag} {σ : L2.St} {H : Hp} {Q : VK}
theorem k_callS {sp : Sp} {E : L2.St → XK} {t : TA} (h : t σ H fun vs H1 => sp vs H1 Q (E σ)) : tCallS sp E t σ H Q := h
end
/-! ### a machine is one -/
def sp_check_machine (C : Addr) : Sp := fun vs H Q _ => ∃ x dx fs, vs = [.ref x] ∧ H x = some (.ins C dx fs) ∧ Q .non H
section
variable {P : Program} {w : World} {K : PySem.W.Frag} {mg : Str → Option Value} {base : Heap}
theorem ty_Machine (T : Txt K mg) {H : Hp} {x dx : Addr} {fs : List (Str × V)} (h : H x = some (.ins T.c_Machine dx fs)) : TyX K H (.ref x) (.ref T.c_Machine) := .base (.ins h T.cl_Machine T.i1_Machine T.i2_Machine T.i3_Machine T.i4_Machine)
theorem kit_self {C : Addr} : PySem.W.kitOne K (.ref C) (.ref C) = some true := by
  unfold PySem.W.kitOne
  rw [if_pos (by simp)]
end
/-! ### f'..{x}..' of an int or None -/
def tFmtN (te : TE) : TE := fun σ H Q => te σ H fun x H1 => (x = .non ∧ Q (.str "None") H1) ∨ ∃ i : Int, x = .int i ∧ i.natAbs.log2 < 1920 ∧ Q (.str (toString i)) H1
theorem pe_fmtN {X : Cx} {e : Expr} {te : TE} {pos : Pos} (he : PE X e te) : PE X (.FormattedValue e (-1) none pos) (tFmtN te) := by
  refine ⟨fun pins s σ H Q I h => ?_⟩
  refine PySem.wpAny_FormattedValue_plain (thn (he.run pins s σ H _ I h) fun v s1 hv => ?_)
  obtain ⟨x, H1, I1, r1, q⟩ := hv
  rcases q with ⟨rfl, q⟩ | ⟨i, rfl, hz, q⟩
  · cases (show v = Value.none from r1)
    exact PySem.wpAny_formatField_none ⟨.str "None", H1, I1.tok _, ⟨_, rfl⟩, q⟩
  · obtain ⟨t, rfl⟩ := r1
    exact PySem.wpAny_formatField_int hz ⟨.str (toString i), H1, I1.tok _, ⟨_, rfl⟩, q⟩
theorem k_fmtN {te : TE} {σ : L2.St} {H : Hp} {Q : VK} (h : te σ H fun x H1 => (x = .non ∧ Q (.str "None") H1) ∨ ∃ i : Int, x = .int i ∧ i.natAbs.log2 < 1920 ∧ Q (.str (toString i)) H1) : tFmtN te σ H Q := h
/-! ### == of the own class -/
def rEqO (K : PySem.W.Frag) (C : Addr) (sp : Sp) : R2 := fun x y H Q => ∃ (a dx : Addr) (fs : List (Str × V)) (tb : Value), x = .ref a ∧ H a = some (.ins C dx fs) ∧ TyX K H y tb ∧ PySem.W.notFirst K C tb = true ∧ sp [x, y] H (fun v H' => (∃ b, v = .bl b) ∧ Q v H') E0
theorem op_eqO {X : Cx} {C f : Addr} {fd : FuncData} {ps : List Str} {sp : Sp} {n : Nat} (F : FnOk X.prog X.w X.K X.mg X.base (L2.CX X.prog X.w) n f fd ps sp) (hr : Room n X.A)
    (hs : PySem.W.findIn X.K (.ref C) "__eq__" = some (some (.ref f))) (hf : PySem.W.isFn X.K (.ref f) = true) (hb : Binds X.K fd ps []) : OpR X (compareOp .Eq) (rEqO X.K C sp) := by
  intro pins s σ H x y v u Q I rx ry h
  obtain ⟨a, dx, fs, tb, rfl, ha, ty, hn, hsp⟩ := h
  obtain rfl : v = Value.ref a := rx
  obtain ⟨mA, J, _⟩ := ins_get I.hok ha
  obtain ⟨od, J, _⟩ := J.look
  obtain ⟨m, hF⟩ := I.fr
  obtain ⟨Pk, hk, hp, _⟩ := kit_of I ry ty
  show wpAny (model X.prog X.w) X.A (richCompare .Eq (.ref a) u) (EP X pins σ Q) X.xe s
  refine PySem.W.cmp_K (op := .Eq) (tb := tb) hr.units0 hF I.ok.mod.kin J (hk.ty _ _ I.kIn hp) hn hs hf ?_
  have r2 : Vals [V.ref a, y] [Value.ref a, u] := .cons rfl (.cons ry .nil)
  have hl := F.len _ _ _ _ hsp
  refine wpAny_call (codeAny_mono (F.run X.A X.stack s H ⟨[.ref a, u], []⟩ [.ref a, u] [.ref a, y] _ E0 hr I.env0 (by
    have := hb s [.ref a, u] I.kIn (by simpa using hl)
    simpa using this) r2 hsp) fun r s' hq => ?_)
  cases r with
  | error e => exact passL pins σ H s e s' I hq
  | ok fl =>
    cases fl with
    | ret w =>
      obtain ⟨z, H', I', rz, ⟨b, ez⟩, q⟩ := I.after hq
      subst ez
      cases (show w = Value.bool b from rz)
      exact ⟨.bl b, H', I', rfl, q⟩
    | next => exact False.elim hq
    | brk => exact False.elim hq
    | cont => exact False.elim hq
/-! ### what is no machine's part -/
def BadNum (K : PySem.W.Frag) (H : Hp) (lo hi : Int) (v : V) : Prop := (∃ i : Int, v = .int i ∧ ¬ (lo ≤ i ∧ i ≤ hi)) ∨ NotInt K H v
def NotTup (K : PySem.W.Frag) (H : Hp) (v : V) : Prop := ∃ ty, TyX K H v ty ∧ PySem.W.kitOne K ty (.type "tuple") = some false
/-- a value that can be read where an integer is asked for -/
def Num (K : PySem.W.Frag) (H : Hp) (x : V) : Prop := (∃ j, x = .int j) ∨ (NotInt K H x ∧ ∀ j, x ≠ .int j)
def btw (lo hi : Int) : V → Bool
  | .int j => decide (lo ≤ j ∧ j ≤ hi)
  | _ => false
def stepB (n : Int) (b l e g : V) : Bool := btw 0 (n - 1) b && inV l [V.str "a", V.str "b", V.str "c", V.str "d"] && btw 0 (n - 1) e && btw (-(10 ^ 30)) (10 ^ 30) g
theorem btw_odd {lo hi : Int} {x : V} (h : ∀ j, x ≠ .int j) : btw lo hi x = false := by
  cases x with
  | int j => exact (h j rfl).elim
  | _ => rfl
def NotStep (K : PySem.W.Frag) (H : Hp) (n : Int) (v : V) : Prop := NotTup K H v ∨ ∃ q xs, v = .ref q ∧ SqT K H q xs ∧ (xs.length ≠ 4 ∨ ∃ b l e g, xs = [b, l, e, g] ∧ Num K H b ∧ Num K H e ∧ Num K H g ∧ flatV l = true ∧ stepB n b l e g = false)
def sp_is_stepG (K : PySem.W.Frag) : Sp := fun vs H Q _ => ∃ (n : Int) (v : V), vs = [.int n, v] ∧ ((NotStep K H n v ∧ Q (.bl false) H) ∨ ∃ (m : Nat) (p : Addr) (s : Stp), n = (m : Nat) ∧ v = .ref p ∧ SqT K H p (stpV s) ∧ s.Ok m ∧ Q (.bl true) H)
theorem le2_yes {s t : Stp} (h : ¬ s.lt t) : le2 (t.b : Nat) ⟨#[t.c]⟩ (s.b : Nat) ⟨#[s.c]⟩ = true := by
  unfold le2
  by_cases hb : t.b = s.b
  · rw [if_pos (by rw [hb])]
    by_cases hc : t.c = s.c
    · rw [if_pos (by rw [hc])]
    · have hn : ¬ s.c < t.c := fun z => h (.inr ⟨hb.symm, z⟩)
      have hl : ¬ ([s.c] : List Nat) < [t.c] := fun z => by
        rw [List.cons_lt_cons_iff] at z
        rcases z with z | ⟨_, z⟩
        · exact hn z
        · cases z
      rw [if_neg (by intro z; injection z with z; simp at z; exact hc z)]
      show (!decide (([s.c] : List Nat) < [t.c])) = true
      rw [decide_eq_false hl]
      rfl
  · rw [if_neg (by omega)]
    have : t.b < s.b := by
      rcases Nat.lt_or_ge t.b s.b with z | z
      · exact z
      · exact absurd (.inl (by omega)) h
    exact decide_eq_true (by omega)
/-- where steps are wrong first, and what is told -/
def BadStp (K : PySem.W.Frag) (H : Hp) (n : Nat) (v w : V) : Prop := (NotTup K H v ∧ w = .non) ∨ ∃ (p : Addr) (us : List V) (ss : List Stp) (y : V), v = .ref p ∧ SqT K H p us ∧ w = .int (ss.length : Nat) ∧ us.length < 1000 ∧ us[ss.length]? = some y ∧
  (∀ (i : Nat) (s : Stp), ss[i]? = some s → ∃ q, us[i]? = some (V.ref q) ∧ SqT K H q (stpV s)) ∧ (∀ s ∈ ss, s.Ok n) ∧ ss.Pairwise Stp.lt ∧
  ((∀ H', Same H H' → NotStep K H' (n : Nat) y) ∨ ∃ (q : Addr) (s l : Stp), y = .ref q ∧ SqT K H q (stpV s) ∧ s.Ok n ∧ ss.getLast? = some l ∧ ¬ l.lt s)
def sp_stands_bad (K : PySem.W.Frag) (B : Addr) : Sp := fun vs H _ E => ∃ v, vs = [v] ∧ BadNum K H 1 8 v ∧ E (.ref B) none H
def sp_steps_bad (K : PySem.W.Frag) (B : Addr) : Sp := fun vs H _ E => ∃ (n : Nat) (v w : V), vs = [.int (n : Nat), v] ∧ BadStp K H n v w ∧ ∀ d H', Same H H' → H' d = some (.xd [("index", w)]) → E (.ref B) (some d) H'
def BadEnd (K : PySem.W.Frag) (H : Hp) (n : Int) (v : V) : Prop := NotTup K H v ∨ ∃ t xs, v = .ref t ∧ SqT K H t xs ∧ (∀ x ∈ xs, Num K H x) ∧ ascV n 0 xs = false
def sp_ends_bad (K : PySem.W.Frag) (B : Addr) : Sp := fun vs H _ E => ∃ (n : Int) (v : V), vs = [.int n, v] ∧ BadEnd K H n v ∧ E (.ref B) none H
theorem exc_same {H : Hp} {a d C : Addr} {fs : List (Str × V)} {o : HO} (ha : H a = none) (hd : H d = none) : Same H (upd (del (upd (upd (upd H a (exo a C none)) d o) a (exo a C (some d))) a) d (.xd fs)) := fun b ob e => by
  rw [upd_ne (ne_of_none e hd), del_ne (ne_of_none e ha), upd_ne (ne_of_none e ha), upd_ne (ne_of_none e hd), upd_ne (ne_of_none e ha)]
  exact e
section
variable {P : Program} {w : World} {K : PySem.W.Frag} {mg : Str → Option Value} {base : Heap}
theorem ok_BadSteps_init (T : Txt K mg) : FnOk P w K mg base (L2.CX P w) 1 T.a_BadSteps_init T.fd_BadSteps_init ["self", "index"] (fun vs H Q E => (∃ a, vs = [.ref a, .non] ∨ ∃ i : Int, vs = [.ref a, .int i] ∧ 0 ≤ i ∧ i < 10 ^ 10) ∧ sp_einit K T.c_BadSteps "index" vs H Q E) := by
  refine T.F_BadSteps_init.okX sc_BadSteps_init (fun vs H Q E h => ?_) (fun cdv A outer s H vs Q E hr h => ?_)
  · obtain ⟨_, a, v, rfl, _⟩ := h
    rfl
  · obtain ⟨hv, a, v, rfl, ea, k⟩ := h
    refine ⟨_, (PSs.nox (pss_cons (ps_expr (pe_tveinit (by rfl) T.m_TallyError T.rd_TallyError T.fv_TallyError T.sg_TallyError (pa_cons (pv 0) (pa_cons (pe_joined (.cons pe_str (.cons (pe_fmtN (pv 1)) .nil))) pa_nil))))
  (pss_one (ps_ost (pv 0) (pv 1))))), ?_⟩
    walk_at "begin"
    walk_at "go"
    refine k_vei ?_
    walk_at "go"
    have fin : ∀ m : Str, (V.ref a :: [V.str m]).length ≤ 1000 → tOst K (Str.ofString "index") (tVar 0) (tVar 1) { nx := fun x H' => Q V.non H', rt := Q } [some (V.ref a), some v] H := fun _ _ => by
      refine k_ost ?_
      walk_at "go"
      refine ⟨a, T.c_BadSteps, rfl, T.o_BadSteps, T.no_BadSteps_index, .inl ⟨ea, fun dx hd ne => ?_⟩⟩
      walk_at "go"
      exact k dx hd ne
    have l0 : (Str.empty ++ (Str.ofString "not the steps of a machine, index ")).length = 34 := by decide +kernel
    refine ⟨_, rfl, by rw [l0]; decide, ?_⟩
    show tFmtN _ _ _ _
    refine k_fmtN ?_
    walk_at "go"
    obtain ⟨a', hv | ⟨i, hv, i0, i1⟩⟩ := hv
    · cases hv
      refine .inl ⟨rfl, _, rfl, by rw [strLen_append, l0]; decide +kernel, ?_⟩
      simp only [tJs]
      walk_at "go"
      exact ⟨a, T.c_BadSteps, _, rfl, by show 1 ≤ 1000; decide, T.o_BadSteps, ea, fin Str.empty (by show 2 ≤ 1000; decide)⟩
    · cases hv
      have hz : i.natAbs.log2 < 1920 := by
        have h1 : i.natAbs < 2 ^ 34 := by omega
        have h2 := Nat.log2_lt (n := i.natAbs) (k := 34)
        by_cases c : i.natAbs = 0
        · rw [c]; decide
        · exact Nat.lt_trans ((h2 c).mpr h1) (by decide)
      refine .inr ⟨i, rfl, hz, _, rfl, ?_, ?_⟩
      · rw [strLen_append, l0]
        have := PyProof.Rows.toString_length_le (k := 10) i0 (by decide) i1
        exact Nat.le_trans (Nat.add_le_add_left this 34) (by decide)
      simp only [tJs]
      walk_at "go"
      exact ⟨a, T.c_BadSteps, _, rfl, by show 1 ≤ 1000; decide, T.o_BadSteps, ea, fin Str.empty (by show 2 ≤ 1000; decide)⟩
theorem ok_check_stands_no (T : Txt K mg) : FnOk P w K mg base (L2.CX P w) 3 T.a_check_stands T.fd_check_stands ["stands"] (sp_stands_bad K T.c_BadStands) := by
  refine T.F_check_stands.okX sc_check_stands (fun vs H Q E h => ?_) (fun cdv A outer s H vs Q E hr h => ?_)
  · obtain ⟨v, rfl, _⟩ := h
    rfl
  · obtain ⟨v, rfl, bad, k⟩ := h
    refine ⟨_, (pss_one (ps_if (pt_not (pt_val (pe_call (ok_is_integer_between T) (hr.mono (by decide)) (by rfl) T.m_is_integer_between T.k_is_integer_between T.b_is_integer_between .nil passL (pa_cons (pv 0) (pa_cons pe_int (pa_cons (pe_glob (by rfl) T.m_MOST_STANDS T.r_MOST_STANDS) pa_nil))))))
  (pss_one (ps_raise rfl (takes_of rfl rfl rfl rfl) (pmk_own PySem.F.excBase_ValueError T.x_BadStands T.m_BadStands T.k_BadStands (raises_own T.b_BadStands T.t_BadStands) (by exact rfl))))
  pss_nil)), ?_⟩
    walk_at "begin"
    walk_at "go"
    refine ⟨_, 1, 8, rfl, ?_⟩
    rcases bad with ⟨i, rfl, hi⟩ | ni
    · refine .inl ⟨i, rfl, ?_⟩
      rw [decide_eq_false hi]
      walk_at "go"
      refine iteT ?_
      walk_at "go"
      exact k
    · refine .inr ⟨ni, ?_⟩
      walk_at "go"
      refine iteT ?_
      walk_at "go"
      exact k
theorem ok_check_ends_no (T : Txt K mg) : FnOk P w K mg base (L2.CX P w) 4 T.a_check_ends T.fd_check_ends ["stands", "ends"] (sp_ends_bad K T.c_BadEnds) := by
  refine T.F_check_ends.okX sc_check_ends (fun vs H Q E h => ?_) (fun cdv A outer s H vs Q E hr h => ?_)
  · obtain ⟨n, v, rfl, _⟩ := h
    rfl
  · obtain ⟨n, v, rfl, bad, k⟩ := h
    refine ⟨_, (pss_one (ps_if (pt_not (pt_val (pe_call (ok_is_ascending T) (hr.mono (by decide)) (by rfl) T.m_is_ascending T.k_is_ascending T.b_is_ascending .nil passL (pa_cons (pv 1) (pa_cons (pv 0) pa_nil)))))
  (pss_one (ps_raise rfl (takes_of rfl rfl rfl rfl) (pmk_own PySem.F.excBase_ValueError T.x_BadEnds T.m_BadEnds T.k_BadEnds (raises_own T.b_BadEnds T.t_BadEnds) (by exact rfl))))
  pss_nil)), ?_⟩
    walk_at "begin"
    walk_at "go"
    refine ⟨_, _, rfl, ?_⟩
    rcases bad with ⟨ty, h1, h2⟩ | ⟨t, xs, rfl, ht, hx, e⟩
    · refine .inl ⟨ty, h1, h2, ?_⟩
      walk_at "go"
      refine iteT ?_
      walk_at "go"
      exact k
    · refine .inr ⟨t, xs, rfl, ht, hx, ?_⟩
      rw [e]
      walk_at "go"
      refine iteT ?_
      walk_at "go"
      exact k

theorem stand_read {n : Int} {b : V} {H : Hp} {Q : VK} {E : XK} (h : Num K H b) (k : Q (.bl (btw 0 (n - 1) b)) H) : sp_is_stand K [.int n, b] H Q E := by
  rcases h with ⟨i, rfl⟩ | ⟨ni, nj⟩
  · refine ⟨_, n, rfl, .inl ⟨i, rfl, ?_⟩⟩
    rw [decide_eq_decide.mpr (show (0 ≤ i ∧ i < n) ↔ (0 ≤ i ∧ i ≤ n - 1) by omega)]
    exact k
  · rw [btw_odd nj] at k
    exact ⟨_, n, rfl, .inr ⟨ni, k⟩⟩
theorem ok_is_step_bad (T : Txt K mg) : FnOk P w K mg base (L2.CX P w) 4 T.a_is_step T.fd_is_step ["stands", "value"] (sp_is_stepG K) := by
  refine T.F_is_step.okX sc_is_step (fun vs H Q E h => ?_) (fun cdv A outer s H vs Q E hr h => ?_)
  · obtain ⟨n, v, rfl, _⟩ := h
    rfl
  · obtain ⟨n, v, rfl, h⟩ := h
    have h' : (NotTup K H v ∧ Q (.bl false) H) ∨ (∃ p xs, v = .ref p ∧ SqT K H p xs ∧ xs.length ≠ 4 ∧ Q (.bl false) H) ∨ ∃ p b l e g, v = .ref p ∧ SqT K H p [b, l, e, g] ∧ Num K H b ∧ Num K H e ∧ Num K H g ∧ flatV l = true ∧ Q (.bl (stepB n b l e g)) H := by
      rcases h with ⟨h | ⟨p, xs, e, hp, c | ⟨b, l, e', g, rfl, nb, ne, ng, fl, eq⟩⟩, k⟩ | ⟨m, p, t, rfl, e, hp, o, k⟩
      · exact .inl ⟨h, k⟩
      · exact .inr (.inl ⟨p, xs, e, hp, c, k⟩)
      · rw [← eq] at k
        exact .inr (.inr ⟨p, b, l, e', g, e, hp, nb, ne, ng, fl, k⟩)
      · refine .inr (.inr ⟨p, _, _, _, _, e, hp, .inl ⟨_, rfl⟩, .inl ⟨_, rfl⟩, .inl ⟨_, rfl⟩, rfl, ?_⟩)
        have z : stepB (m : Nat) (.int (t.b : Nat)) (.str ⟨#[t.c]⟩) (.int (t.e : Nat)) (.int t.g) = true := by
          have := o.b; have := o.e; have := o.g; have := o.g'
          unfold stepB btw
          rw [letter_in o.c o.c']
          dsimp only
          rw [decide_eq_true (by omega), decide_eq_true (by omega), decide_eq_true (by omega)]
          rfl
        rw [z]
        exact k
    refine ⟨_, (PSs.nox (pss_cons (ps_if (PW.pt (pw_or (pt_not (pt_val (pe_callB call_isi (by rfl) T.z_isinstance (by decide +kernel) (pa_cons (pv 1) (pa_cons (pe_bltn (v := .ty "tuple") (by rfl) T.z_tuple (by decide +kernel) rfl) pa_nil))))) (pw_or1 (pt_cmpR op_ne (pe_callB call_len_seq (by rfl) T.z_len PySem.boot_len (pa_cons (pv 1) pa_nil)) pe_int (nomark _)))))
  (pss_one (ps_ret pe_bl))
  pss_nil)
  (pss_cons (ps_asg (pv 1) (pg_tup rfl (pgs_cons (pg_name (i := 2) sc_is_step.nd rfl (Or.inl rfl)) (pgs_cons (pg_name (i := 3) sc_is_step.nd rfl (Or.inl rfl)) (pgs_cons (pg_name (i := 4) sc_is_step.nd rfl (Or.inl rfl)) (pgs_cons (pg_name (i := 5) sc_is_step.nd rfl (Or.inl rfl)) pgs_nil))))))
  (pss_one (ps_ret (pe_and (pe_call (ok_is_stand T) (hr.mono (by decide)) (by rfl) T.m_is_stand T.k_is_stand T.b_is_stand .nil passL (pa_cons (pv 0) (pa_cons (pv 2) pa_nil))) (pe_and (pe_cmpR op_in_seq (pv 3) (pe_glob (by rfl) T.m_LETTERS T.r_LETTERS) (by rfl)) (pe_and (pe_call (ok_is_stand T) (hr.mono (by decide)) (by rfl) T.m_is_stand T.k_is_stand T.b_is_stand .nil passL (pa_cons (pv 0) (pa_cons (pv 4) pa_nil))) (pe_one (pe_call (ok_is_integer_between T) (hr.mono (by decide)) (by rfl) T.m_is_integer_between T.k_is_integer_between T.b_is_integer_between .nil passL (pa_cons (pv 5) (pa_cons (pe_un un_neg (pe_glob (by rfl) T.m_MOST_GAIN T.r_MOST_GAIN)) (pa_cons (pe_glob (by rfl) T.m_MOST_GAIN T.r_MOST_GAIN) pa_nil))))))))))))), ?_⟩
    walk_at "begin"
    walk_at "go"
    rcases h' with ⟨⟨ty, h1, h2⟩, k⟩ | ⟨p, xs, rfl, hp, c, k⟩ | ⟨p, b, l, e, g, rfl, hp, nb, ne, ng, fl, k⟩
    · refine k_isi (.ty _) h1 h2 ?_
      walk_at "go"
      refine iteT ?_
      walk_at "go"
      exact k
    · refine k_isi (.ty _) (ty_tup hp) (kit_ty (b := "tuple") (r := true) (by decide +kernel)) ?_
      walk_at "go"
      refine iteF ?_
      walk_at "go"
      refine k_len (.inr hp) ?_
      walk_at "go"
      rw [decide_eq_false (show ¬ V.int (xs.length : Nat) = V.int 4 from fun z => by injection z with z; exact c (by omega))]
      refine iteT ?_
      walk_at "go"
      exact k
    · refine k_isi (.ty _) (ty_tup hp) (kit_ty (b := "tuple") (r := true) (by decide +kernel)) ?_
      walk_at "go"
      refine iteF ?_
      walk_at "go"
      refine k_len (.inr hp) ?_
      walk_at "go"
      refine iteF ?_
      walk_at "go"
      refine k_gt hp rfl ?_
      unfold stepB at k
      walk_at "go"
      refine stand_read nb ?_
      generalize btw 0 (n - 1) b = b1 at k ⊢
      cases b1 with
      | false => exact ⟨_, rfl, iteF k⟩
      | true =>
        refine ⟨_, rfl, iteT ?_⟩
        walk_at "go"
        refine k_in (.inr (T.s_LETTERS _)) fl (by decide) ?_
        rw [Bool.true_and] at k
        show ∃ c, V.bl (inV l [V.str "a", V.str "b", V.str "c", V.str "d"]) = V.bl c ∧ _
        generalize inV l [V.str "a", V.str "b", V.str "c", V.str "d"] = b2 at k ⊢
        cases b2 with
        | false => exact ⟨_, rfl, iteF k⟩
        | true =>
          refine ⟨_, rfl, iteT ?_⟩
          walk_at "go"
          rw [Bool.true_and] at k
          refine stand_read ne ?_
          generalize btw 0 (n - 1) e = b3 at k ⊢
          cases b3 with
          | false => exact ⟨_, rfl, iteF k⟩
          | true =>
            refine ⟨_, rfl, iteT ?_⟩
            walk_at "go"
            rw [Bool.true_and] at k
            rcases ng with ⟨i, rfl⟩ | ⟨ni, nj⟩
            · exact ⟨_, _, _, rfl, .inl ⟨i, rfl, k⟩⟩
            · rw [btw_odd nj] at k
              exact ⟨_, _, _, rfl, .inr ⟨ni, k⟩⟩
theorem ok_check_steps_no (T : Txt K mg) : FnOk P w K mg base (L2.CX P w) 5 T.a_check_steps T.fd_check_steps ["stands", "steps"] (sp_steps_bad K T.c_BadSteps) := by
  refine T.F_check_steps.okX sc_check_steps (fun vs H Q E h => ?_) (fun cdv A outer s H vs Q E hr h => ?_)
  · obtain ⟨n, v, w, rfl, _⟩ := h
    rfl
  · obtain ⟨n, v, w, rfl, bad, k⟩ := h
    refine ⟨_, (pss_cons (ps_if (pt_not (pt_val (pe_callB call_isi (by rfl) T.z_isinstance (by decide +kernel) (pa_cons (pv 1) (pa_cons (pe_bltn (v := .ty "tuple") (by rfl) T.z_tuple (by decide +kernel) rfl) pa_nil)))))
  (pss_one (ps_raise rfl (takes_of rfl rfl rfl rfl) (pmk_oex T.o_BadSteps T.ie_BadSteps T.ti_BadSteps (ok_BadSteps_init T) (hr.mono (by decide)) T.b_BadSteps_init .nil passL (by rfl) T.m_BadSteps (pa_cons pe_non pa_nil))))
  pss_nil)
  (pss_one (ps_for (passes_of rfl) rfl (pi_enumT (by rfl) T.z_enumerate (pa_cons (pv 1) pa_nil)) (pg_tup rfl (pgs_cons (pg_name (i := 2) sc_check_steps.nd rfl (Or.inl rfl)) (pgs_cons (pg_name (i := 3) sc_check_steps.nd rfl (Or.inl rfl)) pgs_nil)))
  (pss_cons (ps_if (pt_not (pt_val (pe_callS (ok_is_step_bad T) (hr.mono (by decide)) (by rfl) T.m_is_step T.k_is_step T.b_is_step (fun σ => passAt (takes_of rfl rfl rfl rfl) σ) (pa_cons (pv 0) (pa_cons (pv 3) pa_nil)))))
  (pss_one (ps_raise rfl (takes_of rfl rfl rfl rfl) (pmk_oex T.o_BadSteps T.ie_BadSteps T.ti_BadSteps (ok_BadSteps_init T) (hr.mono (by decide)) T.b_BadSteps_init .nil passL (by rfl) T.m_BadSteps (pa_cons (pv 2) pa_nil))))
  pss_nil)
  (pss_one (ps_if (PW.pt (pw_and (pt_cmpR op_gt (pv 2) pe_int (nomark _)) (pw_and1 (pt_cmpR (op_le2 hr.units0) (pe_slice sl_tupA (pv 3) po_none (po_some pe_int)) (pe_slice sl_tupA (pe_ix ix_tup (pv 1) (pe_op op_sub (pv 2) pe_int) (fun _ _ => rfl)) po_none (po_some pe_int)) (nomark _)))))
  (pss_one (ps_raise rfl (takes_of rfl rfl rfl rfl) (pmk_oex T.o_BadSteps T.ie_BadSteps T.ti_BadSteps (ok_BadSteps_init T) (hr.mono (by decide)) T.b_BadSteps_init .nil passL (by rfl) T.m_BadSteps (pa_cons (pv 2) pa_nil))))
  pss_nil)))))), ?_⟩
    walk_at "begin"
    walk_at "go"
    rcases bad with ⟨⟨ty, h1, h2⟩, rfl⟩ | ⟨p, us, ss, y, rfl, hp, rfl, l1000, hy, hpre, hok, hup, hbad⟩
    · refine k_isi (.ty _) h1 h2 ?_
      walk_at "go"
      refine iteT ?_
      walk_at "go"
      refine k_mkO ?_
      walk_at "go"
      refine ⟨(by show 1 ≤ 1000; decide), fun a ha => ⟨⟨a, .inl rfl⟩, a, _, rfl, upd_same, fun dx hd ne => ?_⟩⟩
      have hd' : H dx = none := by rw [upd_ne ne] at hd; exact hd
      exact ⟨rfl, dx, _, upd_same, by rw [upd_ne ne]; exact upd_same, hd', k _ _ (exc_same ha hd') upd_same⟩
    · refine k_isi (.ty _) (ty_tup hp) (kit_ty (b := "tuple") (r := true) (by decide +kernel)) ?_
      walk_at "go"
      refine iteF ?_
      walk_at "go"
      have kl : ss.length < us.length := (List.getElem?_eq_some_iff.mp hy).1
      refine ⟨_, rfl, p, us, rfl, hp, for_enumT (xs := us) (fun i σ H' => Same H H' ∧ i ≤ ss.length ∧ ∃ a b, σ = [some (.int (n : Nat)), some (.ref p), a, b]) ⟨Same.refl _, Nat.zero_le _, _, _, rfl⟩ (fun i σ H' _ ⟨z, _⟩ => (same_tups z).sq hp) ?_ ?_⟩
      · rintro i x q σ H1 hx ⟨z, hle, a, b, rfl⟩ hq
        have z1 : Same H (upd H1 q (.tup [.int (i : Nat), x])) := z.trans (Same.new hq)
        refine k_gt (SqT.of upd_same) rfl ?_
        generalize upd H1 q (.tup [.int (i : Nat), x]) = H2 at z1 ⊢
        walk_at "go"
        refine k_callS ?_
        walk_at "go"
        have fin : ∀ H3, Same H H3 → ∀ (a' : Addr), H3 a' = none → (∃ a, [V.ref a', V.int (ss.length : Nat)] = [V.ref a, .non] ∨ ∃ i : Int, [V.ref a', V.int (ss.length : Nat)] = [V.ref a, .int i] ∧ 0 ≤ i ∧ i < 10 ^ 10) := fun _ _ a' _ => ⟨a', .inr ⟨_, rfl, by omega, by omega⟩⟩
        rcases Nat.lt_or_ge i ss.length with il | ige
        · obtain ⟨q1, eq, hq1⟩ := hpre i _ (List.getElem?_eq_getElem il)
          rw [hx] at eq
          cases eq
          have hq2 := (same_tups z1).sq hq1
          refine ⟨_, _, rfl, .inr ⟨n, q1, _, rfl, rfl, hq2, hok _ (List.getElem_mem il), ?_⟩⟩
          walk_at "go"
          refine iteF ?_
          walk_at "go"
          refine k_ite (fun c => ?_) (fun c => iteF ?_)
          · walk_at "go"
            have jl : i - 1 < ss.length := by omega
            obtain ⟨q2, eq2, hq3⟩ := hpre (i - 1) _ (List.getElem?_eq_getElem jl)
            refine k_slA2 hq2 fun p1 n1 => ?_
            have z2 := z1.trans (Same.new (o := .tup [.int ((ss[i]'il).b : Nat), .str ⟨#[(ss[i]'il).c]⟩]) n1)
            walk_at "go"
            refine k_ixT ((same_tups z2).sq hp) (v := .ref q2) (at_of (j := i - 1) (by omega) eq2) ?_
            walk_at "go"
            refine k_slA2 ((same_tups z2).sq hq3) fun p2 n2 => ?_
            have z3 := z2.trans (Same.new (o := .tup [.int ((ss[i - 1]'jl).b : Nat), .str ⟨#[(ss[i - 1]'jl).c]⟩]) n2)
            refine ⟨p1, p2, _, _, _, _, rfl, rfl, SqT.of (Same.new n2 _ _ upd_same), SqT.of upd_same, ?_⟩
            have up := List.pairwise_iff_getElem.mp hup (i - 1) i jl il (by omega)
            rw [le2_no up]
            walk_at "go"
            refine iteF ?_
            walk_at "go"
            exact ⟨z3, il, _, _, rfl⟩
          · walk_at "go"
            exact ⟨z1, il, _, _, rfl⟩
        · obtain rfl : i = ss.length := by omega
          rw [hy] at hx
          cases hx
          rcases hbad with nb | ⟨q1, s1, l, rfl, hq1, ok1, hl, nl⟩
          · refine ⟨_, _, rfl, .inl ⟨nb _ z1, ?_⟩⟩
            walk_at "go"
            refine iteT ?_
            walk_at "go"
            refine k_mkO ?_
            walk_at "go"
            refine ⟨(by show 1 ≤ 1000; decide), fun a' ha => ⟨⟨a', .inr ⟨_, rfl, by omega, by omega⟩⟩, a', _, rfl, upd_same, fun dx hd ne => ?_⟩⟩
            have hd' : H2 dx = none := by rw [upd_ne ne] at hd; exact hd
            exact ⟨rfl, dx, _, upd_same, by rw [upd_ne ne]; exact upd_same, hd', k _ _ (z1.trans (exc_same ha hd')) upd_same⟩
          · have hq2 := (same_tups z1).sq hq1
            refine ⟨_, _, rfl, .inr ⟨n, q1, _, rfl, rfl, hq2, ok1, ?_⟩⟩
            walk_at "go"
            refine iteF ?_
            walk_at "go"
            have s0 : 0 < ss.length := by
              cases ss with
              | nil => cases hl
              | cons _ _ => exact Nat.succ_pos _
            rw [decide_eq_true (by omega)]
            refine iteT ?_
            walk_at "go"
            have jl : ss.length - 1 < ss.length := by omega
            obtain ⟨q2, eq2, hq3⟩ := hpre (ss.length - 1) _ (List.getElem?_eq_getElem jl)
            have el : ss[ss.length - 1]'jl = l := by
              rw [List.getLast?_eq_getElem?, List.getElem?_eq_getElem jl] at hl
              exact Option.some.inj hl
            rw [el] at hq3
            refine k_slA2 hq2 fun p1 n1 => ?_
            have z2 := z1.trans (Same.new (o := .tup [.int (s1.b : Nat), .str ⟨#[s1.c]⟩]) n1)
            walk_at "go"
            refine k_ixT ((same_tups z2).sq hp) (v := .ref q2) (at_of (j := ss.length - 1) (by omega) eq2) ?_
            walk_at "go"
            refine k_slA2 ((same_tups z2).sq hq3) fun p2 n2 => ?_
            have z3 := z2.trans (Same.new (o := .tup [.int (l.b : Nat), .str ⟨#[l.c]⟩]) n2)
            refine ⟨p1, p2, _, _, _, _, rfl, rfl, SqT.of (Same.new n2 _ _ upd_same), SqT.of upd_same, ?_⟩
            rw [le2_yes nl]
            generalize upd (upd H2 p1 (.tup [.int (s1.b : Nat), .str ⟨#[s1.c]⟩])) p2 (.tup [.int (l.b : Nat), .str ⟨#[l.c]⟩]) = H5 at z3 ⊢
            walk_at "go"
            refine iteT ?_
            walk_at "go"
            refine k_mkO ?_
            walk_at "go"
            refine ⟨(by show 1 ≤ 1000; decide), fun a' ha => ⟨⟨a', .inr ⟨_, rfl, by omega, by omega⟩⟩, a', _, rfl, upd_same, fun dx hd ne => ?_⟩⟩
            have hd' : H5 dx = none := by rw [upd_ne ne] at hd; exact hd
            exact ⟨rfl, dx, _, upd_same, by rw [upd_ne ne]; exact upd_same, hd', k _ _ (z3.trans (exc_same ha hd')) upd_same⟩
      · rintro σ H1 ⟨z, hle, _⟩
        omega
theorem ok_check_stands_bad (T : Txt K mg) : FnOk P w K mg base (L2.CX P w) 3 T.a_check_stands T.fd_check_stands ["stands"] (fun vs H Q E => sp_check_stands K vs H Q E ∨ sp_stands_bad K T.c_BadStands vs H Q E) := FnOk.or (ok_check_stands T) (ok_check_stands_no T)
theorem ok_check_steps_bad (T : Txt K mg) : FnOk P w K mg base (L2.CX P w) 5 T.a_check_steps T.fd_check_steps ["stands", "steps"] (fun vs H Q E => sp_check_steps K vs H Q E ∨ sp_steps_bad K T.c_BadSteps vs H Q E) := FnOk.or (ok_check_steps T) (ok_check_steps_no T)
theorem ok_check_ends_bad (T : Txt K mg) : FnOk P w K mg base (L2.CX P w) 4 T.a_check_ends T.fd_check_ends ["stands", "ends"] (fun vs H Q E => sp_check_ends K vs H Q E ∨ sp_ends_bad K T.c_BadEnds vs H Q E) := FnOk.or (ok_check_ends T) (ok_check_ends_no T)
/-- a machine refused -/
def sp_init_bad (K : PySem.W.Frag) (C BS BT BE : Addr) : Sp := fun vs H _ E => ∃ (x : Addr) (s t u : V), vs = [.ref x, s, t, u] ∧
  ((BadNum K H 1 8 s ∧ E (.ref BS) none H) ∨
   (∃ (n : Nat) (v : V), s = .int (n : Nat) ∧ 1 ≤ n ∧ n ≤ 8 ∧ BadStp K H n t v ∧ ∀ d H', Same H H' → H' d = some (.xd [("index", v)]) → E (.ref BT) (some d) H') ∨
   (∃ (m : MD) (p : Addr) (us : List V), s = .int (m.n : Nat) ∧ t = .ref p ∧ m.Ok ∧ SqT K H p us ∧ StpsAt K H us m.ss ∧ (∀ H', Same H H' → BadEnd K H' (m.n : Nat) u) ∧ ∀ H', Same H H' → E (.ref BE) none H'))
theorem ok_Machine_init_bad (T : Txt K mg) : FnOk P w K mg base (L2.CX P w) 6 T.a_Machine_init T.fd_Machine_init ["self", "stands", "steps", "ends"] (sp_init_bad K T.c_Machine T.c_BadStands T.c_BadSteps T.c_BadEnds) := by
  refine T.F_Machine_init.okX sc_Machine_init (fun vs H Q E h => ?_) (fun cdv A outer s H vs Q E hr h => ?_)
  · obtain ⟨x, s, t, u, rfl, _⟩ := h
    rfl
  · obtain ⟨x, s', t, u, rfl, h⟩ := h
    refine ⟨_, (pss_cons (ps_expr (pe_callS (ok_check_stands_bad T) (hr.mono (by decide)) (by rfl) T.m_check_stands T.k_check_stands T.b_check_stands (fun σ => passAt (takes_of rfl rfl rfl rfl) σ) (pa_cons (pv 1) pa_nil)))
  (pss_cons (ps_expr (pe_callS (ok_check_steps_bad T) (hr.mono (by decide)) (by rfl) T.m_check_steps T.k_check_steps T.b_check_steps (fun σ => passAt (takes_of rfl rfl rfl rfl) σ) (pa_cons (pv 1) (pa_cons (pv 2) pa_nil))))
  (pss_cons (ps_expr (pe_callS (ok_check_ends_bad T) (hr.mono (by decide)) (by rfl) T.m_check_ends T.k_check_ends T.b_check_ends (fun σ => passAt (takes_of rfl rfl rfl rfl) σ) (pa_cons (pv 1) (pa_cons (pv 3) pa_nil))))
  (pss_cons (ps_fld (pv 0) (pv 1) rfl)
  (pss_cons (ps_fld (pv 0) (pv 2) rfl)
  (pss_one (ps_fld (pv 0) (pv 3) rfl))))))), ?_⟩
    walk_at "begin"
    walk_at "go"
    refine k_callS ?_
    walk_at "go"
    rcases h with ⟨bad, k⟩ | ⟨n, v, rfl, n1, n8, bad, k⟩ | ⟨m, p, us, rfl, rfl, o, hp, hs, bad, k⟩
    · exact .inr ⟨_, rfl, bad, k⟩
    · refine .inl ⟨_, rfl, by omega, by omega, ?_⟩
      walk_at "go"
      refine k_callS ?_
      walk_at "go"
      exact .inr ⟨n, _, _, rfl, bad, k⟩
    · refine .inl ⟨_, rfl, by have := o.n1; omega, by have := o.n8; omega, ?_⟩
      walk_at "go"
      refine k_callS ?_
      walk_at "go"
      refine .inl ⟨p, us, m, rfl, hp, hs, o, fun H1 z1 => ?_⟩
      walk_at "go"
      refine k_callS ?_
      walk_at "go"
      exact .inr ⟨_, _, rfl, bad _ z1, k _ z1⟩
end
/-! ### tuples sliced and joined, the whole one among them -/
theorem k_slT {K : PySem.W.Frag} {H : Hp} {Q : VK} {a : Addr} {xs : List V} {lo hi : Option Int} (h : SqT K H a xs) (q : ∀ r H', Same H H' → SqT K H' r (cutV xs lo hi) → Q (.ref r) H') : rSlA K (.ref a) lo hi H Q := by
  refine ⟨a, xs, rfl, h, fun e => q a H (Same.refl _) ?_, fun _ p hp => q p _ (Same.new hp) (SqT.of upd_same)⟩
  have : cutV xs lo hi = xs := by
    unfold cutV
    rw [e.1, e.2, List.drop_zero, Nat.sub_zero, List.take_length]
  rw [this]
  exact h
theorem k_catT {K : PySem.W.Frag} {H : Hp} {Q : VK} {a b : Addr} {xs ys : List V} (ha : SqT K H a xs) (hb : SqT K H b ys) (l : xs.length + ys.length ≤ sizeLine) (q : ∀ r H', Same H H' → SqT K H' r (xs ++ ys) → Q (.ref r) H') : rCatA K (.ref a) (.ref b) H Q := by
  refine ⟨a, b, xs, ys, rfl, rfl, ha, hb, l, fun e => q b H (Same.refl _) (by rw [e]; exact hb), fun _ e => q a H (Same.refl _) (by rw [e, List.append_nil]; exact ha), fun _ _ p hp => q p _ (Same.new hp) (SqT.of upd_same)⟩
theorem cutV_drop (xs : List V) (k : Nat) : cutV xs (some ((k : Nat) : Int)) none = xs.drop k := by
  unfold cutV
  rw [HT.sIx_none, HT.sIx_nat]
  rcases Nat.le_total k xs.length with h | h
  · rw [Nat.min_eq_left h, List.take_of_length_le (by rw [List.length_drop]; exact Nat.le_refl _)]
  · rw [Nat.min_eq_right h, Nat.sub_self, List.take_zero, List.drop_eq_nil_of_le h]
theorem cutV_take (xs : List V) (k : Nat) : cutV xs none (some ((k : Nat) : Int)) = xs.take k := by
  unfold cutV
  rw [HT.sIx_none, HT.sIx_nat, List.drop_zero, Nat.sub_zero]
  rcases Nat.le_total k xs.length with h | h
  · rw [Nat.min_eq_left h]
  · rw [Nat.min_eq_right h, List.take_length, List.take_of_length_le h]
/-! ### machines compared -/
def stD (s : Stp) : PyData := .tuple [.int (s.b : Nat), .str ⟨#[s.c]⟩, .int (s.e : Nat), .int s.g]
def ssD (ss : List Stp) : PyData := .tuple (ss.map stD)
def esD (es : List Nat) : PyData := .tuple (es.map fun e => PyData.int (e : Nat))
def eqM (m m' : MD) : Bool := decide (m.n = m'.n) && (PyData.eqv (ssD m.ss) (ssD m'.ss) && PyData.eqv (esD m.es) (esD m'.es))
theorem dp_st {K : PySem.W.Frag} {H : Hp} {p : Addr} {s : Stp} (h : SqT K H p (stpV s)) : Dp K H (.ref p) (stD s) := .tup h (.cons (.int _) (.cons (.str _) (.cons (.int _) (.cons (.int _) .nil))))
theorem dp_sts {K : PySem.W.Frag} {H : Hp} : ∀ {us : List V} {ss : List Stp}, StpsAt K H us ss → DpAll K H us (ss.map stD)
  | [], [], _ => .nil
  | u :: us, s :: ss, h => by
    obtain ⟨p, e, q⟩ := h.2 0 s rfl
    cases e
    exact .cons (dp_st q) (dp_sts ⟨Nat.succ.inj h.1, fun i t e => h.2 (i + 1) t e⟩)
  | [], _ :: _, h => nomatch h.1
  | _ :: _, [], h => nomatch h.1
theorem dp_ss {K : PySem.W.Frag} {H : Hp} {p : Addr} {us : List V} {ss : List Stp} (h : SqT K H p us) (q : StpsAt K H us ss) : Dp K H (.ref p) (ssD ss) := .tup h (dp_sts q)
theorem dp_ns {K : PySem.W.Frag} {H : Hp} : ∀ (es : List Nat), DpAll K H (nats es) (es.map fun e => PyData.int (e : Nat))
  | [] => .nil
  | _ :: es => .cons (.int _) (dp_ns es)
theorem dp_es {K : PySem.W.Frag} {H : Hp} {p : Addr} {es : List Nat} (h : SqT K H p (nats es)) : Dp K H (.ref p) (esD es) := .tup h (dp_ns es)
theorem sts_shaped : ∀ {ns : List Stp}, (∀ s ∈ ns, s.c ≤ 100) → PyData.canLayAll0 (ns.map stD) = true ∧ PyData.depthAll (ns.map stD) ≤ 3
  | [], _ => ⟨rfl, Nat.zero_le _⟩
  | s :: ns, h => by
    obtain ⟨h1, h2⟩ := sts_shaped (ns := ns) fun t ht => h t (List.mem_cons_of_mem _ ht)
    have hc := h s List.mem_cons_self
    constructor
    · show (PyData.canLay0 (stD s) && PyData.canLayAll0 (ns.map stD)) = true
      rw [h1, Bool.and_true]
      show (true && ((#[s.c].all (· < 0x110000)) && (true && (true && true)))) = true
      simp
      omega
    · show max (PyData.depth (stD s)) (PyData.depthAll (ns.map stD)) ≤ 3
      have : PyData.depth (stD s) ≤ 3 := by
        show max _ (max _ (max _ (max _ _))) + 1 ≤ 3
        simp [PyData.depth, PyData.depthAll]
      omega
theorem ss_sh {ns : List Stp} (h : ∀ s ∈ ns, s.c ≤ 100) : SeqAt.shaped (ssD ns) = true := by
  obtain ⟨h1, h2⟩ := sts_shaped h
  show (PyData.canLayAll0 (ns.map stD) && decide (PyData.depthAll (ns.map stD) + 1 ≤ 64)) = true
  rw [h1, Bool.true_and]
  exact decide_eq_true (by omega)
theorem es_shaped : ∀ l : List Nat, PyData.canLayAll0 (l.map fun n => PyData.int (n : Nat)) = true ∧ PyData.depthAll (l.map fun n => PyData.int (n : Nat)) ≤ 3
  | [] => ⟨rfl, Nat.zero_le _⟩
  | n :: l => by
    obtain ⟨h1, h2⟩ := es_shaped l
    constructor
    · show (true && PyData.canLayAll0 (l.map fun n => PyData.int (n : Nat))) = true
      rw [h1]
      rfl
    · show max (PyData.depth (PyData.int (n : Nat))) (PyData.depthAll (l.map fun n => PyData.int (n : Nat))) ≤ 3
      have : PyData.depth (PyData.int (n : Nat)) ≤ 3 := by simp [PyData.depth]
      omega
theorem es_sh (l : List Nat) : SeqAt.shaped (esD l) = true := by
  obtain ⟨h1, h2⟩ := es_shaped l
  show (PyData.canLayAll0 (l.map fun n => PyData.int (n : Nat)) && decide (PyData.depthAll (l.map fun n => PyData.int (n : Nat)) + 1 ≤ 64)) = true
  rw [h1, Bool.true_and]
  exact decide_eq_true (by omega)
theorem sh_refl {d : PyData} (h : SeqAt.shaped d = true) : PyData.eqv d d = true := SeqAt.eqv_refl d (Bool.and_eq_true_iff.mp h).1
theorem sub_ty {K : PySem.W.Frag} {n : String} {C : Addr} (h : (fastFind? n).isSome = true) : PySem.W.subIn K (.type n) (.ref C) = some false := by
  unfold PySem.W.subIn fastBuiltinMro
  cases e : fastFind? n with
  | none => rw [e] at h; cases h
  | some x =>
    show Option.map (fun l => List.contains l (Value.ref C)) (Option.map (fun x => x.mro.map Value.type) (fastFind? n)) = some false
    rw [e]
    show some ((x.mro.map Value.type).contains (.ref C)) = some false
    congr 1
    rw [List.contains_eq_any_beq, List.any_eq_false]
    intro y hy
    obtain ⟨z, _, rfl⟩ := List.mem_map.mp hy
    simp
theorem first_ty {K : PySem.W.Frag} {C : Addr} {n : String} (h : (fastFind? n).isSome = true := by decide +kernel) : PySem.W.notFirst K C (.type n) = true := by
  unfold PySem.W.notFirst
  rw [sub_ty h]
  simp
theorem first_self {K : PySem.W.Frag} {C : Addr} : PySem.W.notFirst K C (.ref C) = true := by
  unfold PySem.W.notFirst
  simp
theorem kit_not {K : PySem.W.Frag} {mg : Str → Option Value} (T : Txt K mg) {n : String} (h : (fastFind? n).isSome = true) : PySem.W.kitOne K (.type n) (.ref T.c_Machine) = some false := by
  have hc : (PySem.W.clsIn K T.c_Machine).isSome = true := T.j1_Machine
  unfold PySem.W.kitOne PySem.W.kitCls
  rw [if_neg (by simp)]
  simp only [hc, T.j2_Machine, beq_self_eq_true, Bool.and_self, if_true]
  exact sub_ty h
/-- what stands behind each statement of the law -/
structure GS (K : PySem.W.Frag) (C : Addr) (H : Hp) (a d t u mc : Addr) (m : MD) : Prop where
  row : RowOk K H a
  d : DAt K H d m
  st : StAt K H t m.ss
  en : SqT K H u (nats m.es)
  mc : MAt K C H mc m
theorem GS.same {K : PySem.W.Frag} {C : Addr} {H H' : Hp} {a d t u mc : Addr} {m : MD} (h : GS K C H a d t u mc m) (z : Same H H') : GS K C H' a d t u mc m := ⟨h.row.same z, h.d.same z, (same_tups z).stAt h.st, (same_tups z).sq h.en, h.mc.same z⟩
theorem GS.keep {K : PySem.W.Frag} {C : Addr} {H H' : Hp} {a d t u mc : Addr} {m : MD} (h : GS K C H a d t u mc m) (R : RowOk K H' a) (z : Keep a H H') : GS K C H' a d t u mc m := by
  obtain ⟨l, e⟩ := h.row.lst
  exact ⟨R, h.d.keep z e, (z.tups e).stAt h.st, (z.tups e).sq h.en, h.mc.keep z e⟩
def sp_meq (K : PySem.W.Frag) (C : Addr) : Sp := fun vs H Q _ => ∃ (x : Addr) (m : MD) (y : V), vs = [.ref x, y] ∧ MAt K C H x m ∧ m.Ok ∧
  ((∃ ty, TyX K H y ty ∧ PySem.W.kitOne K ty (.ref C) = some false ∧ Q (.bl false) H) ∨ ∃ (z : Addr) (m' : MD), y = .ref z ∧ MAt K C H z m' ∧ m'.Ok ∧ Q (.bl (eqM m m')) H)
section
variable {P : Program} {w : World} {K : PySem.W.Frag} {mg : Str → Option Value} {base : Heap}
theorem ok_Machine_eq (T : Txt K mg) : FnOk P w K mg base (L2.CX P w) 1 T.a_Machine_eq T.fd_Machine_eq ["self", "other"] (sp_meq K T.c_Machine) := by
  refine T.F_Machine_eq.okX sc_Machine_eq (fun vs H Q E h => ?_) (fun cdv A outer s H vs Q E hr h => ?_)
  · obtain ⟨x, m, y, rfl, _⟩ := h
    rfl
  · obtain ⟨x, m, y, rfl, hm, o, h⟩ := h
    refine ⟨_, (PSs.nox (pss_one (ps_ret (pe_and (pe_callB call_isi (by rfl) T.z_isinstance (by decide +kernel) (pa_cons (pv 1) (pa_cons (pe_glob (v := .ref T.c_Machine) (by rfl) T.m_Machine rfl) pa_nil))) (pe_and (pe_cmpR op_eq (pe_fld (pv 0) rfl) (pe_fld (pv 1) rfl) (nomark _)) (pe_and (pe_cmpR (op_eqD hr.units) (pe_fld (pv 0) rfl) (pe_fld (pv 1) rfl) (nomark _)) (pe_one (pe_cmpR (op_eqD hr.units) (pe_fld (pv 0) rfl) (pe_fld (pv 1) rfl) (nomark _))))))))), ?_⟩
    walk_at "begin"
    walk_at "go"
    rcases h with ⟨ty, h1, h2, k⟩ | ⟨z, m', rfl, hz, o', k⟩
    · refine k_isi (.own _) h1 h2 ?_
      walk_at "go"
      exact iteF k
    · obtain ⟨dz, tz, uz, ez, ⟨usz, htz, hsz⟩, huz⟩ := hz
      obtain ⟨dx, tx, ux, ex, ⟨usx, htx, hsx⟩, hux⟩ := hm
      refine k_isi (.own _) (ty_Machine T ez) kit_self ?_
      walk_at "go"
      refine iteT ?_
      walk_at "go"
      refine ⟨x, T.c_Machine, dx, _, .int (m.n : Nat), rfl, ex, T.cl_Machine, T.n__stands, rfl, ?_⟩
      walk_at "go"
      refine ⟨z, T.c_Machine, dz, _, .int (m'.n : Nat), rfl, ez, T.cl_Machine, T.n__stands, rfl, ?_⟩
      walk_at "go"
      unfold eqM at k
      by_cases c1 : m.n = m'.n
      · rw [decide_eq_true c1, Bool.true_and] at k
        rw [decide_eq_true (show V.int (m.n : Nat) = V.int (m'.n : Nat) by rw [c1])]
        refine iteT ?_
        walk_at "go"
        refine ⟨x, T.c_Machine, dx, _, .ref tx, rfl, ex, T.cl_Machine, T.n__steps, rfl, ?_⟩
        walk_at "go"
        refine ⟨z, T.c_Machine, dz, _, .ref tz, rfl, ez, T.cl_Machine, T.n__steps, rfl, ?_⟩
        refine k_eqD (dp_ss htx hsx) (dp_ss htz hsz) (ss_sh fun s hs => (o.ok s hs).c') (ss_sh fun s hs => (o'.ok s hs).c') ?_
        generalize PyData.eqv (ssD m.ss) (ssD m'.ss) = b at k ⊢
        cases b with
        | false => exact ⟨_, rfl, iteF k⟩
        | true =>
          refine ⟨_, rfl, iteT ?_⟩
          walk_at "go"
          refine ⟨x, T.c_Machine, dx, _, .ref ux, rfl, ex, T.cl_Machine, T.n__ends, rfl, ?_⟩
          walk_at "go"
          refine ⟨z, T.c_Machine, dz, _, .ref uz, rfl, ez, T.cl_Machine, T.n__ends, rfl, ?_⟩
          rw [Bool.true_and] at k
          exact k_eqD (dp_es hux) (dp_es huz) (es_sh _) (es_sh _) k
      · rw [decide_eq_false c1, Bool.false_and] at k
        rw [decide_eq_false (show ¬ V.int (m.n : Nat) = V.int (m'.n : Nat) from fun z => by injection z with z; exact c1 (by omega))]
        exact iteF k
theorem eqO_fin (T : Txt K mg) {H : Hp} {mc x : Addr} {m m' : MD} {Q : VK} (hm : MAt K T.c_Machine H mc m) (o : m.Ok) (hx : MAt K T.c_Machine H x m') (o' : m'.Ok) (k : Q (.bl (eqM m m')) H) : rEqO K T.c_Machine (sp_meq K T.c_Machine) (.ref mc) (.ref x) H Q := by
  obtain ⟨dm, tm, um, em, _⟩ := id hm
  obtain ⟨dx, tx, ux, ex, _⟩ := id hx
  exact ⟨mc, dm, _, .ref T.c_Machine, rfl, em, ty_Machine T ex, first_self, mc, m, _, rfl, hm, o, .inr ⟨x, m', rfl, hx, o', ⟨_, rfl⟩, k⟩⟩
theorem make_fin {C : Addr} {H : Hp} {x dx t u : Addr} {m : MD} {Q : Hp → Prop} {E : XK} (hx : H x = none) (hdx : H dx = none) (ne : dx ≠ x) (hp : PartsAt K H t u m) (o : m.Ok) (k : ∀ H', Same H H' → MAt K C H' x m → Q H') :
    sp_init K C [.ref x, .int (m.n : Nat), .ref t, .ref u] (upd (upd H dx (.own x)) x (.ins C dx [])) (fun v H2 => v = .non ∧ Q H2) E := by
  have z3 : Same H (upd (upd H dx (.own x)) x (.ins C dx [])) := (Same.new hdx).trans (Same.new (by rw [upd_ne ne.symm]; exact hx))
  refine ⟨x, dx, t, u, m, rfl, upd_same, (same_tups z3).parts hp, o, fun H4 k4 e4 => ⟨rfl, ?_⟩⟩
  have z4 : Same H H4 := fun b ob e => k4 b ob (ne_of_none e hx) (z3 _ _ e)
  exact k H4 z4 ⟨dx, t, u, e4, (same_tups z4).parts hp⟩
end
theorem eqM_self {m : MD} (o : m.Ok) : eqM m m = true := by
  unfold eqM
  rw [decide_eq_true rfl, sh_refl (ss_sh fun s hs => (o.ok s hs).c'), sh_refl (es_sh _)]
  rfl
theorem eqM_n {m m' : MD} (h : m.n ≠ m'.n) : eqM m m' = false := by
  unfold eqM
  rw [decide_eq_false h]
  rfl
theorem eqM_e {m m' : MD} (h : (m.es = [] ∧ m'.es = [0]) ∨ (m.es ≠ [] ∧ m'.es = [])) : eqM m m' = false := by
  unfold eqM
  have : PyData.eqv (esD m.es) (esD m'.es) = false := by
    rcases h with ⟨h1, h2⟩ | ⟨h1, h2⟩
    · rw [h1, h2]; rfl
    · rw [h2]
      cases e : m.es with
      | nil => exact absurd e h1
      | cons _ _ => rfl
  rw [this, Bool.and_false, Bool.and_false]
theorem eqvAll_len : ∀ xs ys : List PyData, PyData.eqvAll xs ys = true → xs.length = ys.length
  | [], [], _ => rfl
  | [], _ :: _, h => by simp [PyData.eqvAll] at h
  | _ :: _, [], h => by simp [PyData.eqvAll] at h
  | x :: xs, y :: ys, h => by
    rw [show PyData.eqvAll (x :: xs) (y :: ys) = (PyData.eqv x y && PyData.eqvAll xs ys) from by simp [PyData.eqvAll], Bool.and_eq_true] at h
    exact congrArg (· + 1) (eqvAll_len xs ys h.2)
theorem eqM_s {m m' : MD} (h : m.ss.length ≠ m'.ss.length) : eqM m m' = false := by
  unfold eqM
  have : PyData.eqv (ssD m.ss) (ssD m'.ss) = false := by
    cases e : PyData.eqv (ssD m.ss) (ssD m'.ss) with
    | false => rfl
    | true =>
      have e2 : PyData.eqvAll (m.ss.map stD) (m'.ss.map stD) = true := by
        have := e
        unfold ssD at this
        simpa [PyData.eqv] using this
      have := eqvAll_len _ _ e2
      rw [List.length_map, List.length_map] at this
      exact absurd this h
  rw [this, Bool.false_and, Bool.and_false]
/-! ### the parts read off a machine -/
section
variable {P : Program} {w : World} {K : PySem.W.Frag} {mg : Str → Option Value} {base : Heap}
theorem ok_Machine_stands (T : Txt K mg) : FnOk P w K mg base (L2.CX P w) 1 T.a_Machine_stands T.fd_Machine_stands ["self"] (getSp T.c_Machine "_stands") := by
  refine T.F_Machine_stands.okX sc_Machine_stands (fun vs H Q E h => ?_) (fun cdv A outer s H vs Q E hr h => ?_)
  · obtain ⟨a, dx, fs, v, rfl, _⟩ := h
    rfl
  · obtain ⟨a, dx, fs, v, rfl, ha, hl, k⟩ := h
    refine ⟨_, (PSs.nox (pss_one (ps_ret (pe_fld (pv 0) rfl)))), ?_⟩
    exact ⟨_, rfl, a, _, dx, fs, v, rfl, ha, T.cl_Machine, T.n__stands, hl, k⟩
theorem ok_Machine_steps (T : Txt K mg) : FnOk P w K mg base (L2.CX P w) 1 T.a_Machine_steps T.fd_Machine_steps ["self"] (getSp T.c_Machine "_steps") := by
  refine T.F_Machine_steps.okX sc_Machine_steps (fun vs H Q E h => ?_) (fun cdv A outer s H vs Q E hr h => ?_)
  · obtain ⟨a, dx, fs, v, rfl, _⟩ := h
    rfl
  · obtain ⟨a, dx, fs, v, rfl, ha, hl, k⟩ := h
    refine ⟨_, (PSs.nox (pss_one (ps_ret (pe_fld (pv 0) rfl)))), ?_⟩
    exact ⟨_, rfl, a, _, dx, fs, v, rfl, ha, T.cl_Machine, T.n__steps, hl, k⟩
end
/-! ### the ends read off a machine -/
section
variable {P : Program} {w : World} {K : PySem.W.Frag} {mg : Str → Option Value} {base : Heap}
theorem ok_Machine_ends (T : Txt K mg) : FnOk P w K mg base (L2.CX P w) 1 T.a_Machine_ends T.fd_Machine_ends ["self"] (getSp T.c_Machine "_ends") := by
  refine T.F_Machine_ends.okX sc_Machine_ends (fun vs H Q E h => ?_) (fun cdv A outer s H vs Q E hr h => ?_)
  · obtain ⟨a, dx, fs, v, rfl, _⟩ := h
    rfl
  · obtain ⟨a, dx, fs, v, rfl, ha, hl, k⟩ := h
    refine ⟨_, (PSs.nox (pss_one (ps_ret (pe_fld (pv 0) rfl)))), ?_⟩
    exact ⟨_, rfl, a, _, dx, fs, v, rfl, ha, T.cl_Machine, T.n__ends, hl, k⟩
end
/-! ### what is refused, told -/
theorem nt_of {K : PySem.W.Frag} {H : Hp} {v : V} {T : String} (ht : TyX K H v (.type T)) (h : PySem.W.kitOne K (.type T) (.type "tuple") = some false := by first | exact kit_ty (b := "tuple") (r := false) (by decide +kernel)) : NotTup K H v := ⟨_, ht, h⟩
def sp_ref (K : PySem.W.Frag) : Sp := fun vs H Q _ => ∃ (s t u : V), vs = [s, t, u] ∧
  (((∀ H', Same H H' → BadNum K H' 1 8 s) ∧ ∀ H', Same H H' → Q (.str "stands") H') ∨
   (∃ (n : Nat) (v : V), s = .int (n : Nat) ∧ 1 ≤ n ∧ n ≤ 8 ∧ (∀ H', Same H H' → BadStp K H' n t v) ∧ ∀ p H', Same H H' → H' p = some (.lst [.str "steps", v]) → Q (.ref p) H') ∨
   (∃ (m : MD) (p : Addr), s = .int (m.n : Nat) ∧ t = .ref p ∧ m.Ok ∧ StAt K H p m.ss ∧ (∀ H', Same H H' → BadEnd K H' (m.n : Nat) u) ∧ ∀ H', Same H H' → Q (.str "ends") H'))
section
variable {P : Program} {w : World} {K : PySem.W.Frag} {mg : Str → Option Value} {base : Heap}
theorem ok_law_refused (T : Txt K mg) : FnOk P w K mg base (L2.CX P w) 8 T.a_law_refused T.fd_law_refused ["_law_stands", "_law_steps", "_law_ends"] (sp_ref K) := by
  refine T.F_law_refused.okX sc_law_refused (fun vs H Q E h => ?_) (fun cdv A outer s H vs Q E hr h => ?_)
  · obtain ⟨s, t, u, rfl, _⟩ := h
    rfl
  · obtain ⟨s', t, u, rfl, h⟩ := h
    refine ⟨_, (PSs.nox (pss_cons (ps_set (i := 3) sc_law_refused.nd rfl (Or.inl rfl) pe_non)
  (pss_cons (ps_try_manyA rfl rfl takes0 (fun W pn xe tk _ => (pss_one (ps_expr (pe_makeS T.mk_Machine (ok_Machine_init_bad T) (hr.mono (by decide)) (by rfl) T.m_Machine T.b_Machine_init (fun σ => passAt tk σ) (pa_cons (pv 0) (pa_cons (pv 1) (pa_cons (pv 2) pa_nil))))))) (.cons ⟨rfl, by decide, .inl T.m_BadStands⟩ (fun a oe cls d pn hz hf => (pss_one (ps_set (i := 3) sc_law_refused.nd rfl (Or.inl rfl) pe_str))) (.consA (i := 4) sc_law_refused.nd rfl rfl ⟨rfl, by decide, .inl T.m_BadSteps⟩ (fun a oe cls d pn hz hf => (pss_one (ps_set (i := 3) sc_law_refused.nd rfl (Or.inl rfl) (pe_lst (pa_cons pe_str (pa_cons (pe_xf T.xf_BadSteps T.no_BadSteps_index hz hf (pv 4)) pa_nil)))))) (.cons ⟨rfl, by decide, .inl T.m_BadEnds⟩ (fun a oe cls d pn hz hf => (pss_one (ps_set (i := 3) sc_law_refused.nd rfl (Or.inl rfl) pe_str))) .nil))))
  (pss_one (ps_ret (pv 3)))))), ?_⟩
    walk_at "begin"
    walk_at "go"
    refine k_makeS ?_
    walk_at "go"
    intro x dx hx hdx ne
    have z3 : Same H (upd (upd H dx (.own x)) x (.ins T.c_Machine dx [])) := (Same.new hdx).trans (Same.new (by rw [upd_ne ne.symm]; exact hx))
    generalize upd (upd H dx (.own x)) x (.ins T.c_Machine dx []) = H1 at z3 ⊢
    refine ⟨x, s', t, u, rfl, ?_⟩
    rcases h with ⟨bad, k⟩ | ⟨n, v, rfl, n1, n8, bad, k⟩ | ⟨m, p, rfl, rfl, o, ⟨us, hp, hs⟩, bad, k⟩
    · refine .inl ⟨bad _ z3, true, T.e_BadStands, fun _ b hb => ?_, fun q => nomatch q⟩
      dsimp only
      walk_at "go"
      exact k _ z3
    · refine .inr (.inl ⟨n, v, rfl, n1, n8, bad _ z3, fun d H2 z2 ed => ⟨false, T.er_BadSteps_BadStands, (fun q => nomatch q), fun _ => ⟨true, T.e_BadSteps, fun _ b hb => ?_, fun q => nomatch q⟩⟩⟩)
      dsimp only
      walk_at "go"
      refine k_xf ?_
      walk_at "go"
      refine ⟨rfl, rfl, d, _, _, rfl, ed, rfl, ?_⟩
      walk_at "go"
      refine ⟨(by show 2 ≤ sizeLine; decide), fun q hq => ?_⟩
      walk_at "go"
      exact k q _ ((z3.trans z2).trans (Same.new hq)) upd_same
    · refine .inr (.inr ⟨m, p, us, rfl, rfl, o, (same_tups z3).sq hp, (same_tups z3).steps hs, fun H' z => bad _ (z3.trans z), fun H2 z2 => ⟨false, T.er_BadEnds_BadStands, (fun q => nomatch q), fun _ => ⟨false, T.er_BadEnds_BadSteps, (fun q => nomatch q), fun _ => ⟨true, T.e_BadEnds, fun _ b hb => ?_, fun q => nomatch q⟩⟩⟩⟩)
      dsimp only
      walk_at "go"
      exact k _ (z3.trans z2)
theorem num_sc {K : PySem.W.Frag} {H : Hp} {x : V} (h : (match x with | .int _ | .bl _ | .non | .str _ => true | _ => false) = true) : Num K H x := by
  cases x with
  | int j => exact .inl ⟨j, rfl⟩
  | bl b => exact .inr ⟨.inl ⟨b, rfl⟩, fun _ z => nomatch z⟩
  | non => exact .inr ⟨.inr ⟨_, .base .non, kit_ty (b := "int") (r := false) (by decide +kernel)⟩, fun _ z => nomatch z⟩
  | str z => exact .inr ⟨.inr ⟨_, .base (.str _), kit_ty (b := "int") (r := false) (by decide +kernel)⟩, fun _ z => nomatch z⟩
  | _ => cases h
theorem at_in {xs : List V} {x : Int} (h0 : 0 ≤ x) (h : x < (xs.length : Nat)) : ∃ v, atI xs x = some v ∧ v ∈ xs := by
  have hl : x.toNat < xs.length := by omega
  exact ⟨_, at_of (j := x.toNat) (by omega) (List.getElem?_eq_getElem hl), List.getElem_mem hl⟩
/-- values that are no steps, whatever comes -/
def OddL (K : PySem.W.Frag) (H : Hp) (a : Addr) (n : Int) (vs : List V) : Prop := (∃ l, H a = some (.lst l)) ∧ ∀ v ∈ vs, ∀ H', Keep a H H' → NotStep K H' n v
theorem OddL.keep {K : PySem.W.Frag} {H H' : Hp} {a : Addr} {n : Int} {vs : List V} (h : OddL K H a n vs) (R : RowOk K H' a) (z : Keep a H H') : OddL K H' a n vs := ⟨R.lst, fun v hv H2 z2 => h.2 v hv H2 (z.trans z2)⟩
theorem OddL.new {K : PySem.W.Frag} {H : Hp} {a : Addr} {n : Int} {vs : List V} (h : OddL K H a n vs) {p : Addr} {o : HO} (hp : H p = none) : OddL K (upd H p o) a n vs := by
  obtain ⟨⟨l, e⟩, h2⟩ := h
  exact ⟨⟨l, by rw [upd_ne (ne_of_none e hp)]; exact e⟩, fun v hv H2 z2 => h2 v hv H2 ((Keep.of_same (Same.new hp)).trans z2)⟩
theorem OddL.tup {K : PySem.W.Frag} {H : Hp} {a : Addr} {n : Int} {vs : List V} (h : OddL K H a n vs) {p : Addr} {xs : List V} (hp : H p = none) (c : xs.length ≠ 4 ∨ ∃ b l e g, xs = [b, l, e, g] ∧ (∀ H', Num K H' b) ∧ (∀ H', Num K H' e) ∧ (∀ H', Num K H' g) ∧ flatV l = true ∧ stepB n b l e g = false) : OddL K (upd H p (.tup xs)) a n (vs ++ [.ref p]) := by
  have h' := h.new (o := .tup xs) hp
  obtain ⟨⟨l, e⟩, _⟩ := h
  refine ⟨h'.1, fun v hv H2 z2 => ?_⟩
  rcases List.mem_append.mp hv with hv | hv
  · exact h'.2 v hv H2 z2
  · rw [List.mem_singleton.mp hv]
    have e2 : H2 p = some (.tup xs) := z2 _ _ (ne_of_none e hp).symm upd_same
    refine .inr ⟨p, xs, rfl, SqT.of e2, ?_⟩
    rcases c with c | ⟨b, l, e, g, rfl, h1, h2, h3, h4, h5⟩
    · exact .inl c
    · exact .inr ⟨b, l, e, g, rfl, h1 _, h2 _, h3 _, h4, h5⟩
theorem OddL.lst {K : PySem.W.Frag} {H : Hp} {a : Addr} {n : Int} {vs : List V} (h : OddL K H a n vs) {p : Addr} {xs : List V} (hp : H p = none) : OddL K (upd H p (.lst xs)) a n (vs ++ [.ref p]) := by
  have h' := h.new (o := .lst xs) hp
  obtain ⟨⟨l, e⟩, _⟩ := h
  refine ⟨h'.1, fun v hv H2 z2 => ?_⟩
  rcases List.mem_append.mp hv with hv | hv
  · exact h'.2 v hv H2 z2
  · rw [List.mem_singleton.mp hv]
    have e2 : H2 p = some (.lst xs) := z2 _ _ (ne_of_none e hp).symm upd_same
    exact .inl (nt_of (.base (.lst e2)))
theorem OddL.non {K : PySem.W.Frag} {H : Hp} {a : Addr} {n : Int} {vs : List V} (h : OddL K H a n vs) : OddL K H a n (vs ++ [.non]) := ⟨h.1, fun v hv H2 z2 => by
  rcases List.mem_append.mp hv with hv | hv
  · exact h.2 v hv H2 z2
  · rw [List.mem_singleton.mp hv]; exact .inl (nt_of (.base .non))⟩
theorem OddL.str {K : PySem.W.Frag} {H : Hp} {a : Addr} {n : Int} {vs : List V} (h : OddL K H a n vs) {y : Str} : OddL K H a n (vs ++ [.str y]) := ⟨h.1, fun v hv H2 z2 => by
  rcases List.mem_append.mp hv with hv | hv
  · exact h.2 v hv H2 z2
  · rw [List.mem_singleton.mp hv]; exact .inl (nt_of (.base (.str _)))⟩
def sp_spoilt (K : PySem.W.Frag) : Sp := fun vs H Q _ => ∃ (a : Addr) (n : Int), vs = [.ref a, .int n] ∧ 1 ≤ n ∧ n ≤ 8 ∧ RowOk K H a ∧ ∀ v H', RowOk K H' a → Keep a H H' → (∀ H2, Keep a H' H2 → NotStep K H2 n v) → Q v H'
theorem ok_law_spoilt (T : Txt K mg) : FnOk P w K mg base (L2.CX P w) 2 T.a_law_spoilt T.fd_law_spoilt ["_law_row", "_law_stands"] (sp_spoilt K) := by
  refine T.F_law_spoilt.okX sc_law_spoilt (fun vs H Q E h => ?_) (fun cdv A outer s H vs Q E hr h => ?_)
  · obtain ⟨a, n, rfl, _⟩ := h
    rfl
  · obtain ⟨a, n, rfl, n1, n8, R, k⟩ := h
    refine ⟨_, (PSs.nox (pss_cons (ps_set (i := 2) sc_law_spoilt.nd rfl (Or.inl rfl) (pe_lst (pa_cons pe_non (pa_cons (pe_tup (pa_cons pe_int (pa_cons pe_str (pa_cons pe_int pa_nil)))) (pa_cons (pe_tup (pa_cons pe_int (pa_cons pe_str (pa_cons pe_int (pa_cons pe_int pa_nil))))) (pa_cons (pe_tup (pa_cons pe_int (pa_cons pe_str (pa_cons pe_int (pa_cons pe_int pa_nil))))) (pa_cons (pe_tup (pa_cons pe_int (pa_cons pe_str (pa_cons pe_int (pa_cons pe_int pa_nil))))) (pa_cons (pe_tup (pa_cons pe_int (pa_cons pe_int (pa_cons pe_int (pa_cons pe_int pa_nil))))) pa_nil))))))))
  (pss_cons (ps_set (i := 2) sc_law_spoilt.nd rfl (Or.inl rfl) (pe_op op_cat (pv 2) (pe_lst (pa_cons (pe_tup (pa_cons (pv 1) (pa_cons pe_str (pa_cons pe_int (pa_cons pe_int pa_nil))))) (pa_cons (pe_tup (pa_cons (pe_un un_neg pe_int) (pa_cons pe_str (pa_cons pe_int (pa_cons pe_int pa_nil))))) (pa_cons (pe_tup (pa_cons pe_int (pa_cons pe_str (pa_cons (pv 1) (pa_cons pe_int pa_nil))))) (pa_cons (pe_tup (pa_cons pe_bl (pa_cons pe_str (pa_cons pe_int (pa_cons pe_int pa_nil))))) pa_nil)))))))
  (pss_cons (ps_set (i := 2) sc_law_spoilt.nd rfl (Or.inl rfl) (pe_op op_cat (pv 2) (pe_lst (pa_cons (pe_tup (pa_cons pe_int (pa_cons pe_str (pa_cons pe_bl (pa_cons pe_int pa_nil))))) (pa_cons (pe_tup (pa_cons pe_int (pa_cons pe_str (pa_cons pe_int (pa_cons (pe_op op_add (pe_op op_pow pe_int pe_int) pe_int) pa_nil))))) (pa_cons (pe_tup (pa_cons pe_int (pa_cons pe_str (pa_cons pe_int (pa_cons pe_non pa_nil))))) pa_nil))))))
  (pss_cons (ps_set (i := 2) sc_law_spoilt.nd rfl (Or.inl rfl) (pe_op op_cat (pv 2) (pe_lst (pa_cons (pe_lst (pa_cons pe_int (pa_cons pe_str (pa_cons pe_int (pa_cons pe_int pa_nil))))) (pa_cons (pe_tup (pa_cons pe_int (pa_cons pe_str (pa_cons pe_int (pa_cons pe_bl pa_nil))))) (pa_cons (pe_tup (pa_cons pe_int (pa_cons pe_str (pa_cons pe_int (pa_cons pe_str pa_nil))))) (pa_cons pe_str pa_nil)))))))
  (pss_one (ps_ret (pe_ix ix_list (pv 2) (pe_call (ok_law_taken T) (hr.mono (by decide)) (by rfl) T.m_law_taken T.k_law_taken T.b_law_taken .nil passL (pa_cons (pv 0) (pa_cons (pe_callB call_len_seq (by rfl) T.z_len PySem.boot_len (pa_cons (pv 2) pa_nil)) pa_nil))) (fun _ _ => rfl))))))))), ?_⟩
    walk_at "begin"
    walk_at "go"
    have O0 : OddL K H a n [] := ⟨R.lst, fun v h => by cases h⟩
    have K0 : Keep a H H := Keep.refl _ _
    have b1 : btw 0 (n - 1) (.int n) = false := decide_eq_false (by omega)
    have b0 : btw 0 (n - 1) (.int 0) = true := decide_eq_true (by omega)
    have bm : btw 0 (n - 1) (.int (-1)) = false := by
      show decide ((0 : Int) ≤ -1 ∧ (-1 : Int) ≤ n - 1) = false
      exact decide_eq_false (by omega)
    have O1 := O0.non
    refine ⟨(by show 3 ≤ sizeLine; decide), fun p1 h1 => ?_⟩
    have O2 := O1.tup (xs := [V.int 0, V.str "a", V.int 0]) h1 (.inl (by show ¬ (3 = 4); decide))
    have R1 := R.same (Same.new (o := .tup [V.int 0, V.str "a", V.int 0]) h1)
    have K1 := K0.trans (Keep.of_same (Same.new (o := .tup [V.int 0, V.str "a", V.int 0]) h1))
    generalize upd H p1 (.tup [V.int 0, V.str "a", V.int 0]) = H1 at O2 R1 K1  ⊢
    clear h1
    walk_at "go"
    refine ⟨(by show 4 ≤ sizeLine; decide), fun p2 h2 => ?_⟩
    have O3 := O2.tup (xs := [V.int 0, V.str "e", V.int 0, V.int 1]) h2 (.inr ⟨_, _, _, _, rfl, fun _ => num_sc rfl, fun _ => num_sc rfl, fun _ => num_sc rfl, rfl, by unfold stepB; first | (rw [b1]; rfl) | (rw [bm]; rfl) | (rw [b0, b1]; cases inV _ _ <;> rfl) | (rw [b0]; decide +kernel) | (rw [b0]; rfl) | decide +kernel⟩)
    have R2 := R1.same (Same.new (o := .tup [V.int 0, V.str "e", V.int 0, V.int 1]) h2)
    have K2 := K1.trans (Keep.of_same (Same.new (o := .tup [V.int 0, V.str "e", V.int 0, V.int 1]) h2))
    generalize upd H1 p2 (.tup [V.int 0, V.str "e", V.int 0, V.int 1]) = H2 at O3 R2 K2  ⊢
    clear h2
    walk_at "go"
    refine ⟨(by show 4 ≤ sizeLine; decide), fun p3 h3 => ?_⟩
    have O4 := O3.tup (xs := [V.int 0, V.str "", V.int 0, V.int 1]) h3 (.inr ⟨_, _, _, _, rfl, fun _ => num_sc rfl, fun _ => num_sc rfl, fun _ => num_sc rfl, rfl, by unfold stepB; first | (rw [b1]; rfl) | (rw [bm]; rfl) | (rw [b0, b1]; cases inV _ _ <;> rfl) | (rw [b0]; decide +kernel) | (rw [b0]; rfl) | decide +kernel⟩)
    have R3 := R2.same (Same.new (o := .tup [V.int 0, V.str "", V.int 0, V.int 1]) h3)
    have K3 := K2.trans (Keep.of_same (Same.new (o := .tup [V.int 0, V.str "", V.int 0, V.int 1]) h3))
    generalize upd H2 p3 (.tup [V.int 0, V.str "", V.int 0, V.int 1]) = H3 at O4 R3 K3  ⊢
    clear h3
    walk_at "go"
    refine ⟨(by show 4 ≤ sizeLine; decide), fun p4 h4 => ?_⟩
    have O5 := O4.tup (xs := [V.int 0, V.str "ab", V.int 0, V.int 1]) h4 (.inr ⟨_, _, _, _, rfl, fun _ => num_sc rfl, fun _ => num_sc rfl, fun _ => num_sc rfl, rfl, by unfold stepB; first | (rw [b1]; rfl) | (rw [bm]; rfl) | (rw [b0, b1]; cases inV _ _ <;> rfl) | (rw [b0]; decide +kernel) | (rw [b0]; rfl) | decide +kernel⟩)
    have R4 := R3.same (Same.new (o := .tup [V.int 0, V.str "ab", V.int 0, V.int 1]) h4)
    have K4 := K3.trans (Keep.of_same (Same.new (o := .tup [V.int 0, V.str "ab", V.int 0, V.int 1]) h4))
    generalize upd H3 p4 (.tup [V.int 0, V.str "ab", V.int 0, V.int 1]) = H4 at O5 R4 K4  ⊢
    clear h4
    walk_at "go"
    refine ⟨(by show 4 ≤ sizeLine; decide), fun p5 h5 => ?_⟩
    have O6 := O5.tup (xs := [V.int 0, V.int 0, V.int 0, V.int 1]) h5 (.inr ⟨_, _, _, _, rfl, fun _ => num_sc rfl, fun _ => num_sc rfl, fun _ => num_sc rfl, rfl, by unfold stepB; first | (rw [b1]; rfl) | (rw [bm]; rfl) | (rw [b0, b1]; cases inV _ _ <;> rfl) | (rw [b0]; decide +kernel) | (rw [b0]; rfl) | decide +kernel⟩)
    have R5 := R4.same (Same.new (o := .tup [V.int 0, V.int 0, V.int 0, V.int 1]) h5)
    have K5 := K4.trans (Keep.of_same (Same.new (o := .tup [V.int 0, V.int 0, V.int 0, V.int 1]) h5))
    generalize upd H4 p5 (.tup [V.int 0, V.int 0, V.int 0, V.int 1]) = H5 at O6 R5 K5  ⊢
    clear h5
    walk_at "go"
    refine ⟨(by show 6 ≤ sizeLine; decide), fun p6 h6 => ?_⟩
    have O6n := O6.new (o := .lst [V.non, V.ref p1, V.ref p2, V.ref p3, V.ref p4, V.ref p5]) h6
    have R6 := R5.same (Same.new (o := .lst [V.non, V.ref p1, V.ref p2, V.ref p3, V.ref p4, V.ref p5]) h6)
    have K6 := K5.trans (Keep.of_same (Same.new (o := .lst [V.non, V.ref p1, V.ref p2, V.ref p3, V.ref p4, V.ref p5]) h6))
    have e6 := upd_same (H := H5) (a := p6) (o := .lst [V.non, V.ref p1, V.ref p2, V.ref p3, V.ref p4, V.ref p5])
    generalize upd H5 p6 (.lst [V.non, V.ref p1, V.ref p2, V.ref p3, V.ref p4, V.ref p5]) = H6 at O6n R6 K6 e6 ⊢
    clear h6
    have O7 := O6n
    walk_at "go"
    refine ⟨(by show 4 ≤ sizeLine; decide), fun p7 h7 => ?_⟩
    have O8 := O7.tup (xs := [V.int n, V.str "a", V.int 0, V.int 1]) h7 (.inr ⟨_, _, _, _, rfl, fun _ => num_sc rfl, fun _ => num_sc rfl, fun _ => num_sc rfl, rfl, by unfold stepB; first | (rw [b1]; rfl) | (rw [bm]; rfl) | (rw [b0, b1]; cases inV _ _ <;> rfl) | (rw [b0]; decide +kernel) | (rw [b0]; rfl) | decide +kernel⟩)
    have R7 := R6.same (Same.new (o := .tup [V.int n, V.str "a", V.int 0, V.int 1]) h7)
    have K7 := K6.trans (Keep.of_same (Same.new (o := .tup [V.int n, V.str "a", V.int 0, V.int 1]) h7))
    have e6 := (Same.new (o := .tup [V.int n, V.str "a", V.int 0, V.int 1]) h7) _ _ e6
    generalize upd H6 p7 (.tup [V.int n, V.str "a", V.int 0, V.int 1]) = H7 at O8 R7 K7 e6 ⊢
    clear h7
    walk_at "go"
    refine ⟨(by show 4 ≤ sizeLine; decide), fun p8 h8 => ?_⟩
    have O9 := O8.tup (xs := [V.int (-1), V.str "a", V.int 0, V.int 1]) h8 (.inr ⟨_, _, _, _, rfl, fun _ => num_sc rfl, fun _ => num_sc rfl, fun _ => num_sc rfl, rfl, by unfold stepB; first | (rw [b1]; rfl) | (rw [bm]; rfl) | (rw [b0, b1]; cases inV _ _ <;> rfl) | (rw [b0]; decide +kernel) | (rw [b0]; rfl) | decide +kernel⟩)
    have R8 := R7.same (Same.new (o := .tup [V.int (-1), V.str "a", V.int 0, V.int 1]) h8)
    have K8 := K7.trans (Keep.of_same (Same.new (o := .tup [V.int (-1), V.str "a", V.int 0, V.int 1]) h8))
    have e6 := (Same.new (o := .tup [V.int (-1), V.str "a", V.int 0, V.int 1]) h8) _ _ e6
    generalize upd H7 p8 (.tup [V.int (-1), V.str "a", V.int 0, V.int 1]) = H8 at O9 R8 K8 e6 ⊢
    clear h8
    walk_at "go"
    refine ⟨(by show 4 ≤ sizeLine; decide), fun p9 h9 => ?_⟩
    have O10 := O9.tup (xs := [V.int 0, V.str "a", V.int n, V.int 1]) h9 (.inr ⟨_, _, _, _, rfl, fun _ => num_sc rfl, fun _ => num_sc rfl, fun _ => num_sc rfl, rfl, by unfold stepB; first | (rw [b1]; rfl) | (rw [bm]; rfl) | (rw [b0, b1]; cases inV _ _ <;> rfl) | (rw [b0]; decide +kernel) | (rw [b0]; rfl) | decide +kernel⟩)
    have R9 := R8.same (Same.new (o := .tup [V.int 0, V.str "a", V.int n, V.int 1]) h9)
    have K9 := K8.trans (Keep.of_same (Same.new (o := .tup [V.int 0, V.str "a", V.int n, V.int 1]) h9))
    have e6 := (Same.new (o := .tup [V.int 0, V.str "a", V.int n, V.int 1]) h9) _ _ e6
    generalize upd H8 p9 (.tup [V.int 0, V.str "a", V.int n, V.int 1]) = H9 at O10 R9 K9 e6 ⊢
    clear h9
    walk_at "go"
    refine ⟨(by show 4 ≤ sizeLine; decide), fun p10 h10 => ?_⟩
    have O11 := O10.tup (xs := [V.bl true, V.str "a", V.int 0, V.int 1]) h10 (.inr ⟨_, _, _, _, rfl, fun _ => num_sc rfl, fun _ => num_sc rfl, fun _ => num_sc rfl, rfl, by unfold stepB; first | (rw [b1]; rfl) | (rw [bm]; rfl) | (rw [b0, b1]; cases inV _ _ <;> rfl) | (rw [b0]; decide +kernel) | (rw [b0]; rfl) | decide +kernel⟩)
    have R10 := R9.same (Same.new (o := .tup [V.bl true, V.str "a", V.int 0, V.int 1]) h10)
    have K10 := K9.trans (Keep.of_same (Same.new (o := .tup [V.bl true, V.str "a", V.int 0, V.int 1]) h10))
    have e6 := (Same.new (o := .tup [V.bl true, V.str "a", V.int 0, V.int 1]) h10) _ _ e6
    generalize upd H9 p10 (.tup [V.bl true, V.str "a", V.int 0, V.int 1]) = H10 at O11 R10 K10 e6 ⊢
    clear h10
    walk_at "go"
    refine ⟨(by show 4 ≤ sizeLine; decide), fun p11 h11 => ?_⟩
    have O11n := O11.new (o := .lst [V.ref p7, V.ref p8, V.ref p9, V.ref p10]) h11
    have R11 := R10.same (Same.new (o := .lst [V.ref p7, V.ref p8, V.ref p9, V.ref p10]) h11)
    have K11 := K10.trans (Keep.of_same (Same.new (o := .lst [V.ref p7, V.ref p8, V.ref p9, V.ref p10]) h11))
    have e11 := upd_same (H := H10) (a := p11) (o := .lst [V.ref p7, V.ref p8, V.ref p9, V.ref p10])
    have e6 := (Same.new (o := .lst [V.ref p7, V.ref p8, V.ref p9, V.ref p10]) h11) _ _ e6
    generalize upd H10 p11 (.lst [V.ref p7, V.ref p8, V.ref p9, V.ref p10]) = H11 at O11n R11 K11 e6 e11 ⊢
    clear h11
    have O12 := O11n
    refine ⟨p6, p11, _, _, rfl, rfl, e6, e11, (by show 6 + 4 ≤ sizeLine; decide), fun p12 h12 => ?_⟩
    have O12n := O12.new (o := .lst [V.non, V.ref p1, V.ref p2, V.ref p3, V.ref p4, V.ref p5, V.ref p7, V.ref p8, V.ref p9, V.ref p10]) h12
    have R12 := R11.same (Same.new (o := .lst [V.non, V.ref p1, V.ref p2, V.ref p3, V.ref p4, V.ref p5, V.ref p7, V.ref p8, V.ref p9, V.ref p10]) h12)
    have K12 := K11.trans (Keep.of_same (Same.new (o := .lst [V.non, V.ref p1, V.ref p2, V.ref p3, V.ref p4, V.ref p5, V.ref p7, V.ref p8, V.ref p9, V.ref p10]) h12))
    have e12 := upd_same (H := H11) (a := p12) (o := .lst [V.non, V.ref p1, V.ref p2, V.ref p3, V.ref p4, V.ref p5, V.ref p7, V.ref p8, V.ref p9, V.ref p10])
    show gName 2 (.ref p12) _ (upd H11 p12 (.lst [V.non, V.ref p1, V.ref p2, V.ref p3, V.ref p4, V.ref p5, V.ref p7, V.ref p8, V.ref p9, V.ref p10])) _
    generalize upd H11 p12 (.lst [V.non, V.ref p1, V.ref p2, V.ref p3, V.ref p4, V.ref p5, V.ref p7, V.ref p8, V.ref p9, V.ref p10]) = H12 at O12n R12 K12 e12 ⊢
    clear h12 e6 e11
    have O13 := O12n
    walk_at "go"
    refine ⟨(by show 4 ≤ sizeLine; decide), fun p13 h13 => ?_⟩
    have O14 := O13.tup (xs := [V.int 0, V.str "a", V.bl false, V.int 1]) h13 (.inr ⟨_, _, _, _, rfl, fun _ => num_sc rfl, fun _ => num_sc rfl, fun _ => num_sc rfl, rfl, by unfold stepB; first | (rw [b1]; rfl) | (rw [bm]; rfl) | (rw [b0, b1]; cases inV _ _ <;> rfl) | (rw [b0]; decide +kernel) | (rw [b0]; rfl) | decide +kernel⟩)
    have R13 := R12.same (Same.new (o := .tup [V.int 0, V.str "a", V.bl false, V.int 1]) h13)
    have K13 := K12.trans (Keep.of_same (Same.new (o := .tup [V.int 0, V.str "a", V.bl false, V.int 1]) h13))
    have e12 := (Same.new (o := .tup [V.int 0, V.str "a", V.bl false, V.int 1]) h13) _ _ e12
    generalize upd H12 p13 (.tup [V.int 0, V.str "a", V.bl false, V.int 1]) = H13 at O14 R13 K13 e12 ⊢
    clear h13
    walk_at "go"
    refine k_I (by exact ⟨by decide, by decide, by decide⟩) ?_
    walk_at "go"
    refine ⟨(by show 4 ≤ sizeLine; decide), fun p14 h14 => ?_⟩
    have O15 := O14.tup (xs := [V.int 0, V.str "a", V.int 0, V.int (10 ^ Int.toNat 30 + 1)]) h14 (.inr ⟨_, _, _, _, rfl, fun _ => num_sc rfl, fun _ => num_sc rfl, fun _ => num_sc rfl, rfl, by unfold stepB; first | (rw [b1]; rfl) | (rw [bm]; rfl) | (rw [b0, b1]; cases inV _ _ <;> rfl) | (rw [b0]; decide +kernel) | (rw [b0]; rfl) | decide +kernel⟩)
    have R14 := R13.same (Same.new (o := .tup [V.int 0, V.str "a", V.int 0, V.int (10 ^ Int.toNat 30 + 1)]) h14)
    have K14 := K13.trans (Keep.of_same (Same.new (o := .tup [V.int 0, V.str "a", V.int 0, V.int (10 ^ Int.toNat 30 + 1)]) h14))
    have e12 := (Same.new (o := .tup [V.int 0, V.str "a", V.int 0, V.int (10 ^ Int.toNat 30 + 1)]) h14) _ _ e12
    generalize upd H13 p14 (.tup [V.int 0, V.str "a", V.int 0, V.int (10 ^ Int.toNat 30 + 1)]) = H14 at O15 R14 K14 e12 ⊢
    clear h14
    walk_at "go"
    refine ⟨(by show 4 ≤ sizeLine; decide), fun p15 h15 => ?_⟩
    have O16 := O15.tup (xs := [V.int 0, V.str "a", V.int 0, V.non]) h15 (.inr ⟨_, _, _, _, rfl, fun _ => num_sc rfl, fun _ => num_sc rfl, fun _ => num_sc rfl, rfl, by unfold stepB; first | (rw [b1]; rfl) | (rw [bm]; rfl) | (rw [b0, b1]; cases inV _ _ <;> rfl) | (rw [b0]; decide +kernel) | (rw [b0]; rfl) | decide +kernel⟩)
    have R15 := R14.same (Same.new (o := .tup [V.int 0, V.str "a", V.int 0, V.non]) h15)
    have K15 := K14.trans (Keep.of_same (Same.new (o := .tup [V.int 0, V.str "a", V.int 0, V.non]) h15))
    have e12 := (Same.new (o := .tup [V.int 0, V.str "a", V.int 0, V.non]) h15) _ _ e12
    generalize upd H14 p15 (.tup [V.int 0, V.str "a", V.int 0, V.non]) = H15 at O16 R15 K15 e12 ⊢
    clear h15
    walk_at "go"
    refine ⟨(by show 3 ≤ sizeLine; decide), fun p16 h16 => ?_⟩
    have O16n := O16.new (o := .lst [V.ref p13, V.ref p14, V.ref p15]) h16
    have R16 := R15.same (Same.new (o := .lst [V.ref p13, V.ref p14, V.ref p15]) h16)
    have K16 := K15.trans (Keep.of_same (Same.new (o := .lst [V.ref p13, V.ref p14, V.ref p15]) h16))
    have e16 := upd_same (H := H15) (a := p16) (o := .lst [V.ref p13, V.ref p14, V.ref p15])
    have e12 := (Same.new (o := .lst [V.ref p13, V.ref p14, V.ref p15]) h16) _ _ e12
    generalize upd H15 p16 (.lst [V.ref p13, V.ref p14, V.ref p15]) = H16 at O16n R16 K16 e12 e16 ⊢
    clear h16
    have O17 := O16n
    refine ⟨p12, p16, _, _, rfl, rfl, e12, e16, (by show 10 + 3 ≤ sizeLine; decide), fun p17 h17 => ?_⟩
    have O17n := O17.new (o := .lst [V.non, V.ref p1, V.ref p2, V.ref p3, V.ref p4, V.ref p5, V.ref p7, V.ref p8, V.ref p9, V.ref p10, V.ref p13, V.ref p14, V.ref p15]) h17
    have R17 := R16.same (Same.new (o := .lst [V.non, V.ref p1, V.ref p2, V.ref p3, V.ref p4, V.ref p5, V.ref p7, V.ref p8, V.ref p9, V.ref p10, V.ref p13, V.ref p14, V.ref p15]) h17)
    have K17 := K16.trans (Keep.of_same (Same.new (o := .lst [V.non, V.ref p1, V.ref p2, V.ref p3, V.ref p4, V.ref p5, V.ref p7, V.ref p8, V.ref p9, V.ref p10, V.ref p13, V.ref p14, V.ref p15]) h17))
    have e17 := upd_same (H := H16) (a := p17) (o := .lst [V.non, V.ref p1, V.ref p2, V.ref p3, V.ref p4, V.ref p5, V.ref p7, V.ref p8, V.ref p9, V.ref p10, V.ref p13, V.ref p14, V.ref p15])
    show gName 2 (.ref p17) _ (upd H16 p17 (.lst [V.non, V.ref p1, V.ref p2, V.ref p3, V.ref p4, V.ref p5, V.ref p7, V.ref p8, V.ref p9, V.ref p10, V.ref p13, V.ref p14, V.ref p15])) _
    generalize upd H16 p17 (.lst [V.non, V.ref p1, V.ref p2, V.ref p3, V.ref p4, V.ref p5, V.ref p7, V.ref p8, V.ref p9, V.ref p10, V.ref p13, V.ref p14, V.ref p15]) = H17 at O17n R17 K17 e17 ⊢
    clear h17 e12 e16
    have O18 := O17n
    walk_at "go"
    refine ⟨(by show 4 ≤ sizeLine; decide), fun p18 h18 => ?_⟩
    have O19 := O18.lst (xs := [V.int 0, V.str "a", V.int 0, V.int 1]) h18
    have R18 := R17.same (Same.new (o := .lst [V.int 0, V.str "a", V.int 0, V.int 1]) h18)
    have K18 := K17.trans (Keep.of_same (Same.new (o := .lst [V.int 0, V.str "a", V.int 0, V.int 1]) h18))
    have e17 := (Same.new (o := .lst [V.int 0, V.str "a", V.int 0, V.int 1]) h18) _ _ e17
    generalize upd H17 p18 (.lst [V.int 0, V.str "a", V.int 0, V.int 1]) = H18 at O19 R18 K18 e17 ⊢
    clear h18
    walk_at "go"
    refine ⟨(by show 4 ≤ sizeLine; decide), fun p19 h19 => ?_⟩
    have O20 := O19.tup (xs := [V.int 0, V.str "a", V.int 0, V.bl true]) h19 (.inr ⟨_, _, _, _, rfl, fun _ => num_sc rfl, fun _ => num_sc rfl, fun _ => num_sc rfl, rfl, by unfold stepB; first | (rw [b1]; rfl) | (rw [bm]; rfl) | (rw [b0, b1]; cases inV _ _ <;> rfl) | (rw [b0]; decide +kernel) | (rw [b0]; rfl) | decide +kernel⟩)
    have R19 := R18.same (Same.new (o := .tup [V.int 0, V.str "a", V.int 0, V.bl true]) h19)
    have K19 := K18.trans (Keep.of_same (Same.new (o := .tup [V.int 0, V.str "a", V.int 0, V.bl true]) h19))
    have e17 := (Same.new (o := .tup [V.int 0, V.str "a", V.int 0, V.bl true]) h19) _ _ e17
    generalize upd H18 p19 (.tup [V.int 0, V.str "a", V.int 0, V.bl true]) = H19 at O20 R19 K19 e17 ⊢
    clear h19
    walk_at "go"
    refine ⟨(by show 4 ≤ sizeLine; decide), fun p20 h20 => ?_⟩
    have O21 := O20.tup (xs := [V.int 0, V.str "a", V.int 0, V.str "1"]) h20 (.inr ⟨_, _, _, _, rfl, fun _ => num_sc rfl, fun _ => num_sc rfl, fun _ => num_sc rfl, rfl, by unfold stepB; first | (rw [b1]; rfl) | (rw [bm]; rfl) | (rw [b0, b1]; cases inV _ _ <;> rfl) | (rw [b0]; decide +kernel) | (rw [b0]; rfl) | decide +kernel⟩)
    have R20 := R19.same (Same.new (o := .tup [V.int 0, V.str "a", V.int 0, V.str "1"]) h20)
    have K20 := K19.trans (Keep.of_same (Same.new (o := .tup [V.int 0, V.str "a", V.int 0, V.str "1"]) h20))
    have e17 := (Same.new (o := .tup [V.int 0, V.str "a", V.int 0, V.str "1"]) h20) _ _ e17
    generalize upd H19 p20 (.tup [V.int 0, V.str "a", V.int 0, V.str "1"]) = H20 at O21 R20 K20 e17 ⊢
    clear h20
    walk_at "go"
    have O22 := O21.str (y := "step")
    refine ⟨(by show 4 ≤ sizeLine; decide), fun p21 h21 => ?_⟩
    have O22n := O22.new (o := .lst [V.ref p18, V.ref p19, V.ref p20, V.str "step"]) h21
    have R21 := R20.same (Same.new (o := .lst [V.ref p18, V.ref p19, V.ref p20, V.str "step"]) h21)
    have K21 := K20.trans (Keep.of_same (Same.new (o := .lst [V.ref p18, V.ref p19, V.ref p20, V.str "step"]) h21))
    have e21 := upd_same (H := H20) (a := p21) (o := .lst [V.ref p18, V.ref p19, V.ref p20, V.str "step"])
    have e17 := (Same.new (o := .lst [V.ref p18, V.ref p19, V.ref p20, V.str "step"]) h21) _ _ e17
    generalize upd H20 p21 (.lst [V.ref p18, V.ref p19, V.ref p20, V.str "step"]) = H21 at O22n R21 K21 e17 e21 ⊢
    clear h21
    have O23 := O22n
    refine ⟨p17, p21, _, _, rfl, rfl, e17, e21, (by show 13 + 4 ≤ sizeLine; decide), fun p22 h22 => ?_⟩
    have O23n := O23.new (o := .lst [V.non, V.ref p1, V.ref p2, V.ref p3, V.ref p4, V.ref p5, V.ref p7, V.ref p8, V.ref p9, V.ref p10, V.ref p13, V.ref p14, V.ref p15, V.ref p18, V.ref p19, V.ref p20, V.str "step"]) h22
    have R22 := R21.same (Same.new (o := .lst [V.non, V.ref p1, V.ref p2, V.ref p3, V.ref p4, V.ref p5, V.ref p7, V.ref p8, V.ref p9, V.ref p10, V.ref p13, V.ref p14, V.ref p15, V.ref p18, V.ref p19, V.ref p20, V.str "step"]) h22)
    have K22 := K21.trans (Keep.of_same (Same.new (o := .lst [V.non, V.ref p1, V.ref p2, V.ref p3, V.ref p4, V.ref p5, V.ref p7, V.ref p8, V.ref p9, V.ref p10, V.ref p13, V.ref p14, V.ref p15, V.ref p18, V.ref p19, V.ref p20, V.str "step"]) h22))
    have e22 := upd_same (H := H21) (a := p22) (o := .lst [V.non, V.ref p1, V.ref p2, V.ref p3, V.ref p4, V.ref p5, V.ref p7, V.ref p8, V.ref p9, V.ref p10, V.ref p13, V.ref p14, V.ref p15, V.ref p18, V.ref p19, V.ref p20, V.str "step"])
    show gName 2 (.ref p22) _ (upd H21 p22 (.lst [V.non, V.ref p1, V.ref p2, V.ref p3, V.ref p4, V.ref p5, V.ref p7, V.ref p8, V.ref p9, V.ref p10, V.ref p13, V.ref p14, V.ref p15, V.ref p18, V.ref p19, V.ref p20, V.str "step"])) _
    generalize upd H21 p22 (.lst [V.non, V.ref p1, V.ref p2, V.ref p3, V.ref p4, V.ref p5, V.ref p7, V.ref p8, V.ref p9, V.ref p10, V.ref p13, V.ref p14, V.ref p15, V.ref p18, V.ref p19, V.ref p20, V.str "step"]) = H22 at O23n R22 K22 e22 ⊢
    clear h22 e17 e21
    have O24 := O23n
    walk_at "go"
    refine ⟨p22, _, rfl, .inl (SqL.of e22), ?_⟩
    walk_at "go"
    refine ⟨a, 17, rfl, by decide, by decide, R22, fun x H' x0 x17 R' k' => ?_⟩
    obtain ⟨v, ev, hv⟩ := at_in (xs := [V.non, .ref p1, .ref p2, .ref p3, .ref p4, .ref p5, .ref p7, .ref p8, .ref p9, .ref p10, .ref p13, .ref p14, .ref p15, .ref p18, .ref p19, .ref p20, .str "step"]) x0 (by show x < 17; exact x17)
    have n22 : p22 ≠ a := fun z => by
      obtain ⟨l, e⟩ := R22.lst
      rw [z, e] at e22
      obtain ⟨sc, ns, i, z', r, ea, _⟩ := R22
      rw [ea] at e
      cases e
      cases e22
    refine k_ixL (SqL.of (k' _ _ n22 e22)) ev ?_
    walk_at "go"
    exact k v H' R' (K22.trans k') fun H2 z2 => O24.2 v hv H2 (k'.trans z2)
end
/-! ### the law -/
def EndL (K : PySem.W.Frag) (H : Hp) (a : Addr) (n : Int) (vs : List V) : Prop := (∃ l, H a = some (.lst l)) ∧ ∀ v ∈ vs, ∀ H', Keep a H H' → BadEnd K H' n v
theorem EndL.new {K : PySem.W.Frag} {H : Hp} {a : Addr} {n : Int} {vs : List V} (h : EndL K H a n vs) {p : Addr} {o : HO} (hp : H p = none) : EndL K (upd H p o) a n vs := by
  obtain ⟨⟨l, e⟩, h2⟩ := h
  exact ⟨⟨l, by rw [upd_ne (ne_of_none e hp)]; exact e⟩, fun v hv H2 z2 => h2 v hv H2 ((Keep.of_same (Same.new hp)).trans z2)⟩
theorem EndL.tup {K : PySem.W.Frag} {H : Hp} {a : Addr} {n : Int} {vs : List V} (h : EndL K H a n vs) {p : Addr} {xs : List V} (hp : H p = none) (c : (∀ x ∈ xs, ∀ H', Num K H' x)) (e' : ascV n 0 xs = false) : EndL K (upd H p (.tup xs)) a n (vs ++ [.ref p]) := by
  have h' := h.new (o := .tup xs) hp
  obtain ⟨⟨l, e⟩, _⟩ := h
  refine ⟨h'.1, fun v hv H2 z2 => ?_⟩
  rcases List.mem_append.mp hv with hv | hv
  · exact h'.2 v hv H2 z2
  · rw [List.mem_singleton.mp hv]
    have e2 : H2 p = some (.tup xs) := z2 _ _ (ne_of_none e hp).symm upd_same
    exact .inr ⟨p, xs, rfl, SqT.of e2, fun x hx => c x hx _, e'⟩
theorem EndL.lst {K : PySem.W.Frag} {H : Hp} {a : Addr} {n : Int} {vs : List V} (h : EndL K H a n vs) {p : Addr} {xs : List V} (hp : H p = none) : EndL K (upd H p (.lst xs)) a n (vs ++ [.ref p]) := by
  have h' := h.new (o := .lst xs) hp
  obtain ⟨⟨l, e⟩, _⟩ := h
  refine ⟨h'.1, fun v hv H2 z2 => ?_⟩
  rcases List.mem_append.mp hv with hv | hv
  · exact h'.2 v hv H2 z2
  · rw [List.mem_singleton.mp hv]
    have e2 : H2 p = some (.lst xs) := z2 _ _ (ne_of_none e hp).symm upd_same
    exact .inl (nt_of (.base (.lst e2)))
theorem EndL.non {K : PySem.W.Frag} {H : Hp} {a : Addr} {n : Int} {vs : List V} (h : EndL K H a n vs) : EndL K H a n (vs ++ [.non]) := ⟨h.1, fun v hv H2 z2 => by
  rcases List.mem_append.mp hv with hv | hv
  · exact h.2 v hv H2 z2
  · rw [List.mem_singleton.mp hv]; exact .inl (nt_of (.base .non))⟩
theorem EndL.int {K : PySem.W.Frag} {H : Hp} {a : Addr} {n : Int} {vs : List V} (h : EndL K H a n vs) {i : Int} : EndL K H a n (vs ++ [.int i]) := ⟨h.1, fun v hv H2 z2 => by
  rcases List.mem_append.mp hv with hv | hv
  · exact h.2 v hv H2 z2
  · rw [List.mem_singleton.mp hv]; exact .inl (nt_of (.base (.int _)))⟩
theorem st_sh (i : Nat) : SeqAt.shaped (.list [.str "steps", .int (i : Nat)]) = true := by
  have h1 : (PyData.list [.str "steps", .int (i : Nat)]).canLay0 = true := by
    show (PyData.canLay0 (.str "steps") && (true && true)) = true
    decide +kernel
  have h2 : (PyData.list [.str "steps", .int (i : Nat)]).depth ≤ 64 := by simp [PyData.depth, PyData.depthAll]
  exact Bool.and_eq_true_iff.mpr ⟨h1, decide_eq_true h2⟩
theorem ins_at {us : List V} {v : V} {at_ : Nat} (h : at_ ≤ us.length) : (us.take at_ ++ [v] ++ us.drop at_)[at_]? = some v := by
  have l : (us.take at_).length = at_ := by rw [List.length_take, Nat.min_eq_left h]
  rw [List.append_assoc, List.getElem?_append_right (by omega), l, Nat.sub_self]
  rfl
theorem ins_pre {K : PySem.W.Frag} {H : Hp} {us : List V} {ss : List Stp} {v : V} {at_ : Nat} (hs : StpsAt K H us ss) (h : at_ ≤ us.length) (i : Nat) (s : Stp) (e : (ss.take at_)[i]? = some s) : ∃ q, (us.take at_ ++ [v] ++ us.drop at_)[i]? = some (V.ref q) ∧ SqT K H q (stpV s) := by
  have l : (us.take at_).length = at_ := by rw [List.length_take, Nat.min_eq_left h]
  have il : i < at_ := by
    have := (List.getElem?_eq_some_iff.mp e).1
    rw [List.length_take] at this
    omega
  rw [List.getElem?_take_of_lt il] at e
  obtain ⟨q, e1, q1⟩ := hs.2 i s e
  refine ⟨q, ?_, q1⟩
  rw [List.append_assoc, List.getElem?_append_left (by omega), List.getElem?_take_of_lt il]
  exact e1
theorem bad_at {K : PySem.W.Frag} {H : Hp} {m : MD} {us : List V} {r : Addr} {v : V} {at_ : Nat} (o : m.Ok) (hs : StpsAt K H us m.ss) (h : at_ ≤ us.length) (hr : SqT K H r (us.take at_ ++ [v] ++ us.drop at_)) (hv : ∀ H', Same H H' → NotStep K H' (m.n : Nat) v) : BadStp K H m.n (.ref r) (.int (at_ : Nat)) := by
  have l : (m.ss.take at_).length = at_ := by rw [List.length_take, Nat.min_eq_left (by rw [← hs.1]; exact h)]
  have l32 := o.len
  have l33 := hs.1
  refine .inr ⟨r, _, m.ss.take at_, v, rfl, hr, by rw [l], ?_, by rw [l]; exact ins_at h, ins_pre hs h, fun s hs => o.ok s (List.mem_of_mem_take hs), o.up.sublist (List.take_sublist _ _), .inl hv⟩
  rw [List.length_append, List.length_append, List.length_take, List.length_drop, List.length_singleton]
  omega
theorem Stp.lt_irrefl {s t : Stp} (h : s.lt t) (h' : t.lt s) : False := by
  rcases h with h | ⟨h1, h2⟩ <;> rcases h' with h' | ⟨h3, h4⟩ <;> omega
theorem bad_again {K : PySem.W.Frag} {H : Hp} {m : MD} {us : List V} {r q : Addr} {s : Stp} {at_ j : Nat} (o : m.Ok) (hs : StpsAt K H us m.ss) (h : at_ ≤ us.length) (hj : j < at_) (es : m.ss[j]? = some s) (hq : SqT K H q (stpV s)) (hr : SqT K H r (us.take at_ ++ [.ref q] ++ us.drop at_)) : BadStp K H m.n (.ref r) (.int (at_ : Nat)) := by
  have l : (m.ss.take at_).length = at_ := by rw [List.length_take, Nat.min_eq_left (by rw [← hs.1]; exact h)]
  have l32 := o.len
  have l33 := hs.1
  have kl : at_ - 1 < m.ss.length := by omega
  refine .inr ⟨r, _, m.ss.take at_, .ref q, rfl, hr, by rw [l], ?_, by rw [l]; exact ins_at h, ins_pre hs h, fun s hs => o.ok s (List.mem_of_mem_take hs), o.up.sublist (List.take_sublist _ _), .inr ⟨q, s, m.ss[at_ - 1]'kl, rfl, hq, o.ok s (List.mem_of_getElem? es), ?_, fun lt => ?_⟩⟩
  · rw [List.length_append, List.length_append, List.length_take, List.length_drop, List.length_singleton]
    omega
  · rw [List.getLast?_eq_getElem?, l, List.getElem?_take_of_lt (by omega), List.getElem?_eq_getElem kl]
  · have jl : j < m.ss.length := by omega
    rw [List.getElem?_eq_getElem jl] at es
    cases es
    rcases Nat.lt_or_ge j (at_ - 1) with c | c
    · exact Stp.lt_irrefl (List.pairwise_iff_getElem.mp o.up j (at_ - 1) jl kl c) lt
    · have : j = at_ - 1 := by omega
      subst this
      exact Stp.lt_irrefl lt lt
def sp_law (K : PySem.W.Frag) : Sp := fun vs H Q _ => ∃ (sc : Addr) (ns : List Int), vs = [.ref sc] ∧ ScAt K H sc (ns.map V.int) ∧ ns.length ≤ 63 ∧ ∀ H', Q (.bl true) H'
section
variable {P : Program} {w : World} {K : PySem.W.Frag} {mg : Str → Option Value} {base : Heap}
theorem ok_law (T : Txt K mg) : FnOk P w K mg base (L2.CX P w) 11 T.a_law T.fd_law ["_law_script"] (sp_law K) := by
  refine T.F_law.okX sc_law (fun vs H Q E h => ?_) (fun cdv A outer s H vs Q E hr h => ?_)
  · obtain ⟨sc, ns, rfl, _⟩ := h
    rfl
  · obtain ⟨sc, ns, rfl, hsc, hns, k⟩ := h
    refine ⟨_, (PSs.nox (pss_cons (ps_set (i := 1) sc_law.nd rfl (Or.inl rfl) (pe_lst (pa_cons (pv 0) (pa_cons pe_int (pa_cons pe_int (pa_cons pe_int pa_nil))))))
  (pss_cons (ps_for PassesOwn.never rfl (pi_range1 (by rfl) T.z_range (pa_cons pe_int pa_nil)) (pg_name (i := 2) sc_law.nd rfl (Or.inl rfl))
  (pss_cons (ps_set (i := 3) sc_law.nd rfl (Or.inl rfl) (pe_call (ok_law_parts T) (hr.mono (by decide)) (by rfl) T.m_law_parts T.k_law_parts T.b_law_parts .nil passL (pa_cons (pv 1) (pa_cons pe_int (pa_cons (pe_ix ix_list (pe_lst (pa_cons pe_int (pa_cons (pe_op op_mulW pe_int (pe_op op_pow pe_int pe_int)) pa_nil))) (pe_call (ok_law_taken T) (hr.mono (by decide)) (by rfl) T.m_law_taken T.k_law_taken T.b_law_taken .nil passL (pa_cons (pv 1) (pa_cons pe_int pa_nil))) (fun _ _ => rfl)) pa_nil)))))
  (pss_cons (ps_par3 (i := 4) (j := 5) (l := 6) (by rfl) sc_law.nd rfl rfl rfl (by decide) (by decide) (by decide) rfl rfl rfl (pa_cons (pe_dget (hu_of hr) (pv 3) pe_str (fun _ _ => rfl)) (pa_cons (pe_dget (hu_of hr) (pv 3) pe_str (fun _ _ => rfl)) (pa_cons (pe_dget (hu_of hr) (pv 3) pe_str (fun _ _ => rfl)) pa_nil))) (by rfl))
  (pss_cons (ps_set (i := 7) sc_law.nd rfl (Or.inl rfl) (pe_call (ok_law_machine T) (hr.mono (by decide)) (by rfl) T.m_law_machine T.k_law_machine T.b_law_machine .nil passL (pa_cons (pv 3) pa_nil)))
  (pss_cons (ps_if (PW.pt (pw_or (pt_cmpR op_ne (pe_prop (pv 7) T.cl_Machine T.p_stands (ok_Machine_stands T) (hr.mono (by decide)) T.b_Machine_stands .nil passL rfl) (pv 4) (nomark _)) (pw_or (pt_cmpR (op_neD hr.units) (pe_prop (pv 7) T.cl_Machine T.p_steps (ok_Machine_steps T) (hr.mono (by decide)) T.b_Machine_steps .nil passL rfl) (pv 5) (nomark _)) (pw_or1 (pt_cmpR (op_neD hr.units) (pe_prop (pv 7) T.cl_Machine T.p_ends (ok_Machine_ends T) (hr.mono (by decide)) T.b_Machine_ends .nil passL rfl) (pv 6) (nomark _))))))
  (pss_one (ps_ret pe_bl))
  pss_nil)
  (pss_cons (ps_if (pt_cmpR (op_eqO (ok_Machine_eq T) (hr.mono (by decide)) T.j3_Machine T.j4_Machine T.b_Machine_eq) (pv 7) (pe_tup (pa_cons (pv 4) (pa_cons (pv 5) (pa_cons (pv 6) pa_nil)))) (nomark _))
  (pss_one (ps_ret pe_bl))
  pss_nil)
  (C8.pss_cut (ps_if (PW.pt (pw_or (pt_not (pt_cmpR (op_eqO (ok_Machine_eq T) (hr.mono (by decide)) T.j3_Machine T.j4_Machine T.b_Machine_eq) (pv 7) (pe_call (ok_law_machine T) (hr.mono (by decide)) (by rfl) T.m_law_machine T.k_law_machine T.b_law_machine .nil passL (pa_cons (pv 3) pa_nil)) (nomark _))) (pw_or1 (pt_cmpR (op_eqO (ok_Machine_eq T) (hr.mono (by decide)) T.j3_Machine T.j4_Machine T.b_Machine_eq) (pv 7) (pe_make T.mk_Machine (ok_Machine_init T) (hr.mono (by decide)) (by rfl) T.m_Machine T.b_Machine_init .nil passL (pa_cons (pv 4) (pa_cons (pv 5) (pa_cons (pe_ifExp (pt_cmpR (op_neD hr.units) (pv 6) (pe_tup pa_nil) (nomark _)) (pe_tup pa_nil) (pe_tup (pa_cons pe_int pa_nil))) pa_nil)))) (nomark _)))))
  (pss_one (ps_ret pe_bl))
  pss_nil)
  (C8.pss_cut (ps_if (PW.pt (pw_and (pt_cmpR op_lt (pv 4) pe_int (nomark _)) (pw_and1 (pt_cmpR (op_eqO (ok_Machine_eq T) (hr.mono (by decide)) T.j3_Machine T.j4_Machine T.b_Machine_eq) (pv 7) (pe_make T.mk_Machine (ok_Machine_init T) (hr.mono (by decide)) (by rfl) T.m_Machine T.b_Machine_init .nil passL (pa_cons (pe_op op_add (pv 4) pe_int) (pa_cons (pv 5) (pa_cons (pv 6) pa_nil)))) (nomark _)))))
  (pss_one (ps_ret pe_bl))
  pss_nil)
  (C8.pss_cut (ps_if (PW.pt (pw_and (pt_cmpR (op_neD hr.units) (pv 5) (pe_tup pa_nil) (nomark _)) (pw_and1 (pt_cmpR (op_eqO (ok_Machine_eq T) (hr.mono (by decide)) T.j3_Machine T.j4_Machine T.b_Machine_eq) (pv 7) (pe_make T.mk_Machine (ok_Machine_init T) (hr.mono (by decide)) (by rfl) T.m_Machine T.b_Machine_init .nil passL (pa_cons (pv 4) (pa_cons (pe_slice sl_tupA (pv 5) (po_some pe_int) po_none) (pa_cons (pv 6) pa_nil)))) (nomark _)))))
  (pss_one (ps_ret pe_bl))
  pss_nil)
  (pss_cons (ps_set (i := 8) sc_law.nd rfl (Or.inl rfl) (pe_ix ix_list (pe_lst (pa_cons pe_non (pa_cons pe_int (pa_cons pe_int (pa_cons pe_bl (pa_cons pe_str pa_nil)))))) (pe_call (ok_law_taken T) (hr.mono (by decide)) (by rfl) T.m_law_taken T.k_law_taken T.b_law_taken .nil passL (pa_cons (pv 1) (pa_cons pe_int pa_nil))) (fun _ _ => rfl)))
  (pss_cons (ps_set (i := 9) sc_law.nd rfl (Or.inl rfl) (pe_ix ix_list (pe_lst (pa_cons pe_non (pa_cons (pe_callTy call_list_of (by rfl) T.z_list PySem.Pv.boot_list (pa_cons (pv 5) pa_nil)) (pa_cons pe_int (pa_cons pe_str (pa_cons pe_dnewK pa_nil)))))) (pe_call (ok_law_taken T) (hr.mono (by decide)) (by rfl) T.m_law_taken T.k_law_taken T.b_law_taken .nil passL (pa_cons (pv 1) (pa_cons pe_int pa_nil))) (fun _ _ => rfl)))
  (pss_cons (ps_set (i := 10) sc_law.nd rfl (Or.inl rfl) (pe_ix ix_list (pe_lst (pa_cons pe_non (pa_cons (pe_callTy call_list_of (by rfl) T.z_list PySem.Pv.boot_list (pa_cons (pv 6) pa_nil)) (pa_cons (pe_tup (pa_cons (pv 4) pa_nil)) (pa_cons (pe_tup (pa_cons (pe_un un_neg pe_int) pa_nil)) (pa_cons (pe_tup (pa_cons pe_int (pa_cons pe_int pa_nil))) (pa_cons (pe_tup (pa_cons pe_bl pa_nil)) (pa_cons (pe_tup (pa_cons pe_str pa_nil)) (pa_cons pe_int pa_nil))))))))) (pe_call (ok_law_taken T) (hr.mono (by decide)) (by rfl) T.m_law_taken T.k_law_taken T.b_law_taken .nil passL (pa_cons (pv 1) (pa_cons pe_int pa_nil))) (fun _ _ => rfl)))
  (pss_cons (ps_if (PW.pt (pw_or (pt_cmpR op_ne (pe_call (ok_law_refused T) (hr.mono (by decide)) (by rfl) T.m_law_refused T.k_law_refused T.b_law_refused .nil passL (pa_cons (pv 8) (pa_cons (pv 9) (pa_cons (pv 10) pa_nil)))) pe_str (nomark _)) (pw_or1 (pt_cmpR (op_neD hr.units) (pe_call (ok_law_refused T) (hr.mono (by decide)) (by rfl) T.m_law_refused T.k_law_refused T.b_law_refused .nil passL (pa_cons (pv 4) (pa_cons (pv 9) (pa_cons (pv 10) pa_nil)))) (pe_lst (pa_cons pe_str (pa_cons pe_non pa_nil))) (nomark _)))))
  (pss_one (ps_ret pe_bl))
  pss_nil)
  (pss_cons (ps_set (i := 11) sc_law.nd rfl (Or.inl rfl) (pe_call (ok_law_taken T) (hr.mono (by decide)) (by rfl) T.m_law_taken T.k_law_taken T.b_law_taken .nil passL (pa_cons (pv 1) (pa_cons (pe_op op_add (pe_callB call_len_seq (by rfl) T.z_len PySem.boot_len (pa_cons (pv 5) pa_nil)) pe_int) pa_nil))))
  (pss_cons (ps_if (pt_cmpR (op_neD hr.units) (pe_call (ok_law_refused T) (hr.mono (by decide)) (by rfl) T.m_law_refused T.k_law_refused T.b_law_refused .nil passL (pa_cons (pv 4) (pa_cons (pe_op op_catA (pe_op op_catA (pe_slice sl_tupA (pv 5) po_none (po_some (pv 11))) (pe_tup (pa_cons (pe_call (ok_law_spoilt T) (hr.mono (by decide)) (by rfl) T.m_law_spoilt T.k_law_spoilt T.b_law_spoilt .nil passL (pa_cons (pv 1) (pa_cons (pv 4) pa_nil))) pa_nil))) (pe_slice sl_tupA (pv 5) (po_some (pv 11)) po_none)) (pa_cons (pv 10) pa_nil)))) (pe_lst (pa_cons pe_str (pa_cons (pv 11) pa_nil))) (nomark _))
  (pss_one (ps_ret pe_bl))
  pss_nil)
  (C8.pss_cut (ps_if (pt_cmpR (op_neD hr.units) (pv 5) (pe_tup pa_nil) (nomark _))
  (pss_cons (ps_set (i := 11) sc_law.nd rfl (Or.inl rfl) (pe_op op_add pe_int (pe_call (ok_law_taken T) (hr.mono (by decide)) (by rfl) T.m_law_taken T.k_law_taken T.b_law_taken .nil passL (pa_cons (pv 1) (pa_cons (pe_callB call_len_seq (by rfl) T.z_len PySem.boot_len (pa_cons (pv 5) pa_nil)) pa_nil)))))
  (pss_cons (ps_set (i := 12) sc_law.nd rfl (Or.inl rfl) (pe_ix ix_tup (pv 5) (pe_call (ok_law_taken T) (hr.mono (by decide)) (by rfl) T.m_law_taken T.k_law_taken T.b_law_taken .nil passL (pa_cons (pv 1) (pa_cons (pv 11) pa_nil))) (fun _ _ => rfl)))
  (pss_one (ps_if (pt_cmpR (op_neD hr.units) (pe_call (ok_law_refused T) (hr.mono (by decide)) (by rfl) T.m_law_refused T.k_law_refused T.b_law_refused .nil passL (pa_cons (pv 4) (pa_cons (pe_op op_catA (pe_op op_catA (pe_slice sl_tupA (pv 5) po_none (po_some (pv 11))) (pe_tup (pa_cons (pv 12) pa_nil))) (pe_slice sl_tupA (pv 5) (po_some (pv 11)) po_none)) (pa_cons (pv 10) pa_nil)))) (pe_lst (pa_cons pe_str (pa_cons (pv 11) pa_nil))) (nomark _))
  (pss_one (ps_ret pe_bl))
  pss_nil))))
  pss_nil)
  (pss_one (ps_if (pt_cmpR op_ne (pe_call (ok_law_refused T) (hr.mono (by decide)) (by rfl) T.m_law_refused T.k_law_refused T.b_law_refused .nil passL (pa_cons (pv 4) (pa_cons (pv 5) (pa_cons (pv 10) pa_nil)))) pe_str (nomark _))
  (pss_one (ps_ret pe_bl))
  pss_nil))))))))))))))))))
  (pss_one (ps_ret pe_bl))))), ?_⟩
    walk_at "begin"
    walk_at "go"
    refine ⟨(by decide : 4 ≤ sizeLine), fun a ha => ?_⟩
    have R1 : RowOk K (upd H a (.lst [.ref sc, .int 0, .int 201, .int 0])) a := ⟨sc, ns, 0, 201, 0, upd_same, hsc.same (Same.new ha), hns, by decide, by decide, by decide⟩
    generalize upd H a (.lst [.ref sc, .int 0, .int 201, .int 0]) = H1 at R1 ⊢
    walk_at "go"
    refine k_rg (by decide) (by decide) ?_
    refine for_range (lo := 0) (n := 4) (fun i σ H' => ∃ b2 b3 b4 b5 b6 b7 b8 b9 b10 b11 b12, RowOk K H' a ∧ σ = [some (.ref sc), some (.ref a), b2, b3, b4, b5, b6, b7, b8, b9, b10, b11, b12]) ⟨_, _, _, _, _, _, _, _, _, _, _, R1, rfl⟩ ?_ ?_
    · rintro i σ H2 hi ⟨b2, b3, b4, b5, b6, b7, b8, b9, b10, b11, b12, R2, rfl⟩
      walk_at "go"
      refine k_I (by exact ⟨by decide, by decide, by decide⟩) ?_
      walk_at "go"
      refine k_I (wide_mul (a := 3) (b := 97) (by decide) (by decide +kernel) (by decide) (by decide) (by decide)) ?_
      walk_at "go"
      refine ⟨(by show 2 ≤ sizeLine; decide), fun p1 h1 => ?_⟩
      have n1 := R2.ne h1
      have e1 := upd_same (H := H2) (a := p1) (o := .lst [.int 3, .int (4 * 10 ^ Int.toNat 29)])
      have R3 := R2.same (Same.new (o := .lst [.int 3, .int (4 * 10 ^ Int.toNat 29)]) h1)
      generalize upd H2 p1 (.lst [.int 3, .int (4 * 10 ^ Int.toNat 29)]) = H3 at e1 R3 ⊢
      walk_at "go"
      refine ⟨a, 2, rfl, by decide, by decide, R3, fun x H4 x0 x2 R4 k4 => ?_⟩
      have hz : ∃ sz : Int, atI [V.int 3, .int (4 * 10 ^ Int.toNat 29)] x = some (.int sz) ∧ 0 ≤ sz ∧ 2 * sz + 1 ≤ 10 ^ 30 := by
        have h : x = 0 ∨ x = 1 := by omega
        rcases h with rfl | rfl
        · exact ⟨3, rfl, by decide, by decide⟩
        · exact ⟨_, rfl, by decide +kernel, by decide +kernel⟩
      obtain ⟨sz, es, sz0, szm⟩ := hz
      refine k_ixL (SqL.of (k4 _ _ n1.symm e1)) es ?_
      walk_at "go"
      refine ⟨a, 8, sz, rfl, by decide, by decide, sz0, szm, R4, fun d m H5 o _ _ hd R5 _ _ => ?_⟩
      clear R3 R4 k4 e1 n1 h1 R2 es szm sz0 x0 x2
      obtain ⟨t, u, ed, ⟨us, ht, hs⟩, hu⟩ := id hd
      walk_at "go"
      refine ⟨d, .int (m.n : Nat), rfl, DGet.k (k := .inr "stands") ed, ?_⟩
      walk_at "go"
      refine ⟨d, .ref t, rfl, DGet.k (k := .inr "steps") ed, ?_⟩
      walk_at "go"
      refine ⟨d, .ref u, rfl, DGet.k (k := .inr "ends") ed, ?_⟩
      walk_at "go"
      refine ⟨d, m, rfl, hd, o, fun mc H6 z6 hmc hm => ?_⟩
      have R6 := R5.same z6
      have hd6 := hd.same z6
      have hp6 : StAt K H6 t m.ss := ⟨us, (same_tups z6).sq ht, (same_tups z6).steps hs⟩
      have hu6 := (same_tups z6).sq hu
      clear R5 hd ed ht hs hu z6 hmc
      walk_at "go"
      have c100 : ∀ s ∈ m.ss, s.c ≤ 100 := fun s hs => (o.ok s hs).c'
      obtain ⟨dm, tm, um, em, ⟨usm, htm, hsm⟩, hum⟩ := id hm
      obtain ⟨us6, ht6, hs6⟩ := id hp6
      refine ⟨mc, dm, _, rfl, em, mc, dm, _, .int (m.n : Nat), rfl, em, rfl, ?_⟩
      walk_at "go"
      rw [decide_eq_true (show V.int (m.n : Nat) = V.int (m.n : Nat) from rfl)]
      refine iteF ?_
      walk_at "go"
      refine ⟨mc, dm, _, rfl, em, mc, dm, _, .ref tm, rfl, em, rfl, ?_⟩
      walk_at "go"
      refine k_neD (dp_ss htm hsm) (dp_ss ht6 hs6) (ss_sh c100) (ss_sh c100) ?_
      rw [sh_refl (ss_sh c100)]
      walk_at "go"
      refine iteF ?_
      walk_at "go"
      refine ⟨mc, dm, _, rfl, em, mc, dm, _, .ref um, rfl, em, rfl, ?_⟩
      walk_at "go"
      refine k_neD (dp_es hum) (dp_es hu6) (es_sh _) (es_sh _) ?_
      rw [sh_refl (es_sh _)]
      walk_at "go"
      refine iteF ?_
      walk_at "go"
      refine ⟨(by show 3 ≤ sizeLine; decide), fun p hp => ?_⟩
      have z7 := Same.new (o := .tup [V.int (m.n : Nat), .ref t, .ref u]) hp
      have g7 : GS K T.c_Machine (upd H6 p (.tup [V.int (m.n : Nat), .ref t, .ref u])) a d t u mc m := GS.same ⟨R6, hd6, hp6, hu6, hm⟩ z7
      refine ⟨mc, dm, _, .type "tuple", rfl, z7 _ _ em, .base (.tup upd_same), first_ty, mc, m, _, rfl, g7.mc, o, .inl ⟨_, .base (.tup upd_same), kit_not T (by decide +kernel), ⟨_, rfl⟩, ?_⟩⟩
      generalize upd H6 p (.tup [V.int (m.n : Nat), .ref t, .ref u]) = H7 at g7 ⊢
      clear z7 hp htm hsm hum ht6 hs6 em R6 hd6 hp6 hu6 hm
      walk_at "go"
      refine iteF ?_
      refine k_cut (fun σ' H' => GS K T.c_Machine H' a d t u mc m ∧ ∃ b8 b9 b10 b11 b12, σ' = [some (.ref sc), some (.ref a), some (.int (0 + (i : Nat))), some (.ref d), some (.int (m.n : Nat)), some (.ref t), some (.ref u), some (.ref mc), b8, b9, b10, b11, b12]) ?_ ?_
      · walk_at "go"
        refine ⟨d, m, rfl, g7.d, o, fun x H8 z8 hx8 hx => ?_⟩
        have g8 := g7.same z8
        walk_at "go"
        refine eqO_fin T g8.mc o hx o ?_
        rw [eqM_self o]
        walk_at "go"
        refine iteF ?_
        walk_at "go"
        refine ⟨(by decide : 0 ≤ sizeLine), fun p hp => ?_⟩
        have z9 := Same.new (o := .tup []) hp
        have e9 := upd_same (H := H8) (a := p) (o := .tup [])
        have g9 := g8.same z9
        generalize upd H8 p (.tup []) = H9 at z9 e9 g9 ⊢
        refine k_neD (dp_es g9.en) (.tup (SqT.of e9) .nil) (es_sh _) (by decide +kernel) ?_
        cases hes : m.es with
        | nil =>
          rw [show PyData.eqv (esD []) (PyData.tuple []) = true from rfl]
          refine ⟨_, rfl, iteF ?_⟩
          walk_at "go"
          refine ⟨(by show 1 ≤ sizeLine; decide), fun q hq => ?_⟩
          have zq := Same.new (o := .tup [V.int 0]) hq
          have eq := upd_same (H := H9) (a := q) (o := .tup [V.int 0])
          have g10 := g9.same zq
          generalize upd H9 q (.tup [V.int 0]) = H10 at eq g10 ⊢
          walk_at "go"
          intro y dy hy hdy ney
          have o' : (MD.mk m.n m.ss [0]).Ok := ⟨o.n1, o.n8, o.ok, o.up, o.len, (fun e h => by rw [List.mem_singleton.mp h]; exact o.n1), List.pairwise_singleton _ _, (by show 1 ≤ 8; decide)⟩
          refine make_fin (m := MD.mk m.n m.ss [0]) hy hdy ney ⟨g10.st, SqT.of eq⟩ o' fun H11 z11 hm11 => ?_
          have g11 := g10.same z11
          refine eqO_fin T g11.mc o hm11 o' ?_
          rw [eqM_e (.inl ⟨hes, rfl⟩)]
          walk_at "go"
          refine iteF ?_
          exact ⟨g11, _, _, _, _, _, rfl⟩
        | cons e0 er =>
          rw [show PyData.eqv (esD (e0 :: er)) (PyData.tuple []) = false from rfl]
          refine ⟨_, rfl, iteT ?_⟩
          walk_at "go"
          refine ⟨(by decide : 0 ≤ sizeLine), fun q hq => ?_⟩
          have zq := Same.new (o := .tup []) hq
          have eq := upd_same (H := H9) (a := q) (o := .tup [])
          have g10 := g9.same zq
          generalize upd H9 q (.tup []) = H10 at eq g10 ⊢
          walk_at "go"
          intro y dy hy hdy ney
          have o' : (MD.mk m.n m.ss []).Ok := ⟨o.n1, o.n8, o.ok, o.up, o.len, (fun e h => by cases h), List.Pairwise.nil, Nat.zero_le _⟩
          refine make_fin (m := MD.mk m.n m.ss []) hy hdy ney ⟨g10.st, SqT.of eq⟩ o' fun H11 z11 hm11 => ?_
          have g11 := g10.same z11
          refine eqO_fin T g11.mc o hm11 o' ?_
          rw [eqM_e (.inr ⟨by rw [hes]; exact List.cons_ne_nil _ _, rfl⟩)]
          walk_at "go"
          refine iteF ?_
          exact ⟨g11, _, _, _, _, _, rfl⟩
      rintro σ' H8 ⟨g8, b8, b9, b10, b11, b12, rfl⟩
      refine k_cut (fun σ' H' => GS K T.c_Machine H' a d t u mc m ∧ ∃ b8 b9 b10 b11 b12, σ' = [some (.ref sc), some (.ref a), some (.int (0 + (i : Nat))), some (.ref d), some (.int (m.n : Nat)), some (.ref t), some (.ref u), some (.ref mc), b8, b9, b10, b11, b12]) ?_ ?_
      · walk_at "go"
        refine k_ite (fun c8 => ?_) (fun c8 => ?_)
        · walk_at "go"
          intro x dx hx hdx ne
          have o' : (MD.mk (m.n + 1) m.ss m.es).Ok := ⟨by show 1 ≤ m.n + 1; omega, by show m.n + 1 ≤ 8; omega, (fun s hs => let q := o.ok s hs; ⟨Nat.lt_succ_of_lt q.b, q.c, q.c', Nat.lt_succ_of_lt q.e, q.g, q.g'⟩), o.up, o.len, (fun e h => Nat.lt_succ_of_lt (o.eb e h)), o.eu, o.el⟩
          refine make_fin (m := MD.mk (m.n + 1) m.ss m.es) hx hdx ne ⟨g8.st, g8.en⟩ o' fun H11 z11 hm11 => ?_
          have g11 := g8.same z11
          refine eqO_fin T g11.mc o hm11 o' ?_
          rw [eqM_n (show m.n ≠ m.n + 1 by omega)]
          walk_at "go"
          refine iteF ?_
          exact ⟨g11, _, _, _, _, _, rfl⟩
        · refine iteF ?_
          exact ⟨g8, _, _, _, _, _, rfl⟩
      clear g8 H8
      rintro σ' H8 ⟨g8, b8, b9, b10, b11, b12, rfl⟩
      refine k_cut (fun σ' H' => GS K T.c_Machine H' a d t u mc m ∧ ∃ b8 b9 b10 b11 b12, σ' = [some (.ref sc), some (.ref a), some (.int (0 + (i : Nat))), some (.ref d), some (.int (m.n : Nat)), some (.ref t), some (.ref u), some (.ref mc), b8, b9, b10, b11, b12]) ?_ ?_
      · walk_at "go"
        refine ⟨(by decide : 0 ≤ sizeLine), fun p hp => ?_⟩
        have z9 := Same.new (o := .tup []) hp
        have e9 := upd_same (H := H8) (a := p) (o := .tup [])
        have g9 := g8.same z9
        generalize upd H8 p (.tup []) = H9 at z9 e9 g9 ⊢
        obtain ⟨us, ht, hs⟩ := id g9.st
        refine k_neD (dp_ss ht hs) (.tup (SqT.of e9) .nil) (ss_sh c100) (by decide +kernel) ?_
        cases hss : m.ss with
        | nil =>
          rw [show PyData.eqv (ssD []) (PyData.tuple []) = true from rfl]
          refine ⟨_, rfl, iteF ?_⟩
          refine iteF ?_
          exact ⟨g9, _, _, _, _, _, rfl⟩
        | cons s0 sr =>
          rw [show PyData.eqv (ssD (s0 :: sr)) (PyData.tuple []) = false from rfl]
          refine ⟨_, rfl, iteT ?_⟩
          walk_at "go"
          refine k_slT ht fun r H10 z10 hr10 => ?_
          have g10 := g9.same z10
          rw [show cutV us (some 1) none = us.drop 1 from cutV_drop us 1] at hr10
          walk_at "go"
          intro y dy hy hdy ney
          have hs10 := (same_tups z10).steps hs
          have sr10 : StpsAt K H10 (us.drop 1) sr := by
            rw [hss] at hs10
            refine ⟨by rw [List.length_drop, hs10.1]; rfl, fun i s e => ?_⟩
            obtain ⟨q, e1, q1⟩ := hs10.2 (i + 1) s e
            exact ⟨q, by rw [List.getElem?_drop, Nat.add_comm]; exact e1, q1⟩
          have sub : ∀ s ∈ sr, s ∈ m.ss := fun s h => by rw [hss]; exact List.mem_cons_of_mem _ h
          have o' : (MD.mk m.n sr m.es).Ok := ⟨o.n1, o.n8, (fun s hs => o.ok s (sub s hs)), (by have := o.up; rw [hss] at this; exact (List.pairwise_cons.mp this).2), (by have := o.len; rw [hss] at this; exact Nat.le_of_succ_le this), o.eb, o.eu, o.el⟩
          refine make_fin (m := MD.mk m.n sr m.es) hy hdy ney ⟨⟨_, hr10, sr10⟩, g10.en⟩ o' fun H11 z11 hm11 => ?_
          have g11 := g10.same z11
          refine eqO_fin T g11.mc o hm11 o' ?_
          rw [eqM_s (show m.ss.length ≠ sr.length by rw [hss]; exact Nat.succ_ne_self _)]
          walk_at "go"
          refine iteF ?_
          exact ⟨g11, _, _, _, _, _, rfl⟩
      clear g8 H8
      rintro σ' H8 ⟨g8, b8, b9, b10, b11, b12, rfl⟩
      walk_at "go"
      refine ⟨(by show 5 ≤ sizeLine; decide), fun L1 h1 => ?_⟩
      have nL := g8.row.ne h1
      have zL := Same.new (o := .lst [V.non, .int 0, .int 9, .bl true, .str "2"]) h1
      have eL := upd_same (H := H8) (a := L1) (o := .lst [V.non, .int 0, .int 9, .bl true, .str "2"])
      have g9 := g8.same zL
      generalize upd H8 L1 (.lst [V.non, .int 0, .int 9, .bl true, .str "2"]) = H9 at eL g9 ⊢
      clear g8 zL h1
      walk_at "go"
      refine ⟨a, 5, rfl, by decide, by decide, g9.row, fun x H10 x0 x5 R10 k10 => ?_⟩
      have g10 := g9.keep R10 k10
      have done : ∃ v, atI [V.non, .int 0, .int 9, .bl true, .str "2"] x = some v ∧ ∀ H', BadNum K H' 1 8 v := by
        have h : x = 0 ∨ x = 1 ∨ x = 2 ∨ x = 3 ∨ x = 4 := by omega
        rcases h with rfl | rfl | rfl | rfl | rfl
        · exact ⟨_, rfl, fun _ => .inr (.inr ⟨_, .base .non, kit_ty (b := "int") (r := false) (by decide +kernel)⟩)⟩
        · exact ⟨_, rfl, fun _ => .inl ⟨_, rfl, by decide⟩⟩
        · exact ⟨_, rfl, fun _ => .inl ⟨_, rfl, by decide⟩⟩
        · exact ⟨_, rfl, fun _ => .inr (.inl ⟨_, rfl⟩)⟩
        · exact ⟨_, rfl, fun _ => .inr (.inr ⟨_, .base (.str _), kit_ty (b := "int") (r := false) (by decide +kernel)⟩)⟩
      obtain ⟨vb, evb, hvb⟩ := done
      refine k_ixL (SqL.of (k10 _ _ nL.symm eL)) evb ?_
      clear g9 k10 eL evb nL x0 x5
      walk_at "go"
      obtain ⟨us, ht, hs⟩ := id g10.st
      refine ⟨t, us, rfl, .inr ht, fun L2 h2 => ?_⟩
      have n2 := g10.row.ne h2
      have z2 := Same.new (o := .lst us) h2
      have e2 := upd_same (H := H10) (a := L2) (o := .lst us)
      have g11 := g10.same z2
      generalize upd H10 L2 (.lst us) = H11 at e2 g11 z2 ⊢
      clear g10 h2
      walk_at "go"
      intro L3 h3
      have n3 := g11.row.ne h3
      have e2 := Same.new (o := .dK []) h3 _ _ e2
      have e3 := upd_same (H := H11) (a := L3) (o := .dK [])
      have g12 := g11.same (Same.new (o := .dK []) h3)
      generalize upd H11 L3 (.dK []) = H12 at e2 e3 g12 ⊢
      clear g11 h3
      walk_at "go"
      refine ⟨(by show 5 ≤ sizeLine; decide), fun L4 h4 => ?_⟩
      have n4 := g12.row.ne h4
      have z4 := Same.new (o := .lst [V.non, .ref L2, .int 0, .str "steps", .ref L3]) h4
      have e4 := upd_same (H := H12) (a := L4) (o := .lst [V.non, .ref L2, .int 0, .str "steps", .ref L3])
      have e2 := z4 _ _ e2
      have e3 := z4 _ _ e3
      have g13 := g12.same z4
      generalize upd H12 L4 (.lst [V.non, .ref L2, .int 0, .str "steps", .ref L3]) = H13 at e2 e3 e4 g13 ⊢
      clear g12 z4 h4
      walk_at "go"
      refine ⟨a, 5, rfl, by decide, by decide, g13.row, fun x H14 x0 x5 R14 k14 => ?_⟩
      have g14 := g13.keep R14 k14
      have e2 := k14 _ _ n2.symm e2
      have e3 := k14 _ _ n3.symm e3
      have done : ∃ v, atI [V.non, .ref L2, .int 0, .str "steps", .ref L3] x = some v ∧ ∀ H', Keep a H14 H' → NotTup K H' v := by
        have h : x = 0 ∨ x = 1 ∨ x = 2 ∨ x = 3 ∨ x = 4 := by omega
        rcases h with rfl | rfl | rfl | rfl | rfl
        · exact ⟨_, rfl, fun _ _ => nt_of (.base .non)⟩
        · exact ⟨_, rfl, fun _ z => nt_of (.base (.lst (z _ _ n2.symm e2)))⟩
        · exact ⟨_, rfl, fun _ _ => nt_of (.base (.int _))⟩
        · exact ⟨_, rfl, fun _ _ => nt_of (.base (.str _))⟩
        · exact ⟨_, rfl, fun _ z => nt_of (.base (.dK (z _ _ n3.symm e3)))⟩
      obtain ⟨vn, evn, hvn⟩ := done
      refine k_ixL (SqL.of (k14 _ _ n4.symm e4)) evn ?_
      clear g13 k14 e4 evn n4 x0 x5 e2 e3 n2 n3 z2
      walk_at "go"
      have E0 : EndL K H14 a (m.n : Nat) [] := ⟨g14.row.lst, fun v h => by cases h⟩
      have E1 := E0.non
      have K14 : Keep a H14 H14 := Keep.refl _ _
      refine ⟨u, _, rfl, .inr g14.en, fun q1 h1 => ?_⟩
      have E2 := E1.lst (xs := nats m.es) h1
      have g15 := g14.same (Same.new (o := .lst (nats m.es)) h1)
      have K15 := K14.trans (Keep.of_same (Same.new (o := .lst (nats m.es)) h1))
      generalize upd H14 q1 (.lst (nats m.es)) = H15 at E2 g15 K15 ⊢
      clear h1 E1 E0
      walk_at "go"
      refine ⟨(by show 1 ≤ sizeLine; decide), fun q2 h1 => ?_⟩
      have E3 := E2.tup (xs := [V.int (m.n : Nat)]) h1 (fun x hx H' => by simp only [List.mem_cons, List.not_mem_nil, or_false, or_self] at hx; rw [hx]; exact num_sc rfl) (by show (decide ((0 : Int) ≤ (m.n : Nat) ∧ ((m.n : Nat) : Int) ≤ (m.n : Nat) - 1) && true) = false; rw [decide_eq_false (by omega)]; rfl)
      have g16 := g15.same (Same.new (o := .tup [V.int (m.n : Nat)]) h1)
      have K16 := K15.trans (Keep.of_same (Same.new (o := .tup [V.int (m.n : Nat)]) h1))
      generalize upd H15 q2 (.tup [V.int (m.n : Nat)]) = H16 at E3 g16 K16 ⊢
      clear h1 E2
      walk_at "go"
      refine ⟨(by show 1 ≤ sizeLine; decide), fun q3 h1 => ?_⟩
      have E4 := E3.tup (xs := [V.int (-1)]) h1 (fun x hx H' => by simp only [List.mem_cons, List.not_mem_nil, or_false, or_self] at hx; rw [hx]; exact num_sc rfl) (by show (decide ((0 : Int) ≤ -1 ∧ (-1 : Int) ≤ (m.n : Nat) - 1) && true) = false; rw [decide_eq_false (by omega)]; rfl)
      have g17 := g16.same (Same.new (o := .tup [V.int (-1)]) h1)
      have K17 := K16.trans (Keep.of_same (Same.new (o := .tup [V.int (-1)]) h1))
      generalize upd H16 q3 (.tup [V.int (-1)]) = H17 at E4 g17 K17 ⊢
      clear h1 E3
      walk_at "go"
      refine ⟨(by show 2 ≤ sizeLine; decide), fun q4 h1 => ?_⟩
      have E5 := E4.tup (xs := [V.int 0, V.int 0]) h1 (fun x hx H' => by simp only [List.mem_cons, List.not_mem_nil, or_false, or_self] at hx; rw [hx]; exact num_sc rfl) (by show (decide ((0 : Int) ≤ 0 ∧ (0 : Int) ≤ (m.n : Nat) - 1) && (decide ((0 + 1 : Int) ≤ 0 ∧ (0 : Int) ≤ (m.n : Nat) - 1) && true)) = false; rw [decide_eq_false (p := (0 + 1 : Int) ≤ 0 ∧ _) (by omega), Bool.false_and, Bool.and_false])
      have g18 := g17.same (Same.new (o := .tup [V.int 0, V.int 0]) h1)
      have K18 := K17.trans (Keep.of_same (Same.new (o := .tup [V.int 0, V.int 0]) h1))
      generalize upd H17 q4 (.tup [V.int 0, V.int 0]) = H18 at E5 g18 K18 ⊢
      clear h1 E4
      walk_at "go"
      refine ⟨(by show 1 ≤ sizeLine; decide), fun q5 h1 => ?_⟩
      have E6 := E5.tup (xs := [V.bl true]) h1 (fun x hx H' => by simp only [List.mem_cons, List.not_mem_nil, or_false, or_self] at hx; rw [hx]; exact num_sc rfl) (rfl)
      have g19 := g18.same (Same.new (o := .tup [V.bl true]) h1)
      have K19 := K18.trans (Keep.of_same (Same.new (o := .tup [V.bl true]) h1))
      generalize upd H18 q5 (.tup [V.bl true]) = H19 at E6 g19 K19 ⊢
      clear h1 E5
      walk_at "go"
      refine ⟨(by show 1 ≤ sizeLine; decide), fun q6 h1 => ?_⟩
      have E7 := E6.tup (xs := [V.str "0"]) h1 (fun x hx H' => by simp only [List.mem_cons, List.not_mem_nil, or_false, or_self] at hx; rw [hx]; exact num_sc rfl) (rfl)
      have g20 := g19.same (Same.new (o := .tup [V.str "0"]) h1)
      have K20 := K19.trans (Keep.of_same (Same.new (o := .tup [V.str "0"]) h1))
      generalize upd H19 q6 (.tup [V.str "0"]) = H20 at E7 g20 K20 ⊢
      clear h1 E6
      walk_at "go"
      have E8 := E7.int (i := 0)
      refine ⟨(by show 8 ≤ sizeLine; decide), fun L5 h5 => ?_⟩
      have n5 := g20.row.ne h5
      have E9 := E8.new (o := .lst [V.non, V.ref q1, V.ref q2, V.ref q3, V.ref q4, V.ref q5, V.ref q6, V.int 0]) h5
      have e5 := upd_same (H := H20) (a := L5) (o := .lst [V.non, V.ref q1, V.ref q2, V.ref q3, V.ref q4, V.ref q5, V.ref q6, V.int 0])
      have g21 := g20.same (Same.new (o := .lst [V.non, V.ref q1, V.ref q2, V.ref q3, V.ref q4, V.ref q5, V.ref q6, V.int 0]) h5)
      have K21 := K20.trans (Keep.of_same (Same.new (o := .lst [V.non, V.ref q1, V.ref q2, V.ref q3, V.ref q4, V.ref q5, V.ref q6, V.int 0]) h5))
      generalize upd H20 L5 (.lst [V.non, V.ref q1, V.ref q2, V.ref q3, V.ref q4, V.ref q5, V.ref q6, V.int 0]) = H21 at E9 g21 K21 e5 ⊢
      clear h5 E8 E7
      walk_at "go"
      refine ⟨a, 8, rfl, by decide, by decide, g21.row, fun x H30 x0 x8 R30 k30 => ?_⟩
      have g30 := g21.keep R30 k30
      obtain ⟨ve, eve, hve⟩ := at_in (xs := [V.non, V.ref q1, V.ref q2, V.ref q3, V.ref q4, V.ref q5, V.ref q6, V.int 0]) x0 (by show x < 8; exact x8)
      have hen : ∀ H', Keep a H30 H' → BadEnd K H' (m.n : Nat) ve := fun H' z => E9.2 ve hve H' (k30.trans z)
      refine k_ixL (SqL.of (k30 _ _ n5.symm e5)) eve ?_
      have hvn : ∀ H', Keep a H30 H' → NotTup K H' vn := fun H' z => hvn H' ((K21.trans k30).trans z)
      clear k30 e5 eve n5 x0 x8 E9 hve K14 K15 K16 K17 K18 K19 K20 K21 g14 g15 g16 g17 g18 g19 g20 g21
      walk_at "go"
      refine ⟨vb, vn, ve, rfl, .inl ⟨fun H' _ => hvb H', fun H31 z31 => ?_⟩⟩
      walk_at "go"
      refine iteF ?_
      walk_at "go"
      have g31 := g30.same z31
      have K31 := Keep.of_same (a := a) z31
      refine ⟨_, vn, ve, rfl, .inr (.inl ⟨m.n, .non, rfl, o.n1, o.n8, fun H' z => .inl ⟨hvn _ (K31.trans (Keep.of_same z)), rfl⟩, fun p H32 z32 ep => ?_⟩)⟩
      have g32 := g31.same z32
      have K32 := K31.trans (Keep.of_same (a := a) z32)
      walk_at "go"
      refine ⟨(by show 2 ≤ sizeLine; decide), fun q hq => ?_⟩
      have zq := Same.new (o := .lst [V.str "steps", .non]) hq
      refine k_neD (Dp.lst (SqL.of (zq _ _ ep)) (.cons (.str _) (.cons .non .nil))) (Dp.lst (SqL.of upd_same) (.cons (.str _) (.cons .non .nil))) (by decide +kernel) (by decide +kernel) ?_
      rw [sh_refl (by decide +kernel)]
      have g33 := g32.same zq
      have K33 := K32.trans (Keep.of_same (a := a) zq)
      generalize upd H32 q (.lst [V.str "steps", .non]) = H33 at g33 K33 ⊢
      clear g31 g32 K31 K32 zq ep hq z31 z32
      walk_at "go"
      refine iteF ?_
      walk_at "go"
      obtain ⟨us, ht, hs⟩ := id g33.st
      have l32 := o.len
      have l33 := hs.1
      refine k_len (.inr ht) ?_
      walk_at "go"
      refine ⟨a, _, rfl, by omega, by omega, g33.row, fun x H34 x0 x1 R34 k34 => ?_⟩
      have g34 := g33.keep R34 k34
      have K34 := K33.trans k34
      obtain ⟨at_, rfl⟩ := Int.eq_ofNat_of_zero_le x0
      have hat0 : at_ ≤ m.ss.length := by omega
      clear g33 K33 k34 x1 x0
      obtain ⟨us, ht, hs⟩ := id g34.st
      have l33 := hs.1
      have hat : at_ ≤ us.length := by rw [l33]; exact hat0
      walk_at "go"
      refine k_slT ht fun r1 H35 z35 hr1 => ?_
      rw [cutV_take] at hr1
      have g35 := g34.same z35
      walk_at "go"
      refine ⟨a, _, rfl, (by have := o.n1; omega), (by have := o.n8; omega), g35.row, fun v H36 R36 k36 hv => ?_⟩
      have g36 := g35.keep R36 k36
      have hr1 := (k36.tups g35.row.lst.choose_spec).sq hr1
      have K36 : Keep a H30 H36 := (K34.trans (Keep.of_same z35)).trans k36
      have ht := (k36.tups g35.row.lst.choose_spec).sq ((same_tups z35).sq ht)
      have hs := (k36.tups g35.row.lst.choose_spec).steps ((same_tups z35).steps hs)
      clear g34 g35 z35 k36
      walk_at "go"
      refine ⟨(by show 1 ≤ sizeLine; decide), fun p1 hp1 => ?_⟩
      have z37 := Same.new (o := .tup [v]) hp1
      have e37 := upd_same (H := H36) (a := p1) (o := .tup [v])
      refine k_catT ((same_tups z37).sq hr1) (SqT.of e37) (by rw [List.length_take, Nat.min_eq_left hat]; exact Nat.le_trans (Nat.succ_le_succ (show at_ ≤ 100 by omega)) (by decide)) fun r2 H38 z38 hr2 => ?_
      have z39 := z37.trans z38
      walk_at "go"
      refine k_slT ((same_tups z39).sq ht) fun r3 H40 z40 hr3 => ?_
      rw [cutV_drop] at hr3
      refine k_catT ((same_tups z40).sq hr2) hr3 (by rw [List.length_append, List.length_take, Nat.min_eq_left hat, List.length_drop, List.length_singleton]; exact Nat.le_trans (show at_ + 1 + (us.length - at_) ≤ 100 by omega) (by decide)) fun r4 H41 z41 hr4 => ?_
      have z42 := (z39.trans z40).trans z41
      have g41 := g36.same z42
      have K41 := K36.trans (Keep.of_same (a := a) z42)
      have hs := (same_tups z42).steps hs
      have k42 : Keep a H36 H41 := Keep.of_same z42
      clear g36 K36 z42 z41 z40 z39 z38 z37 hr1 hr2 hr3 ht hp1 e37
      walk_at "go"
      refine ⟨_, .ref r4, ve, rfl, .inr (.inl ⟨m.n, .int (at_ : Nat), rfl, o.n1, o.n8, fun H' z => bad_at o ((same_tups z).steps hs) hat ((same_tups z).sq hr4) (fun H2 z2 => hv _ (k42.trans (Keep.of_same (z.trans z2)))), fun p H50 z50 ep => ?_⟩)⟩
      walk_at "go"
      refine ⟨(by show 2 ≤ sizeLine; decide), fun q hq => ?_⟩
      have zq := Same.new (o := .lst [V.str "steps", .int (at_ : Nat)]) hq
      refine k_neD (Dp.lst (SqL.of (zq _ _ ep)) (.cons (.str _) (.cons (.int _) .nil))) (Dp.lst (SqL.of upd_same) (.cons (.str _) (.cons (.int _) .nil))) (st_sh _) (st_sh _) ?_
      rw [sh_refl (st_sh _)]
      have g50 := (g41.same z50).same zq
      have K50 := (K41.trans (Keep.of_same z50)).trans (Keep.of_same (a := a) zq)
      generalize upd H50 q (.lst [V.str "steps", .int (at_ : Nat)]) = H51 at g50 K50 ⊢
      clear g41 K41 hs hv hr4 k42 z50 zq ep hq
      walk_at "go"
      refine iteF ?_
      refine k_cut (fun σ' H' => GS K T.c_Machine H' a d t u mc m ∧ Keep a H30 H' ∧ ∃ b11 b12, σ' = [some (.ref sc), some (.ref a), some (.int (0 + (i : Nat))), some (.ref d), some (.int (m.n : Nat)), some (.ref t), some (.ref u), some (.ref mc), some vb, some vn, some ve, b11, b12]) ?_ ?_
      · walk_at "go"
        refine ⟨(by decide : 0 ≤ sizeLine), fun p hp => ?_⟩
        have z9 := Same.new (o := .tup []) hp
        have e9 := upd_same (H := H51) (a := p) (o := .tup [])
        have g9 := g50.same z9
        have K9 := K50.trans (Keep.of_same (a := a) z9)
        generalize upd H51 p (.tup []) = H9 at z9 e9 g9 K9 ⊢
        obtain ⟨us, ht, hs⟩ := id g9.st
        refine k_neD (dp_ss ht hs) (.tup (SqT.of e9) .nil) (ss_sh c100) (by decide +kernel) ?_
        by_cases hss : m.ss = []
        · rw [hss, show PyData.eqv (ssD []) (PyData.tuple []) = true from rfl]
          refine ⟨_, rfl, iteF ?_⟩
          exact ⟨g9, K9, _, _, rfl⟩
        · have sl : 0 < m.ss.length := List.length_pos_iff.mpr hss
          rw [show PyData.eqv (ssD m.ss) (PyData.tuple []) = false from by
            cases e : m.ss with
            | nil => exact absurd e hss
            | cons _ _ => rfl]
          refine ⟨_, rfl, iteT ?_⟩
          have l33 := hs.1
          walk_at "go"
          refine k_len (.inr ht) ?_
          refine ⟨a, _, rfl, by omega, by omega, g9.row, fun x H34 x0 x1 R34 k34 => ?_⟩
          have g34 := g9.keep R34 k34
          have ht := (k34.tups g9.row.lst.choose_spec).sq ht
          have hs := (k34.tups g9.row.lst.choose_spec).steps hs
          have K34 := K9.trans k34
          obtain ⟨x', rfl⟩ := Int.eq_ofNat_of_zero_le x0
          walk_at "go"
          refine ⟨a, _, rfl, by omega, by omega, g34.row, fun y H35 y0 y1 R35 k35 => ?_⟩
          have g35 := g34.keep R35 k35
          have K35 := K34.trans k35
          have ht := (k35.tups g34.row.lst.choose_spec).sq ht
          have hs := (k35.tups g34.row.lst.choose_spec).steps hs
          obtain ⟨y', rfl⟩ := Int.eq_ofNat_of_zero_le y0
          have yl : y' < m.ss.length := by omega
          have hat : 1 + x' ≤ us.length := by omega
          have yat : y' < 1 + x' := by omega
          obtain ⟨qa, eqa, hqa⟩ := hs.2 y' _ (List.getElem?_eq_getElem yl)
          refine k_ixT ht (v := .ref qa) (at_of (j := y') rfl eqa) ?_
          rw [show (1 + ((x' : Nat) : Int)) = ((1 + x' : Nat) : Int) by omega]
          generalize 1 + x' = at2 at hat yat ⊢
          clear g34 K34 k34 k35 g9 K9 e9 z9 y0 y1 x0 x1
          walk_at "go"
          refine k_slT ht fun r1 H36 z36 hr1 => ?_
          rw [cutV_take] at hr1
          walk_at "go"
          refine ⟨(by show 1 ≤ sizeLine; decide), fun p1 hp1 => ?_⟩
          have z37 := Same.new (o := .tup [V.ref qa]) hp1
          have e37 := upd_same (H := H36) (a := p1) (o := .tup [V.ref qa])
          refine k_catT ((same_tups z37).sq hr1) (SqT.of e37) (by rw [List.length_take, Nat.min_eq_left hat]; exact Nat.le_trans (Nat.succ_le_succ (show at2 ≤ 100 by omega)) (by decide)) fun r2 H38 z38 hr2 => ?_
          have z39 := (z36.trans z37).trans z38
          walk_at "go"
          refine k_slT ((same_tups z39).sq ht) fun r3 H40 z40 hr3 => ?_
          rw [cutV_drop] at hr3
          refine k_catT ((same_tups z40).sq hr2) hr3 (by rw [List.length_append, List.length_take, Nat.min_eq_left hat, List.length_drop, List.length_singleton]; exact Nat.le_trans (show at2 + 1 + (us.length - at2) ≤ 100 by omega) (by decide)) fun r4 H41 z41 hr4 => ?_
          have z42 := (z39.trans z40).trans z41
          have g41 := g35.same z42
          have K41 := K35.trans (Keep.of_same (a := a) z42)
          have hs := (same_tups z42).steps hs
          have hqa := (same_tups z42).sq hqa
          clear g35 K35 z42 z41 z40 z39 z38 z37 z36 hr1 hr2 hr3 ht hp1 e37
          walk_at "go"
          refine ⟨_, .ref r4, ve, rfl, .inr (.inl ⟨m.n, .int (at2 : Nat), rfl, o.n1, o.n8, fun H' z => bad_again o ((same_tups z).steps hs) hat yat (List.getElem?_eq_getElem yl) ((same_tups z).sq hqa) ((same_tups z).sq hr4), fun p H50 z50 ep => ?_⟩)⟩
          walk_at "go"
          refine ⟨(by show 2 ≤ sizeLine; decide), fun q hq => ?_⟩
          have zq := Same.new (o := .lst [V.str "steps", .int (at2 : Nat)]) hq
          refine k_neD (Dp.lst (SqL.of (zq _ _ ep)) (.cons (.str _) (.cons (.int _) .nil))) (Dp.lst (SqL.of upd_same) (.cons (.str _) (.cons (.int _) .nil))) (st_sh _) (st_sh _) ?_
          rw [sh_refl (st_sh _)]
          walk_at "go"
          refine iteF ?_
          exact ⟨(g41.same z50).same zq, (K41.trans (Keep.of_same z50)).trans (Keep.of_same (a := a) zq), _, _, rfl⟩
      rintro σ' H60 ⟨g60, K60, b11, b12, rfl⟩
      walk_at "go"
      refine ⟨_, .ref t, ve, rfl, .inr (.inr ⟨m, t, rfl, rfl, o, g60.st, fun H' z => hen _ (K60.trans (Keep.of_same z)), fun H61 z61 => ?_⟩)⟩
      walk_at "go"
      refine iteF ?_
      walk_at "go"
      exact ⟨_, _, _, _, _, _, _, _, _, _, _, (g60.same z61).row, rfl⟩
    · rintro σ H2 ⟨b2, b3, b4, b5, b6, b7, b8, b9, b10, b11, b12, R2, rfl⟩
      walk_at "go"
      exact k _
end
/-! ### what the written part says -/
theorem exc_self {K : PySem.W.Frag} {S : Addr} (hb : PySem.W.subIn K (.ref S) (.type "BaseException") = some true) (hc : PySem.W.isClsIn K S = true) (ht : PySem.W.typeIn K (.ref S) = some (.type "type")) (hs : PySem.W.subIn K (.ref S) (.ref S) = some true) : PySem.W.exmOne K (.ref S) (.ref S) = some true := by
  have hc' : (PySem.W.clsIn K S).isSome = true := hc
  unfold PySem.W.exmOne PySem.W.kitCls
  simp only [hb, ht, hc', hs, beq_self_eq_true, Bool.and_self, if_true]
theorem bb_BadSteps_init (kV doc pm : Value) (an : Option Addr) (cdv ct : Value) (us : List Value) (hl : us.length = 2) : bindArgs (PySem.W.fnOf "__init__" "BadSteps.__init__" (defArgs s_BadSteps_init) (defBody s_BadSteps_init) (defScope s_BadSteps_init) .none kV doc pm an cdv ct) ⟨us, []⟩ = pure ((["self", "index"] : List Str).zip us) := match us, hl with | [_, _], _ => rfl
theorem bb_Machine_init (kV doc pm : Value) (an : Option Addr) (cdv ct : Value) (us : List Value) (hl : us.length = 4) : bindArgs (PySem.W.fnOf "__init__" "Machine.__init__" (defArgs s_Machine_init) (defBody s_Machine_init) (defScope s_Machine_init) .none kV doc pm an cdv ct) ⟨us, []⟩ = pure ((["self", "stands", "steps", "ends"] : List Str).zip us) := match us, hl with | [_, _, _, _], _ => rfl
theorem bb_Machine_stands (kV doc pm : Value) (an : Option Addr) (cdv ct : Value) (us : List Value) (hl : us.length = 1) : bindArgs (PySem.W.fnOf "stands" "Machine.stands" (defArgs s_Machine_stands) (defBody s_Machine_stands) (defScope s_Machine_stands) .none kV doc pm an cdv ct) ⟨us, []⟩ = pure ((["self"] : List Str).zip us) := match us, hl with | [_], _ => rfl
theorem bb_Machine_steps (kV doc pm : Value) (an : Option Addr) (cdv ct : Value) (us : List Value) (hl : us.length = 1) : bindArgs (PySem.W.fnOf "steps" "Machine.steps" (defArgs s_Machine_steps) (defBody s_Machine_steps) (defScope s_Machine_steps) .none kV doc pm an cdv ct) ⟨us, []⟩ = pure ((["self"] : List Str).zip us) := match us, hl with | [_], _ => rfl
theorem bb_Machine_ends (kV doc pm : Value) (an : Option Addr) (cdv ct : Value) (us : List Value) (hl : us.length = 1) : bindArgs (PySem.W.fnOf "ends" "Machine.ends" (defArgs s_Machine_ends) (defBody s_Machine_ends) (defScope s_Machine_ends) .none kV doc pm an cdv ct) ⟨us, []⟩ = pure ((["self"] : List Str).zip us) := match us, hl with | [_], _ => rfl
theorem bb_Machine_eq (kV doc pm : Value) (an : Option Addr) (cdv ct : Value) (us : List Value) (hl : us.length = 2) : bindArgs (PySem.W.fnOf "__eq__" "Machine.__eq__" (defArgs s_Machine_eq) (defBody s_Machine_eq) (defScope s_Machine_eq) .none kV doc pm an cdv ct) ⟨us, []⟩ = pure ((["self", "other"] : List Str).zip us) := match us, hl with | [_, _], _ => rfl
theorem bb_is_whole_number (kV doc pm : Value) (an : Option Addr) (cdv ct : Value) (us : List Value) (hl : us.length = 1) : bindArgs (PySem.W.fnOf "is_whole_number" "is_whole_number" (defArgs s_is_whole_number) (defBody s_is_whole_number) (defScope s_is_whole_number) .none kV doc pm an cdv ct) ⟨us, []⟩ = pure ((["value"] : List Str).zip us) := match us, hl with | [_], _ => rfl
theorem bb_is_integer_between (kV doc pm : Value) (an : Option Addr) (cdv ct : Value) (us : List Value) (hl : us.length = 3) : bindArgs (PySem.W.fnOf "is_integer_between" "is_integer_between" (defArgs s_is_integer_between) (defBody s_is_integer_between) (defScope s_is_integer_between) .none kV doc pm an cdv ct) ⟨us, []⟩ = pure ((["value", "least", "most"] : List Str).zip us) := match us, hl with | [_, _, _], _ => rfl
theorem bb_is_stand (kV doc pm : Value) (an : Option Addr) (cdv ct : Value) (us : List Value) (hl : us.length = 2) : bindArgs (PySem.W.fnOf "_is_stand" "_is_stand" (defArgs s_is_stand) (defBody s_is_stand) (defScope s_is_stand) .none kV doc pm an cdv ct) ⟨us, []⟩ = pure ((["stands", "value"] : List Str).zip us) := match us, hl with | [_, _], _ => rfl
theorem bb_check_stands (kV doc pm : Value) (an : Option Addr) (cdv ct : Value) (us : List Value) (hl : us.length = 1) : bindArgs (PySem.W.fnOf "_check_stands" "_check_stands" (defArgs s_check_stands) (defBody s_check_stands) (defScope s_check_stands) .none kV doc pm an cdv ct) ⟨us, []⟩ = pure ((["stands"] : List Str).zip us) := match us, hl with | [_], _ => rfl
theorem bb_is_step (kV doc pm : Value) (an : Option Addr) (cdv ct : Value) (us : List Value) (hl : us.length = 2) : bindArgs (PySem.W.fnOf "_is_step" "_is_step" (defArgs s_is_step) (defBody s_is_step) (defScope s_is_step) .none kV doc pm an cdv ct) ⟨us, []⟩ = pure ((["stands", "value"] : List Str).zip us) := match us, hl with | [_, _], _ => rfl
theorem bb_check_steps (kV doc pm : Value) (an : Option Addr) (cdv ct : Value) (us : List Value) (hl : us.length = 2) : bindArgs (PySem.W.fnOf "_check_steps" "_check_steps" (defArgs s_check_steps) (defBody s_check_steps) (defScope s_check_steps) .none kV doc pm an cdv ct) ⟨us, []⟩ = pure ((["stands", "steps"] : List Str).zip us) := match us, hl with | [_, _], _ => rfl
theorem bb_is_ascending (kV doc pm : Value) (an : Option Addr) (cdv ct : Value) (us : List Value) (hl : us.length = 2) : bindArgs (PySem.W.fnOf "is_ascending" "is_ascending" (defArgs s_is_ascending) (defBody s_is_ascending) (defScope s_is_ascending) .none kV doc pm an cdv ct) ⟨us, []⟩ = pure ((["value", "many"] : List Str).zip us) := match us, hl with | [_, _], _ => rfl
theorem bb_check_ends (kV doc pm : Value) (an : Option Addr) (cdv ct : Value) (us : List Value) (hl : us.length = 2) : bindArgs (PySem.W.fnOf "_check_ends" "_check_ends" (defArgs s_check_ends) (defBody s_check_ends) (defScope s_check_ends) .none kV doc pm an cdv ct) ⟨us, []⟩ = pure ((["stands", "ends"] : List Str).zip us) := match us, hl with | [_, _], _ => rfl
theorem bb_law_taken (kV doc pm : Value) (an : Option Addr) (cdv ct : Value) (us : List Value) (hl : us.length = 2) : bindArgs (PySem.W.fnOf "_law_taken" "_law_taken" (defArgs s_law_taken) (defBody s_law_taken) (defScope s_law_taken) .none kV doc pm an cdv ct) ⟨us, []⟩ = pure ((["_law_row", "_law_many"] : List Str).zip us) := match us, hl with | [_, _], _ => rfl
theorem bb_law_parts (kV doc pm : Value) (an : Option Addr) (cdv ct : Value) (us : List Value) (hl : us.length = 3) : bindArgs (PySem.W.fnOf "_law_parts" "_law_parts" (defArgs s_law_parts) (defBody s_law_parts) (defScope s_law_parts) .none kV doc pm an cdv ct) ⟨us, []⟩ = pure ((["_law_row", "_law_stands", "_law_size"] : List Str).zip us) := match us, hl with | [_, _, _], _ => rfl
theorem bb_law_machine (kV doc pm : Value) (an : Option Addr) (cdv ct : Value) (us : List Value) (hl : us.length = 1) : bindArgs (PySem.W.fnOf "_law_machine" "_law_machine" (defArgs s_law_machine) (defBody s_law_machine) (defScope s_law_machine) .none kV doc pm an cdv ct) ⟨us, []⟩ = pure ((["_law_d"] : List Str).zip us) := match us, hl with | [_], _ => rfl
theorem bb_law_refused (kV doc pm : Value) (an : Option Addr) (cdv ct : Value) (us : List Value) (hl : us.length = 3) : bindArgs (PySem.W.fnOf "_law_refused" "_law_refused" (defArgs s_law_refused) (defBody s_law_refused) (defScope s_law_refused) .none kV doc pm an cdv ct) ⟨us, []⟩ = pure ((["_law_stands", "_law_steps", "_law_ends"] : List Str).zip us) := match us, hl with | [_, _, _], _ => rfl
theorem bb_law_spoilt (kV doc pm : Value) (an : Option Addr) (cdv ct : Value) (us : List Value) (hl : us.length = 2) : bindArgs (PySem.W.fnOf "_law_spoilt" "_law_spoilt" (defArgs s_law_spoilt) (defBody s_law_spoilt) (defScope s_law_spoilt) .none kV doc pm an cdv ct) ⟨us, []⟩ = pure ((["_law_row", "_law_stands"] : List Str).zip us) := match us, hl with | [_, _], _ => rfl
theorem bb_law (kV doc pm : Value) (an : Option Addr) (cdv ct : Value) (us : List Value) (hl : us.length = 1) : bindArgs (PySem.W.fnOf "law" "law" (defArgs s_law) (defBody s_law) (defScope s_law) .none kV doc pm an cdv ct) ⟨us, []⟩ = pure ((["_law_script"] : List Str).zip us) := match us, hl with | [_], _ => rfl
set_option maxHeartbeats 0 in
def txt_mk {K : PySem.W.Frag} {h : Heap} {mg : Str → Option Value} (X : K.In h) (G : h.Ns mainGlobals mg)
    {a_BadSteps_init : Addr} {od_BadSteps_init an_BadSteps_init : Option Addr} {sl_BadSteps_init : Array (Option Value)} {oc_BadSteps_init kV_BadSteps_init dc_BadSteps_init pm_BadSteps_init cd_BadSteps_init ct_BadSteps_init : Value}
    {a_Machine_init : Addr} {od_Machine_init an_Machine_init : Option Addr} {sl_Machine_init : Array (Option Value)} {oc_Machine_init kV_Machine_init dc_Machine_init pm_Machine_init cd_Machine_init ct_Machine_init : Value}
    {a_Machine_stands : Addr} {od_Machine_stands an_Machine_stands : Option Addr} {sl_Machine_stands : Array (Option Value)} {oc_Machine_stands kV_Machine_stands dc_Machine_stands pm_Machine_stands cd_Machine_stands ct_Machine_stands : Value}
    {a_Machine_steps : Addr} {od_Machine_steps an_Machine_steps : Option Addr} {sl_Machine_steps : Array (Option Value)} {oc_Machine_steps kV_Machine_steps dc_Machine_steps pm_Machine_steps cd_Machine_steps ct_Machine_steps : Value}
    {a_Machine_ends : Addr} {od_Machine_ends an_Machine_ends : Option Addr} {sl_Machine_ends : Array (Option Value)} {oc_Machine_ends kV_Machine_ends dc_Machine_ends pm_Machine_ends cd_Machine_ends ct_Machine_ends : Value}
    {a_Machine_eq : Addr} {od_Machine_eq an_Machine_eq : Option Addr} {sl_Machine_eq : Array (Option Value)} {oc_Machine_eq kV_Machine_eq dc_Machine_eq pm_Machine_eq cd_Machine_eq ct_Machine_eq : Value}
    {a_is_whole_number : Addr} {od_is_whole_number an_is_whole_number : Option Addr} {sl_is_whole_number : Array (Option Value)} {oc_is_whole_number kV_is_whole_number dc_is_whole_number pm_is_whole_number cd_is_whole_number ct_is_whole_number : Value}
    {a_is_integer_between : Addr} {od_is_integer_between an_is_integer_between : Option Addr} {sl_is_integer_between : Array (Option Value)} {oc_is_integer_between kV_is_integer_between dc_is_integer_between pm_is_integer_between cd_is_integer_between ct_is_integer_between : Value}
    {a_is_stand : Addr} {od_is_stand an_is_stand : Option Addr} {sl_is_stand : Array (Option Value)} {oc_is_stand kV_is_stand dc_is_stand pm_is_stand cd_is_stand ct_is_stand : Value}
    {a_check_stands : Addr} {od_check_stands an_check_stands : Option Addr} {sl_check_stands : Array (Option Value)} {oc_check_stands kV_check_stands dc_check_stands pm_check_stands cd_check_stands ct_check_stands : Value}
    {a_is_step : Addr} {od_is_step an_is_step : Option Addr} {sl_is_step : Array (Option Value)} {oc_is_step kV_is_step dc_is_step pm_is_step cd_is_step ct_is_step : Value}
    {a_check_steps : Addr} {od_check_steps an_check_steps : Option Addr} {sl_check_steps : Array (Option Value)} {oc_check_steps kV_check_steps dc_check_steps pm_check_steps cd_check_steps ct_check_steps : Value}
    {a_is_ascending : Addr} {od_is_ascending an_is_ascending : Option Addr} {sl_is_ascending : Array (Option Value)} {oc_is_ascending kV_is_ascending dc_is_ascending pm_is_ascending cd_is_ascending ct_is_ascending : Value}
    {a_check_ends : Addr} {od_check_ends an_check_ends : Option Addr} {sl_check_ends : Array (Option Value)} {oc_check_ends kV_check_ends dc_check_ends pm_check_ends cd_check_ends ct_check_ends : Value}
    {a_law_taken : Addr} {od_law_taken an_law_taken : Option Addr} {sl_law_taken : Array (Option Value)} {oc_law_taken kV_law_taken dc_law_taken pm_law_taken cd_law_taken ct_law_taken : Value}
    {a_law_parts : Addr} {od_law_parts an_law_parts : Option Addr} {sl_law_parts : Array (Option Value)} {oc_law_parts kV_law_parts dc_law_parts pm_law_parts cd_law_parts ct_law_parts : Value}
    {a_law_machine : Addr} {od_law_machine an_law_machine : Option Addr} {sl_law_machine : Array (Option Value)} {oc_law_machine kV_law_machine dc_law_machine pm_law_machine cd_law_machine ct_law_machine : Value}
    {a_law_refused : Addr} {od_law_refused an_law_refused : Option Addr} {sl_law_refused : Array (Option Value)} {oc_law_refused kV_law_refused dc_law_refused pm_law_refused cd_law_refused ct_law_refused : Value}
    {a_law_spoilt : Addr} {od_law_spoilt an_law_spoilt : Option Addr} {sl_law_spoilt : Array (Option Value)} {oc_law_spoilt kV_law_spoilt dc_law_spoilt pm_law_spoilt cd_law_spoilt ct_law_spoilt : Value}
    {a_law : Addr} {od_law an_law : Option Addr} {sl_law : Array (Option Value)} {oc_law kV_law dc_law pm_law cd_law ct_law : Value}
    {c_Machine : Addr}
    {q_stands : Addr} {rest_stands : List Value}
    {q_steps : Addr} {rest_steps : List Value}
    {q_ends : Addr} {rest_ends : List Value}
    {c_BadStands : Addr}
    {c_BadEnds : Addr}
    {c_BadSteps r_BadSteps : Addr} {nm_BadSteps q_BadSteps : Str} {N_BadSteps bs_BadSteps sn_BadSteps sub_BadSteps ab_BadSteps col_BadSteps dd_BadSteps k0_BadSteps k1_BadSteps k2_BadSteps k3_BadSteps k5_BadSteps}
    {c_TallyError : Addr}
    {t_MOST_STANDS : Tok}
    {t_MOST_GAIN : Tok}
    {a_LETTERS : Addr} {od_LETTERS : Option Addr} {sl_LETTERS : Array (Option Value)} {n_LETTERS : Nat} {w0_LETTERS w1_LETTERS w2_LETTERS w3_LETTERS : Tok}
    (g_is_whole_number : PySem.W.nsIn K mainGlobals "is_whole_number" = some (some (.ref a_is_whole_number)))
    (g_is_integer_between : PySem.W.nsIn K mainGlobals "is_integer_between" = some (some (.ref a_is_integer_between)))
    (g_is_stand : PySem.W.nsIn K mainGlobals "_is_stand" = some (some (.ref a_is_stand)))
    (g_check_stands : PySem.W.nsIn K mainGlobals "_check_stands" = some (some (.ref a_check_stands)))
    (g_is_step : PySem.W.nsIn K mainGlobals "_is_step" = some (some (.ref a_is_step)))
    (g_check_steps : PySem.W.nsIn K mainGlobals "_check_steps" = some (some (.ref a_check_steps)))
    (g_is_ascending : PySem.W.nsIn K mainGlobals "is_ascending" = some (some (.ref a_is_ascending)))
    (g_check_ends : PySem.W.nsIn K mainGlobals "_check_ends" = some (some (.ref a_check_ends)))
    (g_law_taken : PySem.W.nsIn K mainGlobals "_law_taken" = some (some (.ref a_law_taken)))
    (g_law_parts : PySem.W.nsIn K mainGlobals "_law_parts" = some (some (.ref a_law_parts)))
    (g_law_machine : PySem.W.nsIn K mainGlobals "_law_machine" = some (some (.ref a_law_machine)))
    (g_law_refused : PySem.W.nsIn K mainGlobals "_law_refused" = some (some (.ref a_law_refused)))
    (g_law_spoilt : PySem.W.nsIn K mainGlobals "_law_spoilt" = some (some (.ref a_law_spoilt)))
    (g_law : PySem.W.nsIn K mainGlobals "law" = some (some (.ref a_law)))
    (g_Machine : PySem.W.nsIn K mainGlobals "Machine" = some (some (.ref c_Machine)))
    (g_BadStands : PySem.W.nsIn K mainGlobals "BadStands" = some (some (.ref c_BadStands)))
    (g_BadEnds : PySem.W.nsIn K mainGlobals "BadEnds" = some (some (.ref c_BadEnds)))
    (g_BadSteps : PySem.W.nsIn K mainGlobals "BadSteps" = some (some (.ref c_BadSteps)))
    (g_TallyError : PySem.W.nsIn K mainGlobals "TallyError" = some (some (.ref c_TallyError)))
    (g_MOST_STANDS : PySem.W.nsIn K mainGlobals "MOST_STANDS" = some (some (.int 8 t_MOST_STANDS)))
    (g_MOST_GAIN : PySem.W.nsIn K mainGlobals "MOST_GAIN" = some (some (.int 1000000000000000000000000000000 t_MOST_GAIN)))
    (g_LETTERS : PySem.W.nsIn K mainGlobals "LETTERS" = some (some (.ref a_LETTERS)))
    (zz_bool : PySem.W.nsIn K mainGlobals "bool" = some none)
    (zz_enumerate : PySem.W.nsIn K mainGlobals "enumerate" = some none)
    (zz_int : PySem.W.nsIn K mainGlobals "int" = some none)
    (zz_isinstance : PySem.W.nsIn K mainGlobals "isinstance" = some none)
    (zz_len : PySem.W.nsIn K mainGlobals "len" = some none)
    (zz_list : PySem.W.nsIn K mainGlobals "list" = some none)
    (zz_range : PySem.W.nsIn K mainGlobals "range" = some none)
    (zz_str : PySem.W.nsIn K mainGlobals "str" = some none)
    (zz_tuple : PySem.W.nsIn K mainGlobals "tuple" = some none)
    (l_BadSteps_init : K.lookup a_BadSteps_init = some ⟨oc_BadSteps_init, od_BadSteps_init, .func (PySem.W.fnOf "__init__" "BadSteps.__init__" (defArgs s_BadSteps_init) (defBody s_BadSteps_init) (defScope s_BadSteps_init) .none kV_BadSteps_init dc_BadSteps_init pm_BadSteps_init an_BadSteps_init cd_BadSteps_init ct_BadSteps_init), sl_BadSteps_init⟩)
    (c_BadSteps_init : PySem.W.codeIn K cd_BadSteps_init "BadSteps.__init__" = true)
    (kk_BadSteps_init : PySem.W.keepIn K (.ref a_BadSteps_init) = true)
    (l_Machine_init : K.lookup a_Machine_init = some ⟨oc_Machine_init, od_Machine_init, .func (PySem.W.fnOf "__init__" "Machine.__init__" (defArgs s_Machine_init) (defBody s_Machine_init) (defScope s_Machine_init) .none kV_Machine_init dc_Machine_init pm_Machine_init an_Machine_init cd_Machine_init ct_Machine_init), sl_Machine_init⟩)
    (c_Machine_init : PySem.W.codeIn K cd_Machine_init "Machine.__init__" = true)
    (kk_Machine_init : PySem.W.keepIn K (.ref a_Machine_init) = true)
    (l_Machine_stands : K.lookup a_Machine_stands = some ⟨oc_Machine_stands, od_Machine_stands, .func (PySem.W.fnOf "stands" "Machine.stands" (defArgs s_Machine_stands) (defBody s_Machine_stands) (defScope s_Machine_stands) .none kV_Machine_stands dc_Machine_stands pm_Machine_stands an_Machine_stands cd_Machine_stands ct_Machine_stands), sl_Machine_stands⟩)
    (c_Machine_stands : PySem.W.codeIn K cd_Machine_stands "Machine.stands" = true)
    (kk_Machine_stands : PySem.W.keepIn K (.ref a_Machine_stands) = true)
    (l_Machine_steps : K.lookup a_Machine_steps = some ⟨oc_Machine_steps, od_Machine_steps, .func (PySem.W.fnOf "steps" "Machine.steps" (defArgs s_Machine_steps) (defBody s_Machine_steps) (defScope s_Machine_steps) .none kV_Machine_steps dc_Machine_steps pm_Machine_steps an_Machine_steps cd_Machine_steps ct_Machine_steps), sl_Machine_steps⟩)
    (c_Machine_steps : PySem.W.codeIn K cd_Machine_steps "Machine.steps" = true)
    (kk_Machine_steps : PySem.W.keepIn K (.ref a_Machine_steps) = true)
    (l_Machine_ends : K.lookup a_Machine_ends = some ⟨oc_Machine_ends, od_Machine_ends, .func (PySem.W.fnOf "ends" "Machine.ends" (defArgs s_Machine_ends) (defBody s_Machine_ends) (defScope s_Machine_ends) .none kV_Machine_ends dc_Machine_ends pm_Machine_ends an_Machine_ends cd_Machine_ends ct_Machine_ends), sl_Machine_ends⟩)
    (c_Machine_ends : PySem.W.codeIn K cd_Machine_ends "Machine.ends" = true)
    (kk_Machine_ends : PySem.W.keepIn K (.ref a_Machine_ends) = true)
    (l_Machine_eq : K.lookup a_Machine_eq = some ⟨oc_Machine_eq, od_Machine_eq, .func (PySem.W.fnOf "__eq__" "Machine.__eq__" (defArgs s_Machine_eq) (defBody s_Machine_eq) (defScope s_Machine_eq) .none kV_Machine_eq dc_Machine_eq pm_Machine_eq an_Machine_eq cd_Machine_eq ct_Machine_eq), sl_Machine_eq⟩)
    (c_Machine_eq : PySem.W.codeIn K cd_Machine_eq "Machine.__eq__" = true)
    (kk_Machine_eq : PySem.W.keepIn K (.ref a_Machine_eq) = true)
    (l_is_whole_number : K.lookup a_is_whole_number = some ⟨oc_is_whole_number, od_is_whole_number, .func (PySem.W.fnOf "is_whole_number" "is_whole_number" (defArgs s_is_whole_number) (defBody s_is_whole_number) (defScope s_is_whole_number) .none kV_is_whole_number dc_is_whole_number pm_is_whole_number an_is_whole_number cd_is_whole_number ct_is_whole_number), sl_is_whole_number⟩)
    (c_is_whole_number : PySem.W.codeIn K cd_is_whole_number "is_whole_number" = true)
    (kk_is_whole_number : PySem.W.keepIn K (.ref a_is_whole_number) = true)
    (l_is_integer_between : K.lookup a_is_integer_between = some ⟨oc_is_integer_between, od_is_integer_between, .func (PySem.W.fnOf "is_integer_between" "is_integer_between" (defArgs s_is_integer_between) (defBody s_is_integer_between) (defScope s_is_integer_between) .none kV_is_integer_between dc_is_integer_between pm_is_integer_between an_is_integer_between cd_is_integer_between ct_is_integer_between), sl_is_integer_between⟩)
    (c_is_integer_between : PySem.W.codeIn K cd_is_integer_between "is_integer_between" = true)
    (kk_is_integer_between : PySem.W.keepIn K (.ref a_is_integer_between) = true)
    (l_is_stand : K.lookup a_is_stand = some ⟨oc_is_stand, od_is_stand, .func (PySem.W.fnOf "_is_stand" "_is_stand" (defArgs s_is_stand) (defBody s_is_stand) (defScope s_is_stand) .none kV_is_stand dc_is_stand pm_is_stand an_is_stand cd_is_stand ct_is_stand), sl_is_stand⟩)
    (c_is_stand : PySem.W.codeIn K cd_is_stand "_is_stand" = true)
    (kk_is_stand : PySem.W.keepIn K (.ref a_is_stand) = true)
    (l_check_stands : K.lookup a_check_stands = some ⟨oc_check_stands, od_check_stands, .func (PySem.W.fnOf "_check_stands" "_check_stands" (defArgs s_check_stands) (defBody s_check_stands) (defScope s_check_stands) .none kV_check_stands dc_check_stands pm_check_stands an_check_stands cd_check_stands ct_check_stands), sl_check_stands⟩)
    (c_check_stands : PySem.W.codeIn K cd_check_stands "_check_stands" = true)
    (kk_check_stands : PySem.W.keepIn K (.ref a_check_stands) = true)
    (l_is_step : K.lookup a_is_step = some ⟨oc_is_step, od_is_step, .func (PySem.W.fnOf "_is_step" "_is_step" (defArgs s_is_step) (defBody s_is_step) (defScope s_is_step) .none kV_is_step dc_is_step pm_is_step an_is_step cd_is_step ct_is_step), sl_is_step⟩)
    (c_is_step : PySem.W.codeIn K cd_is_step "_is_step" = true)
    (kk_is_step : PySem.W.keepIn K (.ref a_is_step) = true)
    (l_check_steps : K.lookup a_check_steps = some ⟨oc_check_steps, od_check_steps, .func (PySem.W.fnOf "_check_steps" "_check_steps" (defArgs s_check_steps) (defBody s_check_steps) (defScope s_check_steps) .none kV_check_steps dc_check_steps pm_check_steps an_check_steps cd_check_steps ct_check_steps), sl_check_steps⟩)
    (c_check_steps : PySem.W.codeIn K cd_check_steps "_check_steps" = true)
    (kk_check_steps : PySem.W.keepIn K (.ref a_check_steps) = true)
    (l_is_ascending : K.lookup a_is_ascending = some ⟨oc_is_ascending, od_is_ascending, .func (PySem.W.fnOf "is_ascending" "is_ascending" (defArgs s_is_ascending) (defBody s_is_ascending) (defScope s_is_ascending) .none kV_is_ascending dc_is_ascending pm_is_ascending an_is_ascending cd_is_ascending ct_is_ascending), sl_is_ascending⟩)
    (c_is_ascending : PySem.W.codeIn K cd_is_ascending "is_ascending" = true)
    (kk_is_ascending : PySem.W.keepIn K (.ref a_is_ascending) = true)
    (l_check_ends : K.lookup a_check_ends = some ⟨oc_check_ends, od_check_ends, .func (PySem.W.fnOf "_check_ends" "_check_ends" (defArgs s_check_ends) (defBody s_check_ends) (defScope s_check_ends) .none kV_check_ends dc_check_ends pm_check_ends an_check_ends cd_check_ends ct_check_ends), sl_check_ends⟩)
    (c_check_ends : PySem.W.codeIn K cd_check_ends "_check_ends" = true)
    (kk_check_ends : PySem.W.keepIn K (.ref a_check_ends) = true)
    (l_law_taken : K.lookup a_law_taken = some ⟨oc_law_taken, od_law_taken, .func (PySem.W.fnOf "_law_taken" "_law_taken" (defArgs s_law_taken) (defBody s_law_taken) (defScope s_law_taken) .none kV_law_taken dc_law_taken pm_law_taken an_law_taken cd_law_taken ct_law_taken), sl_law_taken⟩)
    (c_law_taken : PySem.W.codeIn K cd_law_taken "_law_taken" = true)
    (kk_law_taken : PySem.W.keepIn K (.ref a_law_taken) = true)
    (l_law_parts : K.lookup a_law_parts = some ⟨oc_law_parts, od_law_parts, .func (PySem.W.fnOf "_law_parts" "_law_parts" (defArgs s_law_parts) (defBody s_law_parts) (defScope s_law_parts) .none kV_law_parts dc_law_parts pm_law_parts an_law_parts cd_law_parts ct_law_parts), sl_law_parts⟩)
    (c_law_parts : PySem.W.codeIn K cd_law_parts "_law_parts" = true)
    (kk_law_parts : PySem.W.keepIn K (.ref a_law_parts) = true)
    (l_law_machine : K.lookup a_law_machine = some ⟨oc_law_machine, od_law_machine, .func (PySem.W.fnOf "_law_machine" "_law_machine" (defArgs s_law_machine) (defBody s_law_machine) (defScope s_law_machine) .none kV_law_machine dc_law_machine pm_law_machine an_law_machine cd_law_machine ct_law_machine), sl_law_machine⟩)
    (c_law_machine : PySem.W.codeIn K cd_law_machine "_law_machine" = true)
    (kk_law_machine : PySem.W.keepIn K (.ref a_law_machine) = true)
    (l_law_refused : K.lookup a_law_refused = some ⟨oc_law_refused, od_law_refused, .func (PySem.W.fnOf "_law_refused" "_law_refused" (defArgs s_law_refused) (defBody s_law_refused) (defScope s_law_refused) .none kV_law_refused dc_law_refused pm_law_refused an_law_refused cd_law_refused ct_law_refused), sl_law_refused⟩)
    (c_law_refused : PySem.W.codeIn K cd_law_refused "_law_refused" = true)
    (kk_law_refused : PySem.W.keepIn K (.ref a_law_refused) = true)
    (l_law_spoilt : K.lookup a_law_spoilt = some ⟨oc_law_spoilt, od_law_spoilt, .func (PySem.W.fnOf "_law_spoilt" "_law_spoilt" (defArgs s_law_spoilt) (defBody s_law_spoilt) (defScope s_law_spoilt) .none kV_law_spoilt dc_law_spoilt pm_law_spoilt an_law_spoilt cd_law_spoilt ct_law_spoilt), sl_law_spoilt⟩)
    (c_law_spoilt : PySem.W.codeIn K cd_law_spoilt "_law_spoilt" = true)
    (kk_law_spoilt : PySem.W.keepIn K (.ref a_law_spoilt) = true)
    (l_law : K.lookup a_law = some ⟨oc_law, od_law, .func (PySem.W.fnOf "law" "law" (defArgs s_law) (defBody s_law) (defScope s_law) .none kV_law dc_law pm_law an_law cd_law ct_law), sl_law⟩)
    (c_law : PySem.W.codeIn K cd_law "law" = true)
    (kk_law : PySem.W.keepIn K (.ref a_law) = true)
    (pg_Machine : PySem.W.plainGet K c_Machine Str.empty = true)
    (hd_Machine : PySem.W.hasDictIn K c_Machine = true)
    (po_Machine : PySem.W.plainOver K c_Machine = true)
    (sa_Machine : PySem.W.findIn K (.ref c_Machine) "__setattr__" = some (some (.builtin "object.__setattr__")))
    (mi_Machine : PySem.W.makesIn K c_Machine = true)
    (kc_Machine : PySem.W.keepIn K (.ref c_Machine) = true)
    (fi_Machine : PySem.W.findIn K (.ref c_Machine) "__init__" = some (some (.ref a_Machine_init)))
    (if_Machine : PySem.W.isFn K (.ref a_Machine_init) = true)
    (nf_stands : PySem.W.findIn K (.ref c_Machine) "_stands" = some none)
    (nf_steps : PySem.W.findIn K (.ref c_Machine) "_steps" = some none)
    (nf_ends : PySem.W.findIn K (.ref c_Machine) "_ends" = some none)
    (pf_stands : PySem.W.findIn K (.ref c_Machine) "stands" = some (some (.ref q_stands)))
    (pt_stands : PySem.W.specialIn K (.ref q_stands) "__get__" = some (some (.builtin "property.__get__")))
    (pk_stands : PySem.W.takesIn K (.ref q_stands) = some true)
    (pr_stands : PySem.W.recIn K q_stands "property" = some (.ref a_Machine_stands :: rest_stands))
    (pf_steps : PySem.W.findIn K (.ref c_Machine) "steps" = some (some (.ref q_steps)))
    (pt_steps : PySem.W.specialIn K (.ref q_steps) "__get__" = some (some (.builtin "property.__get__")))
    (pk_steps : PySem.W.takesIn K (.ref q_steps) = some true)
    (pr_steps : PySem.W.recIn K q_steps "property" = some (.ref a_Machine_steps :: rest_steps))
    (pf_ends : PySem.W.findIn K (.ref c_Machine) "ends" = some (some (.ref q_ends)))
    (pt_ends : PySem.W.specialIn K (.ref q_ends) "__get__" = some (some (.builtin "property.__get__")))
    (pk_ends : PySem.W.takesIn K (.ref q_ends) = some true)
    (pr_ends : PySem.W.recIn K q_ends "property" = some (.ref a_Machine_ends :: rest_ends))
    (x_i1_Machine : PySem.W.findIn K (.ref c_Machine) "__class__" = some (some (.builtin "object.__class__")))
    (x_i2_Machine : PySem.W.specialIn K (.builtin "object.__class__") "__get__" = some (some (.builtin "getset_descriptor.__get__")))
    (x_i3_Machine : PySem.W.takesIn K (.builtin "object.__class__") = some true)
    (x_i4_Machine : PySem.W.mroIn K c_Machine (.type "object") = some true)
    (x_j1_Machine : PySem.W.isClsIn K c_Machine = true)
    (x_j2_Machine : PySem.W.typeIn K (.ref c_Machine) = some (.type "type"))
    (x_j3_Machine : PySem.W.findIn K (.ref c_Machine) "__eq__" = some (some (.ref a_Machine_eq)))
    (x_j4_Machine : PySem.W.isFn K (.ref a_Machine_eq) = true)
    (xx_BadStands : PySem.W.excIn K c_BadStands [.type "ValueError", .type "Exception", .type "BaseException", .type "object"] "ValueError.__new__" = true)
    (xk_BadStands : PySem.W.keepIn K (.ref c_BadStands) = true)
    (xb_BadStands : PySem.W.subIn K (.ref c_BadStands) (.type "BaseException") = some true)
    (xt_BadStands : PySem.W.typeIn K (.ref c_BadStands) = some (.type "type"))
    (xi_BadStands : PySem.W.isClsIn K c_BadStands = true)
    (xs_BadStands : PySem.W.subIn K (.ref c_BadStands) (.ref c_BadStands) = some true)
    (xx_BadEnds : PySem.W.excIn K c_BadEnds [.type "ValueError", .type "Exception", .type "BaseException", .type "object"] "ValueError.__new__" = true)
    (xk_BadEnds : PySem.W.keepIn K (.ref c_BadEnds) = true)
    (xb_BadEnds : PySem.W.subIn K (.ref c_BadEnds) (.type "BaseException") = some true)
    (xt_BadEnds : PySem.W.typeIn K (.ref c_BadEnds) = some (.type "type"))
    (xi_BadEnds : PySem.W.isClsIn K c_BadEnds = true)
    (xs_BadEnds : PySem.W.subIn K (.ref c_BadEnds) (.ref c_BadEnds) = some true)
    (lk_BadSteps : K.lookup c_BadSteps = some (excClassObj nm_BadSteps q_BadSteps c_BadSteps N_BadSteps bs_BadSteps [.ref r_BadSteps, .type "ValueError", .type "Exception", .type "BaseException", .type "object"] true sn_BadSteps sub_BadSteps ab_BadSteps col_BadSteps dd_BadSteps k0_BadSteps k1_BadSteps k2_BadSteps k3_BadSteps k5_BadSteps "ValueError.__new__"))
    (sa_BadSteps : PySem.W.findIn K (.ref c_BadSteps) "__setattr__" = some (some (.builtin "object.__setattr__")))
    (xk_BadSteps : PySem.W.keepIn K (.ref c_BadSteps) = true)
    (xb_BadSteps : PySem.W.subIn K (.ref c_BadSteps) (.type "BaseException") = some true)
    (xt_BadSteps : PySem.W.typeIn K (.ref c_BadSteps) = some (.type "type"))
    (xi_BadSteps : PySem.W.isClsIn K c_BadSteps = true)
    (xs_BadSteps : PySem.W.subIn K (.ref c_BadSteps) (.ref c_BadSteps) = some true)
    (ga_BadSteps : PySem.W.findIn K (.ref c_BadSteps) "__getattribute__" = some (some (.builtin "BaseException.__getattribute__")))
    (gg_BadSteps : PySem.W.findIn K (.ref c_BadSteps) "__getattr__" = some none)
    (hx_BadSteps : PySem.W.hasDictIn K c_BadSteps = true)
    (ie_BadSteps : PySem.W.findIn K (.ref c_BadSteps) "__init__" = some (some (.ref a_BadSteps_init)))
    (ti_BadSteps : PySem.W.typeIn K (.ref a_BadSteps_init) = some (.type "function"))
    (no_BadSteps_index : PySem.W.findIn K (.ref c_BadSteps) "index" = some none)
    (rd_TallyError : PySem.W.readsIn K c_TallyError (.type "type") = true)
    (fv_TallyError : PySem.W.findCls K (.ref c_TallyError) (.type "type") "__init__" = some (.val (.builtin "ValueError.__init__")))
    (sg_TallyError : PySem.W.specialIn K (.ref c_TallyError) "__getattribute__" = some (some (.builtin "type.__getattribute__")))
    (xs_BadSteps_BadStands : PySem.W.subIn K (.ref c_BadSteps) (.ref c_BadStands) = some false)
    (xs_BadEnds_BadStands : PySem.W.subIn K (.ref c_BadEnds) (.ref c_BadStands) = some false)
    (xs_BadEnds_BadSteps : PySem.W.subIn K (.ref c_BadEnds) (.ref c_BadSteps) = some false)
    (l_LETTERS : K.lookup a_LETTERS = some ⟨.type "tuple", od_LETTERS, .seq #[.str "a" w0_LETTERS, .str "b" w1_LETTERS, .str "c" w2_LETTERS, .str "d" w3_LETTERS] n_LETTERS, sl_LETTERS⟩) : Txt K mg :=
  Txt.mk (K := K) (mg := mg)
    (a_BadSteps_init)
    (_)
    (fun_mk (st := s_BadSteps_init) l_BadSteps_init c_BadSteps_init kk_BadSteps_init)
    ((fun_mk (st := s_BadSteps_init) l_BadSteps_init c_BadSteps_init kk_BadSteps_init).binds (ps := ["self", "index"]) bb_BadSteps_init)
    (kk_BadSteps_init)
    (a_Machine_init)
    (_)
    (fun_mk (st := s_Machine_init) l_Machine_init c_Machine_init kk_Machine_init)
    ((fun_mk (st := s_Machine_init) l_Machine_init c_Machine_init kk_Machine_init).binds (ps := ["self", "stands", "steps", "ends"]) bb_Machine_init)
    (kk_Machine_init)
    (a_Machine_stands)
    (_)
    (fun_mk (st := s_Machine_stands) l_Machine_stands c_Machine_stands kk_Machine_stands)
    ((fun_mk (st := s_Machine_stands) l_Machine_stands c_Machine_stands kk_Machine_stands).binds (ps := ["self"]) bb_Machine_stands)
    (kk_Machine_stands)
    (a_Machine_steps)
    (_)
    (fun_mk (st := s_Machine_steps) l_Machine_steps c_Machine_steps kk_Machine_steps)
    ((fun_mk (st := s_Machine_steps) l_Machine_steps c_Machine_steps kk_Machine_steps).binds (ps := ["self"]) bb_Machine_steps)
    (kk_Machine_steps)
    (a_Machine_ends)
    (_)
    (fun_mk (st := s_Machine_ends) l_Machine_ends c_Machine_ends kk_Machine_ends)
    ((fun_mk (st := s_Machine_ends) l_Machine_ends c_Machine_ends kk_Machine_ends).binds (ps := ["self"]) bb_Machine_ends)
    (kk_Machine_ends)
    (a_Machine_eq)
    (_)
    (fun_mk (st := s_Machine_eq) l_Machine_eq c_Machine_eq kk_Machine_eq)
    ((fun_mk (st := s_Machine_eq) l_Machine_eq c_Machine_eq kk_Machine_eq).binds (ps := ["self", "other"]) bb_Machine_eq)
    (kk_Machine_eq)
    (a_is_whole_number)
    (_)
    (fun_mk (st := s_is_whole_number) l_is_whole_number c_is_whole_number kk_is_whole_number)
    ((fun_mk (st := s_is_whole_number) l_is_whole_number c_is_whole_number kk_is_whole_number).binds (ps := ["value"]) bb_is_whole_number)
    (kk_is_whole_number)
    (PySem.W.mg_of X G g_is_whole_number)
    (a_is_integer_between)
    (_)
    (fun_mk (st := s_is_integer_between) l_is_integer_between c_is_integer_between kk_is_integer_between)
    ((fun_mk (st := s_is_integer_between) l_is_integer_between c_is_integer_between kk_is_integer_between).binds (ps := ["value", "least", "most"]) bb_is_integer_between)
    (kk_is_integer_between)
    (PySem.W.mg_of X G g_is_integer_between)
    (a_is_stand)
    (_)
    (fun_mk (st := s_is_stand) l_is_stand c_is_stand kk_is_stand)
    ((fun_mk (st := s_is_stand) l_is_stand c_is_stand kk_is_stand).binds (ps := ["stands", "value"]) bb_is_stand)
    (kk_is_stand)
    (PySem.W.mg_of X G g_is_stand)
    (a_check_stands)
    (_)
    (fun_mk (st := s_check_stands) l_check_stands c_check_stands kk_check_stands)
    ((fun_mk (st := s_check_stands) l_check_stands c_check_stands kk_check_stands).binds (ps := ["stands"]) bb_check_stands)
    (kk_check_stands)
    (PySem.W.mg_of X G g_check_stands)
    (a_is_step)
    (_)
    (fun_mk (st := s_is_step) l_is_step c_is_step kk_is_step)
    ((fun_mk (st := s_is_step) l_is_step c_is_step kk_is_step).binds (ps := ["stands", "value"]) bb_is_step)
    (kk_is_step)
    (PySem.W.mg_of X G g_is_step)
    (a_check_steps)
    (_)
    (fun_mk (st := s_check_steps) l_check_steps c_check_steps kk_check_steps)
    ((fun_mk (st := s_check_steps) l_check_steps c_check_steps kk_check_steps).binds (ps := ["stands", "steps"]) bb_check_steps)
    (kk_check_steps)
    (PySem.W.mg_of X G g_check_steps)
    (a_is_ascending)
    (_)
    (fun_mk (st := s_is_ascending) l_is_ascending c_is_ascending kk_is_ascending)
    ((fun_mk (st := s_is_ascending) l_is_ascending c_is_ascending kk_is_ascending).binds (ps := ["value", "many"]) bb_is_ascending)
    (kk_is_ascending)
    (PySem.W.mg_of X G g_is_ascending)
    (a_check_ends)
    (_)
    (fun_mk (st := s_check_ends) l_check_ends c_check_ends kk_check_ends)
    ((fun_mk (st := s_check_ends) l_check_ends c_check_ends kk_check_ends).binds (ps := ["stands", "ends"]) bb_check_ends)
    (kk_check_ends)
    (PySem.W.mg_of X G g_check_ends)
    (a_law_taken)
    (_)
    (fun_mk (st := s_law_taken) l_law_taken c_law_taken kk_law_taken)
    ((fun_mk (st := s_law_taken) l_law_taken c_law_taken kk_law_taken).binds (ps := ["_law_row", "_law_many"]) bb_law_taken)
    (kk_law_taken)
    (PySem.W.mg_of X G g_law_taken)
    (a_law_parts)
    (_)
    (fun_mk (st := s_law_parts) l_law_parts c_law_parts kk_law_parts)
    ((fun_mk (st := s_law_parts) l_law_parts c_law_parts kk_law_parts).binds (ps := ["_law_row", "_law_stands", "_law_size"]) bb_law_parts)
    (kk_law_parts)
    (PySem.W.mg_of X G g_law_parts)
    (a_law_machine)
    (_)
    (fun_mk (st := s_law_machine) l_law_machine c_law_machine kk_law_machine)
    ((fun_mk (st := s_law_machine) l_law_machine c_law_machine kk_law_machine).binds (ps := ["_law_d"]) bb_law_machine)
    (kk_law_machine)
    (PySem.W.mg_of X G g_law_machine)
    (a_law_refused)
    (_)
    (fun_mk (st := s_law_refused) l_law_refused c_law_refused kk_law_refused)
    ((fun_mk (st := s_law_refused) l_law_refused c_law_refused kk_law_refused).binds (ps := ["_law_stands", "_law_steps", "_law_ends"]) bb_law_refused)
    (kk_law_refused)
    (PySem.W.mg_of X G g_law_refused)
    (a_law_spoilt)
    (_)
    (fun_mk (st := s_law_spoilt) l_law_spoilt c_law_spoilt kk_law_spoilt)
    ((fun_mk (st := s_law_spoilt) l_law_spoilt c_law_spoilt kk_law_spoilt).binds (ps := ["_law_row", "_law_stands"]) bb_law_spoilt)
    (kk_law_spoilt)
    (PySem.W.mg_of X G g_law_spoilt)
    (a_law)
    (_)
    (fun_mk (st := s_law) l_law c_law kk_law)
    ((fun_mk (st := s_law) l_law c_law kk_law).binds (ps := ["_law_script"]) bb_law)
    (kk_law)
    (PySem.W.mg_of X G g_law)
    (c_Machine)
    (⟨pg_Machine, hd_Machine, po_Machine, sa_Machine⟩)
    (PySem.W.mg_of X G g_Machine)
    (⟨mi_Machine, fi_Machine, if_Machine, kc_Machine⟩)
    (nf_stands)
    (nf_steps)
    (nf_ends)
    (q_stands)
    (⟨pf_stands, pt_stands, pk_stands, ⟨_, pr_stands⟩⟩)
    (q_steps)
    (⟨pf_steps, pt_steps, pk_steps, ⟨_, pr_steps⟩⟩)
    (q_ends)
    (⟨pf_ends, pt_ends, pk_ends, ⟨_, pr_ends⟩⟩)
    (x_i1_Machine)
    (x_i2_Machine)
    (x_i3_Machine)
    (x_i4_Machine)
    (x_j1_Machine)
    (x_j2_Machine)
    (x_j3_Machine)
    (x_j4_Machine)
    (c_BadStands)
    (PySem.W.mg_of X G g_BadStands)
    (xx_BadStands)
    (xk_BadStands)
    (xb_BadStands)
    (xt_BadStands)
    (exc_self xb_BadStands xi_BadStands xt_BadStands xs_BadStands)
    (c_BadEnds)
    (PySem.W.mg_of X G g_BadEnds)
    (xx_BadEnds)
    (xk_BadEnds)
    (xb_BadEnds)
    (xt_BadEnds)
    (exc_self xb_BadEnds xi_BadEnds xt_BadEnds xs_BadEnds)
    (c_BadSteps)
    (PySem.W.mg_of X G g_BadSteps)
    (⟨⟨_, _, _, _, _, _, _, _, _, _, _, _, _, _, _, lk_BadSteps, rfl⟩, sa_BadSteps, xb_BadSteps, xt_BadSteps, xk_BadSteps⟩)
    (⟨ga_BadSteps, gg_BadSteps, xb_BadSteps, hx_BadSteps⟩)
    (ie_BadSteps)
    (ti_BadSteps)
    (exc_self xb_BadSteps xi_BadSteps xt_BadSteps xs_BadSteps)
    (no_BadSteps_index)
    (c_TallyError)
    (PySem.W.mg_of X G g_TallyError)
    (rd_TallyError)
    (fv_TallyError)
    (sg_TallyError)
    (exc_rel xb_BadStands xi_BadStands xt_BadStands xs_BadSteps_BadStands)
    (exc_rel xb_BadStands xi_BadStands xt_BadStands xs_BadEnds_BadStands)
    (exc_rel xb_BadSteps xi_BadSteps xt_BadSteps xs_BadEnds_BadSteps)
    (.int 8 t_MOST_STANDS)
    (PySem.W.mg_of X G g_MOST_STANDS)
    (⟨_, rfl⟩)
    (.int 1000000000000000000000000000000 t_MOST_GAIN)
    (PySem.W.mg_of X G g_MOST_GAIN)
    (⟨_, rfl⟩)
    (a_LETTERS)
    (PySem.W.mg_of X G g_LETTERS)
    (rfl)
    (fun H => .inr ⟨_, _, _, l_LETTERS, rfl, rfl, (by show 4 ≤ sizeLine; decide), (Paired.cons ⟨_, rfl⟩ (Paired.cons ⟨_, rfl⟩ (Paired.cons ⟨_, rfl⟩ (Paired.cons ⟨_, rfl⟩ Paired.nil))))⟩)
    (PySem.W.mg_none_of X G zz_bool)
    (PySem.W.mg_none_of X G zz_enumerate)
    (PySem.W.mg_none_of X G zz_int)
    (PySem.W.mg_none_of X G zz_isinstance)
    (PySem.W.mg_none_of X G zz_len)
    (PySem.W.mg_none_of X G zz_list)
    (PySem.W.mg_none_of X G zz_range)
    (PySem.W.mg_none_of X G zz_str)
    (PySem.W.mg_none_of X G zz_tuple)
    (fun s v => .of_eq rfl)
theorem all_mk {l : PySem.W.OpenLaw} {w : World} {K : PySem.W.Frag} {mg : Str → Option Value} {fa : Addr} (T : Txt K mg) (hfa : mg "law" = some (.ref fa)) :
    ∃ fd : FuncData, (∀ (s : Shared) (v : Value), BindsTo s fd ⟨[v], []⟩ [("_law_script", v)]) ∧ ∀ base : Heap, K.In base → base.Ns mainGlobals mg → FnOk l.prog w K mg base (L2.CX l.prog w) 11 fa fd ["_law_script"] (sp_law K) := by
  have e := hfa.symm.trans T.m_law
  cases e
  exact ⟨T.fd_law, T.bs_law, fun _ _ _ => ok_law T⟩
theorem walk {l : PySem.W.OpenLaw} {q : Program} {loose : List Str} {XP : (Str → Option Value) → Heap → Prop} {YP : World → Heap → Prop} {d : DefRec} {K : Params → PySem.W.Frag} (hn : l.most = some 63) (hdf : d.params.defaults = [])
    (hY : ∀ (w : World) (h : Heap), YP w h → (K w.params).In h)
    (F : ∀ (w : World) (mg : Str → Option Value) (fa : Addr) (h : Heap), (K w.params).In h → h.Ns mainGlobals mg → mg d.name = some (.ref fa) →
      ∃ fd : FuncData, (∀ (s : Shared) (u : Value), BindsTo s fd ⟨[u], []⟩ [("_law_script", u)]) ∧ ∀ base : Heap, (K w.params).In base → base.Ns mainGlobals mg → FnOk l.prog w (K w.params) mg base (L2.CX l.prog w) 11 fa fd ["_law_script"] (sp_law (K w.params))) :
    PySem.W.WalkO q loose XP YP l.row.toRowW d [] (fun f vs => PySem.call f vs) :=
  L2.walk_of (n := 63) (k := 11) (x := "_law_script") (CX := fun w => L2.CX l.prog w) (sp := fun w => sp_law (K w.params)) hn (by decide) hdf ⟨rfl, by decide, by decide⟩ hY F
    (fun _ H a ns hl hO hS => ⟨a, ns, rfl, by
      rcases hS with (e | ⟨o, e⟩) | h
      · rcases hO a with z | ⟨_, _, z⟩
        · rw [e] at z; cases z
        · rw [e] at z; cases z
      · exact .inl ⟨o, e⟩
      · exact .inr fun _ => .inr h, hl, fun _ => rfl⟩)
    fun _ _ _ _ _ h => by
      obtain ⟨_, _, _, _, _, _, _, _, _, _, _, _, z⟩ := h
      exact z.elim
end Sv
open PySem PySem.W PyProof.Rows in
set_option maxRecDepth 100000 in
set_option maxHeartbeats 0 in
theorem PySem.Challenge.cw_staytallies_k01_machines_refused_holds : PySem.Challenge.rw_staytallies_k01_machines_refused.Holds := by
  w_on; o_law; k_head; (case hw => w_witness2)
  k_fill
  refine Sv.walk (l := PySem.Challenge.rw_staytallies_k01_machines_refused) rfl rfl (fun w h Y => PySem.W.kIn_of Y) ?F
  case F =>
    intro w mg fa h KX G hmg
    refine' Sv.all_mk (Sv.txt_mk KX G ?g_is_whole_number ?g_is_integer_between ?g_is_stand ?g_check_stands ?g_is_step ?g_check_steps ?g_is_ascending ?g_check_ends ?g_law_taken ?g_law_parts ?g_law_machine ?g_law_refused ?g_law_spoilt ?g_law ?g_Machine ?g_BadStands ?g_BadEnds ?g_BadSteps ?g_TallyError ?g_MOST_STANDS ?g_MOST_GAIN ?g_LETTERS ?zz_bool ?zz_enumerate ?zz_int ?zz_isinstance ?zz_len ?zz_list ?zz_range ?zz_str ?zz_tuple ?l_BadSteps_init ?c_BadSteps_init ?kk_BadSteps_init ?l_Machine_init ?c_Machine_init ?kk_Machine_init ?l_Machine_stands ?c_Machine_stands ?kk_Machine_stands ?l_Machine_steps ?c_Machine_steps ?kk_Machine_steps ?l_Machine_ends ?c_Machine_ends ?kk_Machine_ends ?l_Machine_eq ?c_Machine_eq ?kk_Machine_eq ?l_is_whole_number ?c_is_whole_number ?kk_is_whole_number ?l_is_integer_between ?c_is_integer_between ?kk_is_integer_between ?l_is_stand ?c_is_stand ?kk_is_stand ?l_check_stands ?c_check_stands ?kk_check_stands ?l_is_step ?c_is_step ?kk_is_step ?l_check_steps ?c_check_steps ?kk_check_steps ?l_is_ascending ?c_is_ascending ?kk_is_ascending ?l_check_ends ?c_check_ends ?kk_check_ends ?l_law_taken ?c_law_taken ?kk_law_taken ?l_law_parts ?c_law_parts ?kk_law_parts ?l_law_machine ?c_law_machine ?kk_law_machine ?l_law_refused ?c_law_refused ?kk_law_refused ?l_law_spoilt ?c_law_spoilt ?kk_law_spoilt ?l_law ?c_law ?kk_law ?pg_Machine ?hd_Machine ?po_Machine ?sa_Machine ?mi_Machine ?kc_Machine ?fi_Machine ?if_Machine ?nf_stands ?nf_steps ?nf_ends ?pf_stands ?pt_stands ?pk_stands ?pr_stands ?pf_steps ?pt_steps ?pk_steps ?pr_steps ?pf_ends ?pt_ends ?pk_ends ?pr_ends ?x_i1_Machine ?x_i2_Machine ?x_i3_Machine ?x_i4_Machine ?x_j1_Machine ?x_j2_Machine ?x_j3_Machine ?x_j4_Machine ?xx_BadStands ?xk_BadStands ?xb_BadStands ?xt_BadStands ?xi_BadStands ?xs_BadStands ?xx_BadEnds ?xk_BadEnds ?xb_BadEnds ?xt_BadEnds ?xi_BadEnds ?xs_BadEnds ?lk_BadSteps ?sa_BadSteps ?xk_BadSteps ?xb_BadSteps ?xt_BadSteps ?xi_BadSteps ?xs_BadSteps ?ga_BadSteps ?gg_BadSteps ?hx_BadSteps ?ie_BadSteps ?ti_BadSteps ?no_BadSteps_index ?rd_TallyError ?fv_TallyError ?sg_TallyError ?xs_BadSteps_BadStands ?xs_BadEnds_BadStands ?xs_BadEnds_BadSteps ?l_LETTERS) hmg
    (case g_is_whole_number => k_is)
    (case g_is_integer_between => k_is)
    (case g_is_stand => k_is)
    (case g_check_stands => k_is)
    (case g_is_step => k_is)
    (case g_check_steps => k_is)
    (case g_is_ascending => k_is)
    (case g_check_ends => k_is)
    (case g_law_taken => k_is)
    (case g_law_parts => k_is)
    (case g_law_machine => k_is)
    (case g_law_refused => k_is)
    (case g_law_spoilt => k_is)
    (case g_law => k_is)
    (case g_Machine => k_is)
    (case g_BadStands => k_is)
    (case g_BadEnds => k_is)
    (case g_BadSteps => k_is)
    (case g_TallyError => k_is)
    (case g_MOST_STANDS => k_is)
    (case g_MOST_GAIN => k_is)
    (case g_LETTERS => k_is)
    (case zz_bool => k_is)
    (case zz_enumerate => k_is)
    (case zz_int => k_is)
    (case zz_isinstance => k_is)
    (case zz_len => k_is)
    (case zz_list => k_is)
    (case zz_range => k_is)
    (case zz_str => k_is)
    (case zz_tuple => k_is)
    (case pg_Machine => k_is)
    (case hd_Machine => k_is)
    (case po_Machine => k_is)
    (case sa_Machine => k_is)
    (case mi_Machine => k_is)
    (case kc_Machine => k_is)
    (case fi_Machine => k_is)
    (case if_Machine => k_is)
    (case nf_stands => k_is)
    (case nf_steps => k_is)
    (case nf_ends => k_is)
    (case pf_stands => k_is)
    (case pt_stands => k_is)
    (case pk_stands => k_is)
    (case pr_stands => k_is)
    (case pf_steps => k_is)
    (case pt_steps => k_is)
    (case pk_steps => k_is)
    (case pr_steps => k_is)
    (case pf_ends => k_is)
    (case pt_ends => k_is)
    (case pk_ends => k_is)
    (case pr_ends => k_is)
    (case x_i1_Machine => k_is)
    (case x_i2_Machine => k_is)
    (case x_i3_Machine => k_is)
    (case x_i4_Machine => k_is)
    (case x_j1_Machine => k_is)
    (case x_j2_Machine => k_is)
    (case x_j3_Machine => k_is)
    (case x_j4_Machine => k_is)
    (case xx_BadStands => k_exc)
    (case xk_BadStands => k_is)
    (case xb_BadStands => k_is)
    (case xt_BadStands => k_is)
    (case xi_BadStands => k_is)
    (case xs_BadStands => first | rfl | k_is)
    (case xx_BadEnds => k_exc)
    (case xk_BadEnds => k_is)
    (case xb_BadEnds => k_is)
    (case xt_BadEnds => k_is)
    (case xi_BadEnds => k_is)
    (case xs_BadEnds => first | rfl | k_is)
    (case lk_BadSteps => k_is)
    (case sa_BadSteps => k_is)
    (case xk_BadSteps => k_is)
    (case xb_BadSteps => k_is)
    (case xt_BadSteps => k_is)
    (case xi_BadSteps => k_is)
    (case xs_BadSteps => first | rfl | k_is)
    (case ga_BadSteps => k_is)
    (case gg_BadSteps => k_is)
    (case hx_BadSteps => k_is)
    (case ie_BadSteps => k_is)
    (case ti_BadSteps => k_is)
    (case no_BadSteps_index => k_is)
    (case rd_TallyError => k_is)
    (case fv_TallyError => k_is)
    (case sg_TallyError => k_is)
    (case xs_BadSteps_BadStands => first | rfl | k_is)
    (case xs_BadEnds_BadStands => first | rfl | k_is)
    (case xs_BadEnds_BadSteps => first | rfl | k_is)
    (case l_LETTERS => k_is)
    (case l_BadSteps_init => k_is)
    (case c_BadSteps_init => k_is)
    (case kk_BadSteps_init => k_is)
    (case l_Machine_init => k_is)
    (case c_Machine_init => k_is)
    (case kk_Machine_init => k_is)
    (case l_Machine_stands => k_is)
    (case c_Machine_stands => k_is)
    (case kk_Machine_stands => k_is)
    (case l_Machine_steps => k_is)
    (case c_Machine_steps => k_is)
    (case kk_Machine_steps => k_is)
    (case l_Machine_ends => k_is)
    (case c_Machine_ends => k_is)
    (case kk_Machine_ends => k_is)
    (case l_Machine_eq => k_is)
    (case c_Machine_eq => k_is)
    (case kk_Machine_eq => k_is)
    (case l_is_whole_number => k_is)
    (case c_is_whole_number => k_is)
    (case kk_is_whole_number => k_is)
    (case l_is_integer_between => k_is)
    (case c_is_integer_between => k_is)
    (case kk_is_integer_between => k_is)
    (case l_is_stand => k_is)
    (case c_is_stand => k_is)
    (case kk_is_stand => k_is)
    (case l_check_stands => k_is)
    (case c_check_stands => k_is)
    (case kk_check_stands => k_is)
    (case l_is_step => k_is)
    (case c_is_step => k_is)
    (case kk_is_step => k_is)
    (case l_check_steps => k_is)
    (case c_check_steps => k_is)
    (case kk_check_steps => k_is)
    (case l_is_ascending => k_is)
    (case c_is_ascending => k_is)
    (case kk_is_ascending => k_is)
    (case l_check_ends => k_is)
    (case c_check_ends => k_is)
    (case kk_check_ends => k_is)
    (case l_law_taken => k_is)
    (case c_law_taken => k_is)
    (case kk_law_taken => k_is)
    (case l_law_parts => k_is)
    (case c_law_parts => k_is)
    (case kk_law_parts => k_is)
    (case l_law_machine => k_is)
    (case c_law_machine => k_is)
    (case kk_law_machine => k_is)
    (case l_law_refused => k_is)
    (case c_law_refused => k_is)
    (case kk_law_refused => k_is)
    (case l_law_spoilt => k_is)
    (case c_law_spoilt => k_is)
    (case kk_law_spoilt => k_is)
    (case l_law => k_is)
    (case c_law => k_is)
    (case kk_law => k_is)
#print axioms PySem.Challenge.cw_staytallies_k01_machines_refused_holds
