import PyProof.Rows.All
import Wide.All
import OpenK.AllK
import Wide.FinOn
import HandS.ForMost
import HandS.ForExc
import HandS.Wide
import HandS.Property
import HandS.IsInst
import HandS.TupAny
import HandS.TupLe
import HandS.Style
import HandS.Flow
import HandS.ExcInit
import HandS.ExcField
import HandS.FStr
import HandS.OwnEq
import KE.GoesMore
import HandS.Codes
import HandS.DictComp
import HandS.Walk
import HandS.SortInts
import HandS.TupMul
import HandS.Gcd
import HandS.Head3
import HandS.HeadHook2
import PySem.Challenge.RW_staytallies_k20_whole_first_apart
set_option Elab.async false
set_option linter.all false
set_option maxRecDepth 100000
set_option maxHeartbeats 4000000
namespace Sv
open PySem L2
def top (i : Nat) : Stmt := PySem.Challenge.pw_staytallies_k20_whole_first_apart.main.body.getD i (.Pass ⟨0, 0, 0, 0⟩)
abbrev s_first_row_out : Stmt := (top 7)
abbrev s_Machine_init : Stmt := (inClass (top 12) 0)
abbrev s_Machine_stands : Stmt := (inClass (top 12) 1)
abbrev s_Machine_steps : Stmt := (inClass (top 12) 2)
abbrev s_is_whole_number : Stmt := (top 13)
abbrev s_is_integer_between : Stmt := (top 14)
abbrev s_is_stand : Stmt := (top 15)
abbrev s_check_stands : Stmt := (top 16)
abbrev s_is_step : Stmt := (top 17)
abbrev s_check_steps : Stmt := (top 18)
abbrev s_is_ascending : Stmt := (top 19)
abbrev s_check_ends : Stmt := (top 20)
abbrev s_check_machine : Stmt := (top 21)
abbrev s_moves_of : Stmt := (top 22)
abbrev s_moves_from : Stmt := (top 24)
abbrev s_first_apart : Stmt := (top 25)
abbrev s_law_taken : Stmt := (top 27)
abbrev s_law_parts : Stmt := (top 28)
abbrev s_law_machine : Stmt := (top 29)
abbrev s_law_next : Stmt := (top 30)
abbrev s_law_like : Stmt := (top 31)
abbrev s_law : Stmt := (top 32)
theorem sc_first_row_out : FnScope ["moves", "begin", "seen", "layer", "longer", "place", "row", "letter", "end"] ["moves", "begin"] (defScope s_first_row_out) := ⟨rfl, rfl, rfl, by decide +kernel, rfl, by decide +kernel, by decide +kernel⟩
theorem sc_Machine_init : FnScope ["self", "stands", "steps", "ends"] ["self", "stands", "steps", "ends"] (defScope s_Machine_init) := ⟨rfl, rfl, rfl, by decide +kernel, rfl, by decide +kernel, by decide +kernel⟩
theorem sc_Machine_stands : FnScope ["self"] ["self"] (defScope s_Machine_stands) := ⟨rfl, rfl, rfl, by decide +kernel, rfl, by decide +kernel, by decide +kernel⟩
theorem sc_Machine_steps : FnScope ["self"] ["self"] (defScope s_Machine_steps) := ⟨rfl, rfl, rfl, by decide +kernel, rfl, by decide +kernel, by decide +kernel⟩
theorem sc_is_whole_number : FnScope ["value"] ["value"] (defScope s_is_whole_number) := ⟨rfl, rfl, rfl, by decide +kernel, rfl, by decide +kernel, by decide +kernel⟩
theorem sc_is_integer_between : FnScope ["value", "least", "most"] ["value", "least", "most"] (defScope s_is_integer_between) := ⟨rfl, rfl, rfl, by decide +kernel, rfl, by decide +kernel, by decide +kernel⟩
theorem sc_is_stand : FnScope ["stands", "value"] ["stands", "value"] (defScope s_is_stand) := ⟨rfl, rfl, rfl, by decide +kernel, rfl, by decide +kernel, by decide +kernel⟩
theorem sc_check_stands : FnScope ["stands"] ["stands"] (defScope s_check_stands) := ⟨rfl, rfl, rfl, by decide +kernel, rfl, by decide +kernel, by decide +kernel⟩
theorem sc_is_step : FnScope ["stands", "value", "begun", "letter", "end", "gain"] ["stands", "value"] (defScope s_is_step) := ⟨rfl, rfl, rfl, by decide +kernel, rfl, by decide +kernel, by decide +kernel⟩
theorem sc_check_steps : FnScope ["stands", "steps", "index", "step"] ["stands", "steps"] (defScope s_check_steps) := ⟨rfl, rfl, rfl, by decide +kernel, rfl, by decide +kernel, by decide +kernel⟩
theorem sc_is_ascending : FnScope ["value", "many", "least", "number"] ["value", "many"] (defScope s_is_ascending) := ⟨rfl, rfl, rfl, by decide +kernel, rfl, by decide +kernel, by decide +kernel⟩
theorem sc_check_ends : FnScope ["stands", "ends"] ["stands", "ends"] (defScope s_check_ends) := ⟨rfl, rfl, rfl, by decide +kernel, rfl, by decide +kernel, by decide +kernel⟩
theorem sc_check_machine : FnScope ["value"] ["value"] (defScope s_check_machine) := ⟨rfl, rfl, rfl, by decide +kernel, rfl, by decide +kernel, by decide +kernel⟩
theorem sc_moves_of : FnScope ["machine", "begun", "letter", "end", "gain"] ["machine"] (defScope s_moves_of) := ⟨rfl, rfl, rfl, by decide +kernel, rfl, by decide +kernel, by decide +kernel⟩
theorem sc_moves_from : FnScope ["one_moves", "other_moves", "begun", "start", "moves", "letter", "end", "gain", "goal", "same"] ["one_moves", "other_moves", "begun", "start"] (defScope s_moves_from) := ⟨rfl, rfl, rfl, by decide +kernel, rfl, by decide +kernel, by decide +kernel⟩
theorem sc_first_apart : FnScope ["one", "other", "one_moves", "other_moves", "moves", "begun", "start"] ["one", "other"] (defScope s_first_apart) := ⟨rfl, rfl, rfl, by decide +kernel, rfl, by decide +kernel, by decide +kernel⟩
theorem sc_law_taken : FnScope ["_law_row", "_law_many", "_law_found", "_law_cell"] ["_law_row", "_law_many"] (defScope s_law_taken) := ⟨rfl, rfl, rfl, by decide +kernel, rfl, by decide +kernel, by decide +kernel⟩
theorem sc_law_parts : FnScope ["_law_row", "_law_stands", "_law_size", "_law_many", "_law_kind", "_law_heights", "_law_steps", "_law_letters", "_law_begun", "_law_letter", "_law_end", "_law_gain", "_law_ends", "_law_stand"] ["_law_row", "_law_stands", "_law_size"] (defScope s_law_parts) := ⟨rfl, rfl, rfl, by decide +kernel, rfl, by decide +kernel, by decide +kernel⟩
theorem sc_law_machine : FnScope ["_law_d"] ["_law_d"] (defScope s_law_machine) := ⟨rfl, rfl, rfl, by decide +kernel, rfl, by decide +kernel, by decide +kernel⟩
theorem sc_law_next : FnScope ["_law_d", "_law_stand", "_law_begun", "_law_letter", "_law_end", "_law_gain"] ["_law_d", "_law_stand"] (defScope s_law_next) := ⟨rfl, rfl, rfl, by decide +kernel, rfl, by decide +kernel, by decide +kernel⟩
theorem sc_law_like : FnScope ["_law_row", "_law_d", "_law_kind", "_law_turned", "_law_steps", "_law_at", "_law_begun", "_law_letter", "_law_end", "_law_gain", "_law_stand"] ["_law_row", "_law_d"] (defScope s_law_like) := ⟨rfl, rfl, rfl, by decide +kernel, rfl, by decide +kernel, by decide +kernel⟩
theorem sc_law : FnScope ["_law_script", "_law_row", "_law_d", "_law_other", "_law_due", "_law_level", "_law_known", "_law_later", "_law_word", "_law_left", "_law_right", "_law_letter", "_law_here", "_law_there", "_law_one", "_law_two", "_law_step"] ["_law_script"] (defScope s_law) := ⟨rfl, rfl, rfl, by decide +kernel, rfl, by decide +kernel, by decide +kernel⟩
structure Txt (K : PySem.W.Frag) (mg : Str → Option Value) : Type where
  a_first_row_out : Addr
  fd_first_row_out : FuncData
  F_first_row_out : Fun K "first_row_out" "first_row_out" s_first_row_out a_first_row_out fd_first_row_out
  b_first_row_out : Binds K fd_first_row_out ["moves", "begin"] []
  k_first_row_out : PySem.W.keepIn K (.ref a_first_row_out) = true
  m_first_row_out : mg "first_row_out" = some (.ref a_first_row_out)
  a_Machine_init : Addr
  fd_Machine_init : FuncData
  F_Machine_init : Fun K "__init__" "Machine.__init__" s_Machine_init a_Machine_init fd_Machine_init
  b_Machine_init : Binds K fd_Machine_init ["self", "stands", "steps", "ends"] []
  k_Machine_init : PySem.W.keepIn K (.ref a_Machine_init) = true
  a_Machine_stands : Addr
  fd_Machine_stands : FuncData
  F_Machine_stands : Fun K "stands" "Machine.stands" s_Machine_stands a_Machine_stands fd_Machine_stands
  b_Machine_stands : Binds K fd_Machine_stands ["self"] []
  k_Machine_stands : PySem.W.keepIn K (.ref a_Machine_stands) = true
  a_Machine_steps : Addr
  fd_Machine_steps : FuncData
  F_Machine_steps : Fun K "steps" "Machine.steps" s_Machine_steps a_Machine_steps fd_Machine_steps
  b_Machine_steps : Binds K fd_Machine_steps ["self"] []
  k_Machine_steps : PySem.W.keepIn K (.ref a_Machine_steps) = true
  a_is_whole_number : Addr
  fd_is_whole_number : FuncData
  F_is_whole_number : Fun K "is_whole_number" "is_whole_number" s_is_whole_number a_is_whole_number fd_is_whole_number
  b_is_whole_number : Binds K fd_is_whole_number ["value"] []
  k_is_whole_number : PySem.W.keepIn K (.ref a_is_whole_number) = true
  m_is_whole_number : mg "is_whole_number" = some (.ref a_is_whole_number)
  a_is_integer_between : Addr
  fd_is_integer_between : FuncData
  F_is_integer_between : Fun K "is_integer_between" "is_integer_between" s_is_integer_between a_is_integer_between fd_is_integer_between
  b_is_integer_between : Binds K fd_is_integer_between ["value", "least", "most"] []
  k_is_integer_between : PySem.W.keepIn K (.ref a_is_integer_between) = true
  m_is_integer_between : mg "is_integer_between" = some (.ref a_is_integer_between)
  a_is_stand : Addr
  fd_is_stand : FuncData
  F_is_stand : Fun K "_is_stand" "_is_stand" s_is_stand a_is_stand fd_is_stand
  b_is_stand : Binds K fd_is_stand ["stands", "value"] []
  k_is_stand : PySem.W.keepIn K (.ref a_is_stand) = true
  m_is_stand : mg "_is_stand" = some (.ref a_is_stand)
  a_check_stands : Addr
  fd_check_stands : FuncData
  F_check_stands : Fun K "_check_stands" "_check_stands" s_check_stands a_check_stands fd_check_stands
  b_check_stands : Binds K fd_check_stands ["stands"] []
  k_check_stands : PySem.W.keepIn K (.ref a_check_stands) = true
  m_check_stands : mg "_check_stands" = some (.ref a_check_stands)
  a_is_step : Addr
  fd_is_step : FuncData
  F_is_step : Fun K "_is_step" "_is_step" s_is_step a_is_step fd_is_step
  b_is_step : Binds K fd_is_step ["stands", "value"] []
  k_is_step : PySem.W.keepIn K (.ref a_is_step) = true
  m_is_step : mg "_is_step" = some (.ref a_is_step)
  a_check_steps : Addr
  fd_check_steps : FuncData
  F_check_steps : Fun K "_check_steps" "_check_steps" s_check_steps a_check_steps fd_check_steps
  b_check_steps : Binds K fd_check_steps ["stands", "steps"] []
  k_check_steps : PySem.W.keepIn K (.ref a_check_steps) = true
  m_check_steps : mg "_check_steps" = some (.ref a_check_steps)
  a_is_ascending : Addr
  fd_is_ascending : FuncData
  F_is_ascending : Fun K "is_ascending" "is_ascending" s_is_ascending a_is_ascending fd_is_ascending
  b_is_ascending : Binds K fd_is_ascending ["value", "many"] []
  k_is_ascending : PySem.W.keepIn K (.ref a_is_ascending) = true
  m_is_ascending : mg "is_ascending" = some (.ref a_is_ascending)
  a_check_ends : Addr
  fd_check_ends : FuncData
  F_check_ends : Fun K "_check_ends" "_check_ends" s_check_ends a_check_ends fd_check_ends
  b_check_ends : Binds K fd_check_ends ["stands", "ends"] []
  k_check_ends : PySem.W.keepIn K (.ref a_check_ends) = true
  m_check_ends : mg "_check_ends" = some (.ref a_check_ends)
  a_check_machine : Addr
  fd_check_machine : FuncData
  F_check_machine : Fun K "check_machine" "check_machine" s_check_machine a_check_machine fd_check_machine
  b_check_machine : Binds K fd_check_machine ["value"] []
  k_check_machine : PySem.W.keepIn K (.ref a_check_machine) = true
  m_check_machine : mg "check_machine" = some (.ref a_check_machine)
  a_moves_of : Addr
  fd_moves_of : FuncData
  F_moves_of : Fun K "moves_of" "moves_of" s_moves_of a_moves_of fd_moves_of
  b_moves_of : Binds K fd_moves_of ["machine"] []
  k_moves_of : PySem.W.keepIn K (.ref a_moves_of) = true
  m_moves_of : mg "moves_of" = some (.ref a_moves_of)
  a_moves_from : Addr
  fd_moves_from : FuncData
  F_moves_from : Fun K "_moves_from" "_moves_from" s_moves_from a_moves_from fd_moves_from
  b_moves_from : Binds K fd_moves_from ["one_moves", "other_moves", "begun", "start"] []
  k_moves_from : PySem.W.keepIn K (.ref a_moves_from) = true
  m_moves_from : mg "_moves_from" = some (.ref a_moves_from)
  a_first_apart : Addr
  fd_first_apart : FuncData
  F_first_apart : Fun K "first_apart" "first_apart" s_first_apart a_first_apart fd_first_apart
  b_first_apart : Binds K fd_first_apart ["one", "other"] []
  k_first_apart : PySem.W.keepIn K (.ref a_first_apart) = true
  m_first_apart : mg "first_apart" = some (.ref a_first_apart)
  a_law_taken : Addr
  fd_law_taken : FuncData
  F_law_taken : Fun K "_law_taken" "_law_taken" s_law_taken a_law_taken fd_law_taken
  b_law_taken : Binds K fd_law_taken ["_law_row", "_law_many"] []
  k_law_taken : PySem.W.keepIn K (.ref a_law_taken) = true
  m_law_taken : mg "_law_taken" = some (.ref a_law_taken)
  a_law_parts : Addr
  fd_law_parts : FuncData
  F_law_parts : Fun K "_law_parts" "_law_parts" s_law_parts a_law_parts fd_law_parts
  b_law_parts : Binds K fd_law_parts ["_law_row", "_law_stands", "_law_size"] []
  k_law_parts : PySem.W.keepIn K (.ref a_law_parts) = true
  m_law_parts : mg "_law_parts" = some (.ref a_law_parts)
  a_law_machine : Addr
  fd_law_machine : FuncData
  F_law_machine : Fun K "_law_machine" "_law_machine" s_law_machine a_law_machine fd_law_machine
  b_law_machine : Binds K fd_law_machine ["_law_d"] []
  k_law_machine : PySem.W.keepIn K (.ref a_law_machine) = true
  m_law_machine : mg "_law_machine" = some (.ref a_law_machine)
  a_law_next : Addr
  fd_law_next : FuncData
  F_law_next : Fun K "_law_next" "_law_next" s_law_next a_law_next fd_law_next
  b_law_next : Binds K fd_law_next ["_law_d", "_law_stand"] []
  k_law_next : PySem.W.keepIn K (.ref a_law_next) = true
  m_law_next : mg "_law_next" = some (.ref a_law_next)
  a_law_like : Addr
  fd_law_like : FuncData
  F_law_like : Fun K "_law_like" "_law_like" s_law_like a_law_like fd_law_like
  b_law_like : Binds K fd_law_like ["_law_row", "_law_d"] []
  k_law_like : PySem.W.keepIn K (.ref a_law_like) = true
  m_law_like : mg "_law_like" = some (.ref a_law_like)
  a_law : Addr
  fd_law : FuncData
  F_law : Fun K "law" "law" s_law a_law fd_law
  b_law : Binds K fd_law ["_law_script"] []
  k_law : PySem.W.keepIn K (.ref a_law) = true
  m_law : mg "law" = some (.ref a_law)
  c_Machine : Addr
  cl_Machine : Cls K c_Machine
  m_Machine : mg "Machine" = some (.ref c_Machine)
  mk_Machine : Mk K c_Machine a_Machine_init
  n__stands : NoAttr K c_Machine "_stands"
  n__steps : NoAttr K c_Machine "_steps"
  n__ends : NoAttr K c_Machine "_ends"
  q_stands : Addr
  p_stands : PropOf K c_Machine "stands" q_stands a_Machine_stands
  q_steps : Addr
  p_steps : PropOf K c_Machine "steps" q_steps a_Machine_steps
  i1_Machine : PySem.W.findIn K (.ref c_Machine) "__class__" = some (some (.builtin "object.__class__"))
  i2_Machine : PySem.W.specialIn K (.builtin "object.__class__") "__get__" = some (some (.builtin "getset_descriptor.__get__"))
  i3_Machine : PySem.W.takesIn K (.builtin "object.__class__") = some true
  i4_Machine : PySem.W.mroIn K c_Machine (.type "object") = some true
  u_MOST_STANDS : Value
  m_MOST_STANDS : mg "MOST_STANDS" = some u_MOST_STANDS
  r_MOST_STANDS : RelV (V.int 8) u_MOST_STANDS
  u_MOST_GAIN : Value
  m_MOST_GAIN : mg "MOST_GAIN" = some u_MOST_GAIN
  r_MOST_GAIN : RelV (V.int 1000000000000000000000000000000) u_MOST_GAIN
  a_LETTERS : Addr
  m_LETTERS : mg "LETTERS" = some (.ref a_LETTERS)
  r_LETTERS : RelV (V.ref a_LETTERS) (.ref a_LETTERS)
  s_LETTERS : ∀ H : Hp, SqT K H a_LETTERS [V.str "a", V.str "b", V.str "c", V.str "d"]
  z_bool : mg "bool" = none
  z_enumerate : mg "enumerate" = none
  z_int : mg "int" = none
  z_isinstance : mg "isinstance" = none
  z_len : mg "len" = none
  z_list : mg "list" = none
  z_max : mg "max" = none
  z_range : mg "range" = none
  z_sorted : mg "sorted" = none
  z_str : mg "str" = none
  z_tuple : mg "tuple" = none
  bs_law : ∀ (s : Shared) (v : Value), BindsTo s fd_law ⟨[v], []⟩ [("_law_script", v)]
/-! ### heaps -/
/-- all but a stands as it was -/
def Keep (a : Addr) (H H' : Hp) : Prop := ∀ b o, b ≠ a → H b = some o → H' b = some o
theorem Keep.refl (a : Addr) (H : Hp) : Keep a H H := fun _ _ _ h => h
theorem Keep.trans {a : Addr} {H H1 H2 : Hp} (x : Keep a H H1) (y : Keep a H1 H2) : Keep a H H2 := fun b o n h => y b o n (x b o n h)
theorem Keep.at_ {a : Addr} {H : Hp} {o : HO} : Keep a H (upd H a o) := fun b u n h => by rw [upd_ne n]; exact h
theorem Keep.new {a p : Addr} {H : Hp} {o : HO} (hp : H p = none) : Keep a H (upd H p o) := fun b u _ h => by rw [upd_ne (ne_of_none h hp)]; exact h
theorem Keep.of_same {a : Addr} {H H' : Hp} (x : Same H H') : Keep a H H' := fun b o _ h => x b o h
theorem Same.new {p : Addr} {H : Hp} {o : HO} (hp : H p = none) : Same H (upd H p o) := fun b u h => by rw [upd_ne (ne_of_none h hp)]; exact h
theorem Keep.free {a p : Addr} {H H' : Hp} (x : Keep a H H') (n : p ≠ a) (h : H' p = none) : H p = none := by
  cases q : H p with
  | none => rfl
  | some o => rw [x p o n q] at h; cases h
/-- what H does not know may change -/
theorem Keep.mut {a p : Addr} {H H' : Hp} {o : HO} (x : Keep a H H') (hp : H p = none) : Keep a H (upd H' p o) := fun b u n h => by rw [upd_ne (ne_of_none h hp)]; exact x b u n h
theorem Keep.tup {K : PySem.W.Frag} {a b : Addr} {H H' : Hp} {xs : List V} (x : Keep a H H') (ha : ∃ l, H a = some (.lst l)) (h : SqT K H b xs) : SqT K H' b xs := by
  obtain ⟨l, ha⟩ := ha
  rcases h with (h | ⟨o, h⟩) | h
  · exact .inl (.inl (x _ _ (fun e => by rw [e, ha] at h; cases h) h))
  · exact .inl (.inr ⟨o, x _ _ (fun e => by rw [e, ha] at h; cases h) h⟩)
  · exact .inr h
theorem Keep.lst {K : PySem.W.Frag} {a b : Addr} {H H' : Hp} {xs : List V} (x : Keep a H H') (n : b ≠ a) (h : SqL K H b xs) : SqL K H' b xs := by
  rcases h with (h | ⟨o, h⟩) | h
  · exact .inl (.inl (x _ _ n h))
  · exact .inl (.inr ⟨o, x _ _ n h⟩)
  · exact .inr h
/-- the script: known to the object, or of the written part -/
def ScAt (K : PySem.W.Frag) (H : Hp) (b : Addr) (xs : List V) : Prop := (∃ o, H b = some (.frz o (.lst xs))) ∨ ∀ H', SqL K H' b xs
theorem ScAt.sq {K : PySem.W.Frag} {H : Hp} {b : Addr} {xs : List V} (h : ScAt K H b xs) : SqL K H b xs := by
  rcases h with ⟨o, h⟩ | h
  · exact .inl (.inr ⟨o, h⟩)
  · exact h H
theorem ScAt.keep {K : PySem.W.Frag} {a b : Addr} {H H' : Hp} {xs l : List V} (h : ScAt K H b xs) (k : Keep a H H') (ha : H a = some (.lst l)) : ScAt K H' b xs := by
  rcases h with ⟨o, h⟩ | h
  · exact .inl ⟨o, k _ _ (fun z => by rw [z, ha] at h; cases h) h⟩
  · exact .inr h
theorem ScAt.same {K : PySem.W.Frag} {b : Addr} {H H' : Hp} {xs : List V} (h : ScAt K H b xs) (k : Same H H') : ScAt K H' b xs := by
  rcases h with ⟨o, h⟩ | h
  · exact .inl ⟨o, k _ _ h⟩
  · exact .inr h
/-- the draws' row at a: the script, how many were read, the mixed number, the rest -/
def RowOk (K : PySem.W.Frag) (H : Hp) (a : Addr) : Prop := ∃ (sc : Addr) (ns : List Int) (i z r : Int), H a = some (.lst [.ref sc, .int i, .int z, .int r]) ∧ ScAt K H sc (ns.map V.int) ∧ ns.length ≤ 63 ∧ 0 ≤ i ∧ 0 ≤ z ∧ z < 2147483647
theorem RowOk.lst {K : PySem.W.Frag} {H : Hp} {a : Addr} (h : RowOk K H a) : ∃ l, H a = some (.lst l) := by
  obtain ⟨_, _, _, _, _, e, _⟩ := h; exact ⟨_, e⟩
/-- behind a step that leaves the row and the script as they were -/
theorem RowOk.same {K : PySem.W.Frag} {H H' : Hp} {a : Addr} (h : RowOk K H a) (s : Same H H') : RowOk K H' a := by
  obtain ⟨sc, ns, i, z, r, e, q, rest⟩ := h
  exact ⟨sc, ns, i, z, r, s _ _ e, q.same s, rest⟩
theorem RowOk.keep {K : PySem.W.Frag} {H H' : Hp} {a l : Addr} {xs : List V} (h : RowOk K H a) (n : a ≠ l) (e : H l = some (.lst xs)) (k : Keep l H H') : RowOk K H' a := by
  obtain ⟨sc, is, i, z, r, ea, q, rest⟩ := h
  exact ⟨sc, is, i, z, r, k _ _ n ea, q.keep k e, rest⟩
theorem RowOk.ne {K : PySem.W.Frag} {H : Hp} {a p : Addr} (h : RowOk K H a) (e : H p = none) : a ≠ p := by
  obtain ⟨l, q⟩ := h.lst
  exact ne_of_none q e
theorem tupl_upd {H : Hp} {F x : Addr} {o : HO} {ys : List V} (hF : ∀ xs, H F ≠ some (.tup xs)) (h : H x = some (.tup ys)) : (upd H F o) x = some (.tup ys) := by
  rw [upd_ne (fun e => hF ys (by rw [← e]; exact h))]
  exact h
theorem free_of {H H' : Hp} {q : Addr} (z : Same H H') (hq : H' q = none) : H q = none := by
  cases e : H q with
  | none => rfl
  | some ob => rw [z _ _ e] at hq; cases hq
theorem unlock_same {H2 H' : Hp} {e : Addr} {od : _} {kvs : List (Key × V)} (he : H2 e = some (.dK kvs)) (z : Same (upd H2 e (.frz od (.dK kvs))) H') : Same H2 (upd H' e (.dK kvs)) := fun b o eb => by
  by_cases c : b = e
  · rw [c, he] at eb
    rw [c, upd_same]
    exact eb
  · rw [upd_ne c]
    exact z _ _ (by rw [upd_ne c]; exact eb)
/-! ### steps: one a combinator -/
section
variable {K : PySem.W.Frag} {σ : L2.St} {H : Hp} {D : Ends} {Q : VK}
theorem k_seq {t u : TS} (h : t { D with nx := u D } σ H) : tSeq t u D σ H := h
theorem k_ifS {c : TT} {t u : TS} (h : c σ H fun b H1 => if b = true then t D σ H1 else u D σ H1) : tIfS c t u D σ H := h
theorem k_asg {te : TE} {g : TG} (h : te σ H fun x H1 => g x σ H1 D.nx) : tAsg te g D σ H := h
theorem k_ret {te : TE} (h : te σ H D.rt) : tRet te D σ H := h
theorem k_retN (h : D.rt .non H) : tRetN D σ H := h
theorem k_next (h : D.nx σ H) : tNext D σ H := h
theorem k_cont (h : D.ct σ H) : tCont D σ H := h
theorem k_break (h : D.bk σ H) : tBreak D σ H := h
theorem k_drop {te : TE} (h : te σ H fun _ H1 => D.nx σ H1) : tDrop te D σ H := h
theorem k_par {i j : Nat} {ta : TA} (h : ta σ H fun vs H1 => ∃ v w, vs = [v, w] ∧ D.nx ((σ.set i (some v)).set j (some w)) H1) : tPar i j ta D σ H := h
theorem k_two {p : V → V → Prop} {a b : V} (h : p a b) : ∃ v w, [a, b] = [v, w] ∧ p v w := ⟨a, b, rfl, h⟩
theorem k_var {i : Nat} {v : V} (e : σ[i]? = some (some v)) (h : Q v H) : tVar i σ H Q := ⟨v, e, h⟩
theorem k_c {v : V} (h : Q v H) : tC v σ H Q := h
theorem k_op {r : R2} {ta tb : TE} (h : ta σ H fun x H1 => tb σ H1 fun y H2 => r x y H2 Q) : tOp r ta tb σ H Q := h
theorem k_un {r : V → Hp → VK → Prop} {ta : TE} (h : ta σ H fun x H1 => r x H1 Q) : tUn r ta σ H Q := h
theorem k_cb {r : List V → Hp → VK → Prop} {t : TA} (h : t σ H fun vs H1 => r vs H1 Q) : tCB r t σ H Q := h
theorem k_cons {ta : TE} {tr : TA} {R : List V → Hp → Prop} (h : ta σ H fun x H1 => tr σ H1 fun xs H2 => R (x :: xs) H2) : tCons ta tr σ H R := h
theorem k_nil {R : List V → Hp → Prop} (h : R [] H) : tNil σ H R := h
theorem k_call {sp : Sp} {dvs : List V} {E : XK} {t : TA} (h : t σ H fun vs H1 => sp (vs ++ dvs) H1 Q E) : tCall sp dvs E t σ H Q := h
theorem k_make {C : Addr} {sp : Sp} {dvs : List V} {E : XK} {t : TA} (h : t σ H fun vs H1 => ∀ x dx, H1 x = none → H1 dx = none → dx ≠ x →
  sp (.ref x :: (vs ++ dvs)) (upd (upd H1 dx (.own x)) x (.ins C dx [])) (fun v H2 => v = .non ∧ Q (.ref x) H2) E) : tMake C sp dvs E t σ H Q := h
theorem k_test {t : TE} {R : Bool → Hp → Prop} (h : t σ H fun x H' => ∃ k, x = .bl k ∧ R k H') : tTest t σ H R := h
theorem k_tB {t : TE} {R : Bool → Hp → Prop} (h : t σ H fun x H' => ∃ k, x = .bl k ∧ R k H') : tB t σ H R := h
theorem k_bl {b : Bool} {R : Bool → Prop} (h : R b) : ∃ k, V.bl b = .bl k ∧ R k := ⟨b, rfl, h⟩
theorem k_and {t u : TT} {R : Bool → Hp → Prop} (h : t σ H fun c H1 => if c = true then u σ H1 R else R false H1) : tAnd t u σ H R := h
theorem k_or {t u : TT} {R : Bool → Hp → Prop} (h : t σ H fun c H1 => if c = true then R true H1 else u σ H1 R) : tOr t u σ H R := h
theorem k_not {t : TT} {R : Bool → Hp → Prop} (h : t σ H fun c H1 => R (!c) H1) : tNot t σ H R := h
theorem k_andV {ta tb : TE} (h : ta σ H fun x H1 => ∃ c, x = .bl c ∧ if c = true then tb σ H1 Q else Q (.bl false) H1) : tAndV ta tb σ H Q := h
theorem k_orV {ta tb : TE} (h : ta σ H fun x H1 => ∃ c, x = .bl c ∧ if c = true then Q (.bl true) H1 else tb σ H1 Q) : tOrV ta tb σ H Q := h
theorem k_notV {ta : TE} (h : ta σ H fun x H1 => ∃ c, x = .bl c ∧ Q (.bl (!c)) H1) : tNotV ta σ H Q := h
theorem k_ifE {t : TT} {ta tb : TE} (h : t σ H fun c H1 => if c = true then ta σ H1 Q else tb σ H1 Q) : tIf t ta tb σ H Q := h
theorem k_isN {ta : TE} (h : ta σ H fun x H1 => Q (.bl (decide (x = .non))) H1) : tIsN ta σ H Q := h
theorem k_notN {ta : TE} (h : ta σ H fun x H1 => Q (.bl (!decide (x = .non))) H1) : tNotN ta σ H Q := h
theorem k_name {i : Nat} {v : V} {R : L2.St → Hp → Prop} (h : R (σ.set i (some v)) H) : gName i v σ H R := h
theorem k_sub {to ti : TE} {t : TSet} {v : V} {R : L2.St → Hp → Prop} (h : to σ H fun o H1 => ti σ H1 fun i H2 => t o i v H2 fun H3 => R σ H3) : gSub to ti t v σ H R := h
theorem k_gt {n : Nat} {t : TGs} {R : L2.St → Hp → Prop} {a : Addr} {xs : List V} (h : SqT K H a xs) (e : xs.length = n) (q : t xs σ H R) : gTup K n t (.ref a) σ H R := ⟨a, xs, rfl, h, e, q⟩
theorem k_gn {R : L2.St → Hp → Prop} (h : R σ H) : gNil [] σ H R := ⟨rfl, h⟩
theorem k_gc {t : TG} {u : TGs} {v : V} {vs : List V} {R : L2.St → Hp → Prop} (h : t v σ H fun σ' H' => u vs σ' H' R) : gCons t u (v :: vs) σ H R := ⟨v, vs, rfl, h⟩
theorem k_I0 {g : Int → Int → V} {i j : Int} (h : Q (g i j) H) : rI0 g (.int i) (.int j) H Q := ⟨i, j, rfl, rfl, h⟩
theorem k_I {C : Int → Int → Prop} {g : Int → Int → V} {i j : Int} (c : C i j) (h : Q (g i j) H) : rI C g (.int i) (.int j) H Q := ⟨i, j, rfl, rfl, c, h⟩
theorem k_U {g : Int → V} {i : Int} (h : Q (g i) H) : rU g (.int i) H Q := ⟨i, rfl, h⟩
theorem k_eq {x y : V} (e : scal x y = true) (h : Q (.bl (decide (x = y))) H) : rEq x y H Q := ⟨e, h⟩
theorem k_ne {x y : V} (e : scal x y = true) (h : Q (.bl (!decide (x = y))) H) : rNe x y H Q := ⟨e, h⟩
theorem k_ixL {p : Addr} {xs : List V} {i : Int} {v : V} (h : SqL K H p xs) (e : atI xs i = some v) (q : Q v H) : rIxL K (.ref p) (.int i) H Q := ⟨p, xs, i, v, rfl, rfl, h, e, q⟩
theorem k_ixT {p : Addr} {xs : List V} {i : Int} {v : V} (h : SqT K H p xs) (e : atI xs i = some v) (q : Q v H) : rIxT K (.ref p) (.int i) H Q := ⟨p, xs, i, v, rfl, rfl, h, e, q⟩
theorem k_setL {p : Addr} {xs : List V} {k : Int} {j : Nat} {v : V} {R : Hp → Prop} (h : H p = some (.lst xs)) (e : ixN xs.length k = some j) (q : R (upd H p (.lst (xs.set j v)))) : rSetL (.ref p) (.int k) v H R := ⟨p, xs, k, j, rfl, rfl, h, e, q⟩
theorem k_tup {t : TA} (h : t σ H fun xs H1 => xs.length ≤ sizeLine ∧ ∀ p, H1 p = none → Q (.ref p) (upd H1 p (.tup xs))) : tTup t σ H Q := h
theorem k_lst {t : TA} (h : t σ H fun xs H1 => xs.length ≤ sizeLine ∧ ∀ p, H1 p = none → Q (.ref p) (upd H1 p (.lst xs))) : tLst t σ H Q := h
theorem k_bm {T : String} {r : V → List V → Hp → VK → Prop} {to : TE} {t : TA} (h : to σ H fun x H1 => tyV K T x H1 ∧ t σ H1 fun xs H2 => r x xs H2 Q) : tBM K T r to t σ H Q := h
theorem k_append {l : Addr} {xs : List V} {y : V} (h : H l = some (.lst xs)) (e : xs.length < sizeLine) (q : Q .non (upd H l (.lst (xs ++ [y])))) : rAppend (.ref l) [y] H Q := ⟨l, xs, y, rfl, rfl, h, e, q⟩
theorem k_dget {td ty : TE} (h : td σ H fun x H1 => ty σ H1 fun y H2 => ∃ a v, x = .ref a ∧ DGet H2 a y (some v) ∧ Q v H2) : tDGet td ty σ H Q := h
theorem k_dg {a : Addr} {y v : V} (h : DGet H a y (some v)) (q : Q v H) : ∃ b u, V.ref a = .ref b ∧ DGet H b y (some u) ∧ Q u H := ⟨a, v, rfl, h, q⟩
theorem k_fld {ta : TE} {f : Str} (h : ta σ H fun x H1 => ∃ a C dx fs v, x = .ref a ∧ H1 a = some (.ins C dx fs) ∧ Cls K C ∧ NoAttr K C f ∧ fs.lookup f = some v ∧ Q v H1) : tFld K ta f σ H Q := h
theorem k_sl {r : V → Option Int → Option Int → Hp → VK → Prop} {te : TE} {tl th : TO} (h : te σ H fun x H1 => tl σ H1 fun l H2 => th σ H2 fun u H3 => r x l u H3 Q) : L2.tSl r te tl th σ H Q := h
theorem k_noPart {R : Option Int → Hp → Prop} (h : R none H) : tNoPart σ H R := h
theorem k_part {t : TE} {R : Option Int → Hp → Prop} (h : t σ H fun x H1 => ∃ i, x = .int i ∧ R (some i) H1) : tPart t σ H R := h
theorem k_int {i : Int} {R : Int → Prop} (h : R i) : ∃ k, V.int i = .int k ∧ R k := ⟨i, rfl, h⟩
theorem k_int1 {i : Int} {R : Int → Prop} {R' : Bool → Prop} (h : R i) : (∃ j, [V.int i] = [V.int j] ∧ R j) ∨ (∃ k, [V.int i] = [V.bl k] ∧ R' k) := .inl ⟨i, rfl, h⟩
theorem k_len {a : Addr} {ys : List V} {R : List V → Prop} (h : SqL K H a ys ∨ SqT K H a ys) (q : R ys) : ∃ p xs, [V.ref a] = [V.ref p] ∧ (SqL K H p xs ∨ SqT K H p xs) ∧ R xs := ⟨a, ys, rfl, h, q⟩
theorem k_disp {trs : List (TE × TE)} (h : ∀ p, H p = none → tPairs trs σ (upd H p (.dK [])) fun ps H2 => H2 p = some (.dK []) ∧ ∃ kvs : List (Key × V), ps = kvs.map (fun kv => (kV kv.1, kv.2)) ∧ kvs.length ≤ 15 ∧ Q (.ref p) (upd H2 p (.dK (mergeK [] kvs)))) : tDisp trs σ H Q := h
theorem k_cut {t u : TS} (M : L2.St → Hp → Prop) (h : t { D with nx := M } σ H) (k : ∀ σ' H', M σ' H' → u D σ' H') : C8.tCut t u D σ H := ⟨M, h, k⟩
theorem k_rng1 {ta : TA} {R : It → Hp → Prop} (h : ta σ H fun vs H1 => ∃ j : Int, vs = [.int j] ∧ -(2 ^ 62) ≤ j ∧ j < 2 ^ 62 ∧ R (Itr 0 j.toNat) H1) : iRng1 ta σ H R := h
theorem k_rg {j : Int} {R : Int → Prop} (h1 : 0 ≤ j) (h2 : j < 2 ^ 62) (q : R j) : ∃ i : Int, [V.int j] = [V.int i] ∧ -(2 ^ 62) ≤ i ∧ i < 2 ^ 62 ∧ R i := ⟨j, rfl, by omega, h2, q⟩
theorem k_for {wi : TI} {g : TG} {tb : TS} (h : wi σ H fun J H1 => ∃ W : Nat → Nat → L2.St → Hp → Prop, (∃ m, W 0 m σ H1) ∧ ∀ i m σ H, W i m σ H →
  (J.stop i H ∧ D.nx σ H) ∨ (J.go i H ∧ ∃ N : L2.St → Hp → Prop, (∀ σ' H', N σ' H' → ∃ m', m' < m ∧ W (i + 1) m' σ' H') ∧ ∀ x H', J.yld i H x H' → g x σ H' fun σ2 H2 => tb { D with nx := N, ct := N, bk := D.nx } σ2 H2)) : tFor wi g tb D σ H := h
theorem k_lc {wi : TI} {g : TG} {tt : TT} {te : TE} {vs : List Nat} (h : wi σ H fun J H1 => ∀ D, H1 D = none → ∃ W : Nat → Nat → Hp → Prop, (∃ m, W 0 m (upd H1 D (.lst []))) ∧ ∀ i m H, W i m H →
  (J.stop i H ∧ Q (.ref D) H) ∨ (J.go i H ∧ ∃ Nx : Hp → Prop, (∀ H', Nx H' → ∃ m', m' < m ∧ W (i + 1) m' H') ∧ ∀ x H', J.yld i H x H' → g x (wipe σ vs) H' fun σ2 H2 => wipe σ2 vs = wipe σ vs ∧ tt σ2 H2 fun b H3 =>
    if b = true then te σ2 H3 fun y H4 => ∃ acc, H4 D = some (.lst acc) ∧ acc.length < sizeLine ∧ Nx (upd H4 D (.lst (acc ++ [y]))) else Nx H3)) : tLc wi g tt te vs σ H Q := h
theorem k_yesT {R : Bool → Hp → Prop} (h : R true H) : tYes σ H R := h
theorem k_str {te : TE} {R : It → Hp → Prop} (h : te σ H fun v H1 => ∃ x, v = .str x ∧ R (Its x) H1) : iStr te σ H R := h
theorem k_slS {z : Str} {lo hi : Option Int} (e : z.length ≤ sizeLine) (q : Q (.str (cutS z lo hi)) H) : rSlS (.str z) lo hi H Q := ⟨z, rfl, e, q⟩
theorem k_prs {tk tv : TE} {r : List (TE × TE)} {R : List (V × V) → Hp → Prop} (h : tk σ H fun x H1 => tv σ H1 fun y H2 => tPairs r σ H2 fun ps H3 => R ((x, y) :: ps) H3) : tPairs ((tk, tv) :: r) σ H R := h
theorem k_prn {R : List (V × V) → Hp → Prop} (h : R [] H) : tPairs [] σ H R := h
theorem k_aug {i : Nat} {te : TE} {ti : TIp} {x : V} (e : σ[i]? = some (some x)) (h : te σ H fun y H1 => ti x y H1 fun z H2 => D.nx (σ.set i (some z)) H2) : tAug i te ti D σ H := ⟨x, e, h⟩
theorem k_ipI {f : Int → Int → Int} {i j : Int} (h : Q (.int (f i j)) H) : ipI f (.int i) (.int j) H Q := ⟨i, j, rfl, rfl, h⟩
theorem k_din {ty td : TE} (h : ty σ H fun y H1 => td σ H1 fun x H2 => ∃ a o, x = .ref a ∧ DGet H2 a y o ∧ Q (.bl o.isSome) H2) : tDIn ty td σ H Q := h
theorem k_dnotin {ty td : TE} (h : ty σ H fun y H1 => td σ H1 fun x H2 => ∃ a o, x = .ref a ∧ DGet H2 a y o ∧ Q (.bl (!o.isSome)) H2) : tDNotIn ty td σ H Q := h
theorem k_dput {td ty tv : TE} (h : tv σ H fun v H1 => td σ H1 fun x H2 => ty σ H2 fun y H3 => ∃ a H4, x = .ref a ∧ DPut H3 a y v H4 ∧ D.nx σ H4) : sDPut td ty tv D σ H := h
theorem k_prop {C : Addr} {sp : Sp} {dvs : List V} {E : XK} {ta : TE} (h : ta σ H fun x H1 => ∃ a dx fs, x = .ref a ∧ H1 a = some (.ins C dx fs) ∧ sp (.ref a :: dvs) H1 Q E) : tProp C sp dvs E ta σ H Q := h
theorem k_itup {tl : TE} {R : It → Hp → Prop} (h : tl σ H fun x H1 => ∃ a, x = .ref a ∧ (∃ xs, SqT K H1 a xs) ∧ R (Itt K a) H1) : iTup K tl σ H R := h
theorem k_ilst {tl : TE} {R : It → Hp → Prop} (h : tl σ H fun x H1 => ∃ a, x = .ref a ∧ (∃ xs, SqL K H1 a xs) ∧ R (Itl K a) H1) : iList K tl σ H R := h
theorem k_bm0 {T : String} {r : V → List V → Hp → VK → Prop} {to : TE} (h : to σ H fun x H1 => tyV K T x H1 ∧ r x [] H1 Q) : tBM0 K T r to σ H Q := h
theorem k_dc {wi : TI} {g : TG} {tt : TT} {tk tv : TE} {vs : List Nat} (h : wi σ H fun J H1 => ∀ D, H1 D = none → ∃ W : Nat → Nat → Hp → Prop, (∃ m, W 0 m (upd H1 D (.dK []))) ∧ ∀ i m H, W i m H →
  (J.stop i H ∧ Q (.ref D) H) ∨ (J.go i H ∧ ∃ Nx : Hp → Prop, (∀ H', Nx H' → ∃ m', m' < m ∧ W (i + 1) m' H') ∧ ∀ x H', J.yld i H x H' → g x (wipe σ vs) H' fun σ2 H2 => wipe σ2 vs = wipe σ vs ∧ tt σ2 H2 fun b H3 =>
    if b = true then tk σ2 H3 fun y H4 => tv σ2 H4 fun z H5 => ∃ kvs k, y = kV k ∧ H5 D = some (.dK kvs) ∧ kvs.length < sizeLine ∧ Nx (upd H5 D (.dK (putK kvs k z))) else Nx H3)) : tDc wi g tt tk tv vs σ H Q := h
theorem k_whl {c : TT} {tb : TS} (W : Nat → L2.St → Hp → Prop) (h0 : ∃ m, W m σ H) (h : ∀ m σ H, W m σ H → c σ H fun b H1 => if b = true then tb { D with nx := fun σ' H' => ∃ m', m' < m ∧ W m' σ' H', ct := fun σ' H' => ∃ m', m' < m ∧ W m' σ' H', bk := D.nx } σ H1 else D.nx σ H1)
    (mono : ∀ σ H (R R' : Bool → Hp → Prop), (∀ b H1, R b H1 → R' b H1) → c σ H R → c σ H R') : tWhile c tb D σ H := by
  refine ⟨W, h0, fun m σ H w => mono _ _ _ _ (fun b H1 q => ?_) (h m σ H w)⟩
  cases b with
  | false => exact q
  | true => exact ⟨_, fun _ _ z => z, q⟩
theorem k_ite {p A B : Prop} [Decidable p] (h1 : p → A) (h2 : ¬ p → B) : if decide p = true then A else B := by
  by_cases h : p
  · rw [decide_eq_true h]; exact iteT (h1 h)
  · rw [decide_eq_false h]; exact iteF (h2 h)
theorem k_iteN {p A B : Prop} [Decidable p] (h1 : p → B) (h2 : ¬ p → A) : if (!decide p) = true then A else B := by
  by_cases h : p
  · rw [decide_eq_true h]; exact iteF (h1 h)
  · rw [decide_eq_false h]; exact iteT (h2 h)
theorem k_yes {c : Bool} {A B : Prop} (e : c = true) (h : A) : if c = true then A else B := by rw [e]; exact iteT h
theorem k_no {c : Bool} {A B : Prop} (e : c = false) (h : B) : if c = true then A else B := by rw [e]; exact iteF h
theorem k_bool {c : Bool} {A B : Prop} (h1 : c = true → A) (h2 : c = false → B) : if c = true then A else B := by cases c; exact iteF (h2 rfl); exact iteT (h1 rfl)
end
section
variable {K : PySem.W.Frag} {σ : L2.St} {H : Hp} {D : Ends} {Q : VK}
theorem k_par3 {i j l : Nat} {ta : TA} (h : ta σ H fun vs H1 => ∃ u v w, vs = [u, v, w] ∧ D.nx (((σ.set i (some u)).set j (some v)).set l (some w)) H1) : tPar3 i j l ta D σ H := h
theorem k_three {p : V → V → V → Prop} {a b c : V} (h : p a b c) : ∃ u v w, [a, b, c] = [u, v, w] ∧ p u v w := ⟨a, b, c, rfl, h⟩
theorem k_neD {x y : V} {d e : PyData} (h1 : Dp K H x d) (h2 : Dp K H y e) (s1 : SeqAt.shaped d = true) (s2 : SeqAt.shaped e = true) (q : Q (.bl (!PyData.eqv d e)) H) : rNeD K x y H Q := ⟨d, e, h1, h2, s1, s2, q⟩
theorem k_eqD {x y : V} {d e : PyData} (h1 : Dp K H x d) (h2 : Dp K H y e) (s1 : SeqAt.shaped d = true) (s2 : SeqAt.shaped e = true) (q : Q (.bl (PyData.eqv d e)) H) : rEqD K x y H Q := ⟨d, e, h1, h2, s1, s2, q⟩
theorem k_lenS {z : Str} {R : Int → Prop} (h : z.length ≤ sizeLine) (q : R z.length) : ∃ y : Str, [V.str z] = [V.str y] ∧ y.length ≤ sizeLine ∧ R y.length := ⟨z, rfl, h, q⟩
end
local macro_rules | `(tactic| walk_at "st") => `(tactic| first
  | ((with_reducible show tVar _ _ _ _); refine k_var rfl ?_)
  | (with_reducible first
    | refine k_c ?_ | refine k_op ?_ | refine k_I0 ?_ | refine k_seq ?_ | refine k_asg ?_ | refine k_name ?_ | refine k_cons ?_ | refine k_nil ?_ | refine k_cb ?_
    | refine k_ret ?_ | refine k_ifS ?_ | refine k_test ?_ | refine k_tB ?_ | refine k_bl ?_ | refine k_call ?_ | refine k_make ?_ | refine k_par3 ?_ | refine k_three ?_ | refine k_ipI ?_ | refine k_din ?_ | refine k_dnotin ?_ | refine k_dput ?_ | refine k_prop ?_ | refine k_itup ?_ | refine k_ilst ?_ | refine k_bm0 ?_ | refine k_dc ?_ | refine k_prs ?_ | refine k_prn ?_ | refine k_lc ?_ | refine k_yesT ?_ | refine k_str ?_ | refine k_disp ?_ | refine k_for ?_ | refine k_rng1 ?_ | refine k_drop ?_ | refine k_next ?_ | refine k_sub ?_ | refine k_un ?_ | refine k_U ?_
    | refine k_par ?_ | refine k_two ?_ | refine k_and ?_ | refine k_or ?_ | refine k_not ?_ | refine k_andV ?_ | refine k_orV ?_ | refine k_notV ?_ | refine k_ifE ?_ | refine k_isN ?_ | refine k_notN ?_
    | refine k_gn ?_ | refine k_gc ?_ | refine k_tup ?_ | refine k_lst ?_ | refine k_bm ?_ | refine k_dget ?_ | refine k_fld ?_ | refine k_sl ?_ | refine k_noPart ?_ | refine k_part ?_ | refine k_int ?_
    | refine k_int1 ?_ | refine k_retN ?_ | refine k_cont ?_ | refine k_break ?_)
  | ((with_reducible show rIxL _ _ _ _ _); refine k_ixL (SqL.of (by first | assumption | exact upd_same)) rfl ?_)
  | ((with_reducible show rSetL _ _ _ _ _); refine k_setL (by first | assumption | exact upd_same) rfl ?_)
  | ((with_reducible show tAug _ _ _ _ _ _); refine k_aug rfl ?_)
  | ((with_reducible show rEq _ _ _ _); refine k_eq rfl ?_)
  | ((with_reducible show rNe _ _ _ _); refine k_ne rfl ?_))
local macro_rules | `(tactic| walk_at "go") => `(tactic| repeat (walk_at "st"))
local macro_rules | `(tactic| walk_at "begin") => `(tactic| ((try dsimp only [cxOf]); simp only [L2.start, List.map_cons, List.map_nil, List.length_cons, List.length_nil, Nat.reduceAdd, Nat.reduceSub, List.replicate_succ, List.replicate_zero, List.cons_append, List.nil_append]))
/-! ### a draw: any number below the most -/
def sp_taken (K : PySem.W.Frag) : Sp := fun vs H Q _ => ∃ (a : Addr) (m : Int), vs = [.ref a, .int m] ∧ 0 < m ∧ m.natAbs < 2 ^ 8000 ∧ RowOk K H a ∧
  ∀ (x : Int) (H' : Hp), 0 ≤ x → x < m → RowOk K H' a → Keep a H H' → Q (.int x) H'
section
variable {P : Program} {w : World} {K : PySem.W.Frag} {mg : Str → Option Value} {base : Heap}
theorem ok_law_taken (T : Txt K mg) : FnOk P w K mg base (L2.CX P w) 1 T.a_law_taken T.fd_law_taken ["_law_row", "_law_many"] (sp_taken K) := by
  refine T.F_law_taken.okX sc_law_taken (fun vs H Q E h => ?_) (fun cdv A outer s H vs Q E hr h => ?_)
  · obtain ⟨a, m, rfl, _⟩ := h
    rfl
  · obtain ⟨a, m, rfl, m0, mb, ⟨sc, ns, i, z, r, ea, hs, hn, i0, z0, z1⟩, k⟩ := h
    refine ⟨_, (PSs.nox (pss_cons (ps_if (pt_cmpR op_gt (pe_ix ix_list (pv 0) pe_int (fun _ _ => rfl)) pe_int (nomark _))
  (pss_cons (ps_set (i := 2) sc_law_taken.nd rfl (Or.inl rfl) (pe_op op_mod (pe_callTy call_int1 (by rfl) T.z_int PySem.Pv.boot_int (pa_cons (pe_ix ix_list (pv 0) pe_int (fun _ _ => rfl)) pa_nil)) (pv 1)))
  (pss_cons (ps_asg (pe_op op_fdivW (pe_ix ix_list (pv 0) pe_int (fun _ _ => rfl)) (pv 1)) (pg_sub (pv 0) pe_int set_list))
  (pss_one (ps_ret (pv 2)))))
  pss_nil)
  (pss_cons (ps_asg (pe_op op_add (pe_ix ix_list (pv 0) pe_int (fun _ _ => rfl)) pe_int) (pg_sub (pv 0) pe_int set_list))
  (pss_cons (ps_if (pt_cmpR op_gt (pe_ix ix_list (pv 0) pe_int (fun _ _ => rfl)) (pe_callB call_len_seq (by rfl) T.z_len PySem.boot_len (pa_cons (pe_ix ix_list (pv 0) pe_int (fun _ _ => rfl)) pa_nil)) (nomark _))
  (pss_cons (ps_asg (pe_op op_mod (pe_callTy call_int1 (by rfl) T.z_int PySem.Pv.boot_int (pa_cons (pe_op op_add (pe_op op_mulW (pe_ix ix_list (pv 0) pe_int (fun _ _ => rfl)) pe_int) pe_int) pa_nil)) pe_int) (pg_sub (pv 0) pe_int set_list))
  (pss_one (ps_ret (pe_op op_mod (pe_callTy call_int1 (by rfl) T.z_int PySem.Pv.boot_int (pa_cons (pe_op op_fdivW (pe_ix ix_list (pv 0) pe_int (fun _ _ => rfl)) pe_int) pa_nil)) (pv 1)))))
  pss_nil)
  (pss_cons (ps_set (i := 3) sc_law_taken.nd rfl (Or.inl rfl) (pe_ix ix_list (pe_ix ix_list (pv 0) pe_int (fun _ _ => rfl)) (pe_op op_sub (pe_ix ix_list (pv 0) pe_int (fun _ _ => rfl)) pe_int) (fun _ _ => rfl)))
  (pss_cons (ps_asg (pe_op op_mod (pe_callTy call_int1 (by rfl) T.z_int PySem.Pv.boot_int (pa_cons (pe_op op_add (pe_op op_add (pe_op op_mulW (pe_ix ix_list (pv 0) pe_int (fun _ _ => rfl)) pe_int) (pv 3)) pe_int) pa_nil)) pe_int) (pg_sub (pv 0) pe_int set_list))
  (pss_cons (ps_if (pt_cmpR op_ge (pv 3) (pe_op op_pow pe_int pe_int) (nomark _))
  (pss_one (ps_asg (pe_op op_fdivW (pv 3) (pv 1)) (pg_sub (pv 0) pe_int set_list)))
  pss_nil)
  (pss_one (ps_ret (pe_op op_mod (pe_callTy call_int1 (by rfl) T.z_int PySem.Pv.boot_int (pa_cons (pv 3) pa_nil)) (pv 1))))))))))), ?_⟩
    walk_at "begin"
    walk_at "go"
    have CD : CDivW r m := wide_div m0 mb (by decide) (by decide)
    have CZ : CMulW z 48271 := wide_mul (a := 31) (b := 16) (by omega) (by decide) (by decide) (by decide) (by decide)
    refine k_ite (fun c => ?_) (fun c => ?_)
    · walk_at "go"
      refine k_I m0 ?_
      walk_at "go"
      refine k_I CD ?_
      walk_at "go"
      exact k _ _ (Int.emod_nonneg _ (by omega)) (Int.emod_lt_of_pos _ m0) ⟨sc, ns, i, z, r / m, upd_same, hs.keep Keep.at_ ea, hn, i0, z0, z1⟩ Keep.at_
    · walk_at "go"
      have K1 : Keep a H (upd H a (HO.lst ([V.ref sc, V.int i, V.int z, V.int r].set (Int.toNat 1) (V.int (i + 1))))) := Keep.at_
      refine k_len (.inl (hs.keep K1 ea).sq) ?_
      walk_at "go"
      have zn : ∀ q : Int, 0 ≤ q % 2147483647 ∧ q % 2147483647 < 2147483647 := fun q => ⟨Int.emod_nonneg _ (by decide), Int.emod_lt_of_pos _ (by decide)⟩
      have mn : ∀ q : Int, 0 ≤ q % m ∧ q % m < m := fun q => ⟨Int.emod_nonneg _ (by omega), Int.emod_lt_of_pos _ m0⟩
      refine k_ite (fun c1 => ?_) (fun c1 => ?_)
      · walk_at "go"
        refine k_I CZ ?_
        walk_at "go"
        refine k_I (by decide) ?_
        walk_at "go"
        refine k_I (wide_div (b := 3) (by decide) (by decide) (by decide) (by decide)) ?_
        walk_at "go"
        refine k_I m0 ?_
        exact k _ _ (mn _).1 (mn _).2 ⟨sc, ns, i + 1, _, r, upd_same, (hs.keep K1 ea).keep Keep.at_ upd_same, hn, by omega, (zn _).1, (zn _).2⟩ (K1.trans Keep.at_)
      · walk_at "go"
        rw [List.length_map] at c1
        have hl : (i + 1 - 1).toNat < ns.length := by omega
        refine k_ixL (hs.keep K1 ea).sq (v := V.int (ns[(i + 1 - 1).toNat]'hl)) (at_of (j := (i + 1 - 1).toNat) (by omega) (by rw [List.getElem?_map, List.getElem?_eq_getElem hl]; rfl)) ?_
        generalize ns[(i + 1 - 1).toNat]'hl = cell
        walk_at "go"
        refine k_I CZ ?_
        walk_at "go"
        refine k_I (by decide) ?_
        walk_at "go"
        refine k_I (by exact ⟨by decide, by decide, by decide⟩) ?_
        walk_at "go"
        refine k_ite (fun c2 => ?_) (fun c2 => ?_)
        · walk_at "go"
          refine k_I (wide_div m0 mb (by decide) (by decide)) ?_
          walk_at "go"
          refine k_I m0 ?_
          exact k _ _ (mn _).1 (mn _).2 ⟨sc, ns, i + 1, _, _, upd_same, ((hs.keep K1 ea).keep Keep.at_ upd_same).keep Keep.at_ upd_same, hn, by omega, (zn _).1, (zn _).2⟩ ((K1.trans Keep.at_).trans Keep.at_)
        · walk_at "go"
          refine k_I m0 ?_
          exact k _ _ (mn _).1 (mn _).2 ⟨sc, ns, i + 1, _, _, upd_same, (hs.keep K1 ea).keep Keep.at_ upd_same, hn, by omega, (zn _).1, (zn _).2⟩ (K1.trans Keep.at_)
end
/-! ### enumerate over a tuple -/
section
open Builtin
theorem meets_enumT (t : Addr) (its : Array Value) : Meets (Builtin.«enumerate.__new__» ⟨[.type "enumerate", .ref t], []⟩) (fun _ R st => st.heap.IsTuple t its ∧
    R (.ok (.ret (.ref (st.heap.objs.size + 1)))) { st with heap := (st.heap.push { cls := .type "tuple_iterator", data := .fields #[.ref t, .int 0 0] }).push { cls := .type "enumerate", data := .fields #[.none, .bool false, .ref st.heap.objs.size, rawInt 0, .none, .none] } }) := by
  refine Meets.of_wp fun prog w A R st hh => ?_
  rcases st with ⟨h0, g0, d0, t0, o0⟩
  obtain ⟨isT, q⟩ := hh
  have sub := sub_enumerate
  have L : Heap.IsTuple (Shared.heap ⟨h0, g0, d0, t0, o0⟩) t its := isT
  obtain ⟨ob, e0, c0, n0, dt0⟩ := L
  have z : (Heap.push h0 { cls := .type "tuple_iterator", data := .fields #[.ref t, .int 0 0] }).objs.size = h0.objs.size + 1 := Heap.size_push ..
  have q' := q
  rw [← z] at q'
  wp_walk using PySem.wpAny_pyIter_tuple isT
  refine wpAny_stack_any fun fr => wpAny_pure ?_
  split
  · rename_i cc _ _ _ _ _
    cases (cc == Value.type "enumerate")
    · wp_walk using PySem.wpAny_pyIter_tuple isT
      exact ⟨_, rfl, q'⟩
    · wp_walk using PySem.wpAny_pyIter_tuple isT
      exact ⟨_, rfl, q'⟩
  · wp_walk using PySem.wpAny_pyIter_tuple isT
    exact ⟨_, rfl, q'⟩
end
section
variable {prog : Program} {w : World} {A : Around} {E : Value → Shared → Prop} {s : Shared}
theorem call_enumT {t : Addr} {its : Array Value} {Q : Value → Shared → Prop} (isT : s.heap.IsTuple t its)
    (k : ∀ h', IsEnum h' (s.heap.objs.size + 1) s.heap.objs.size 0 .none → h'.IsTupleIter s.heap.objs.size t 0 → (∀ b o, s.heap.get? b = some o → h'.get? b = some o) →
      Q (.ref (s.heap.objs.size + 1)) { s with heap := h' }) : wpAny (model prog w) A (call (.type "enumerate") [.ref t]) Q E s := by
  have m := meets_enumT t its
  refine callType_new F.called_enumerate (by decide) (F.typeCall_enumerate_1 _) (F.newCall_enumerate_1 _) (fun o => F.args_object_init_2 o _) F.entry_enumerate_new m ⟨isT, ?_⟩
  have z : (Heap.push s.heap { cls := .type "tuple_iterator", data := .fields #[.ref t, .int 0 0] }).objs.size = s.heap.objs.size + 1 := Heap.size_push ..
  have g := Heap.get?_push_size (Heap.push s.heap { cls := .type "tuple_iterator", data := .fields #[.ref t, .int 0 0] })
    (o := { cls := .type "enumerate", data := .fields #[.none, .bool false, .ref s.heap.objs.size, rawInt 0, .none, .none] }) rfl
  rw [z] at g
  exact ⟨⟨_, g, rfl⟩, k _ g ⟨_, Heap.get?_push_of_some _ (Heap.get?_push_size _ rfl), rfl, rfl⟩ fun b o x => Heap.get?_push_of_some _ (Heap.get?_push_of_some _ x)⟩
end
/-- the i-th pair is new: its place and the tuple's item -/
def Iet (K : PySem.W.Frag) (a : Addr) : It :=
  ⟨fun i H => ∃ (xs : List V) (x : V), SqT K H a xs ∧ xs[i]? = some x,
   fun i H v H' => ∃ p x, v = .ref p ∧ H p = none ∧ H' = upd H p (.tup [.int (i : Nat), x]) ∧ ∀ xs, SqT K H a xs → xs[i]? = some x,
   fun i H => ∃ xs : List V, SqT K H a xs ∧ xs.length ≤ i⟩
theorem turn_enumT {P : Program} {w : World} {K : PySem.W.Frag} {es : List Expr} {c : Nat} {tp : Pos} (a e it : Addr) :
    Turn P w K (.Tuple es c tp) (Iet K a) [e, it] e (fun i h => (∃ old, IsEnum h e it ((i : Nat) : Int) old) ∧ h.IsTupleIter it a i ∧ e ≠ it) := by
  have two : ∀ b, b ∈ [e, it] → b = e ∨ b = it := fun b hb => by simpa using hb
  constructor
  case mem => simp
  case obj =>
    rintro i h ⟨⟨old, he⟩, ⟨o, ho, hc, hd⟩, _⟩ b hb
    rcases two b hb with rfl | rfl
    · exact ⟨_, he, fun v q => nomatch q⟩
    · exact ⟨o, ho, fun v q => by rw [hd] at q; cases q⟩
  case keep =>
    rintro i h h' ⟨⟨old, he⟩, hi, ne⟩ k
    exact ⟨⟨old, k e (by simp) _ he⟩, hi.at fun o q => k it (by simp) o q, ne⟩
  case item =>
    rintro X rfl rfl rfl hC i pins s σ H E I hf ⟨⟨old, he⟩, hit, ne⟩ ⟨xs, x, hq, hx⟩
    obtain ⟨its, rv, p, hz⟩ := I.tuple hq
    obtain ⟨u, hu, ru⟩ := rv.get hx
    have le : e < s.heap.objs.size := Heap.lt_size he
    have li : it < s.heap.objs.size := by obtain ⟨_, q, _⟩ := hit; exact Heap.lt_size q
    have pt : s.heap.IsTuple a its.toArray := p
    have na : a ≠ it := fun z => by
      obtain ⟨o1, q1, c1, _⟩ := hit
      obtain ⟨o2, q2, c2, _⟩ := pt
      rw [z, q1] at q2
      cases q2
      rw [c1] at c2
      exact absurd c2 (by simp)
    have nb : e ≠ a := fun z => by
      obtain ⟨o2, q2, c2, _⟩ := pt
      have q3 : s.heap.get? e = _ := he
      rw [z, q2] at q3
      cases q3
      exact absurd c2 (by simp)
    have Dr := Draws.tuple (prog := X.prog) (w := X.w) (A := X.A.in1) (I.ok.hd hC) it a na its.toArray
    refine wpAny_pyNext_enum_itemD (i := i) Dr he ⟨hit, pt⟩ (by simpa using (List.getElem?_eq_some_iff.mp hu).1) ne (by simp [ne, nb]) fun x' h' tk px ho st hT hsz hk => ?_
    have ex : x' = u := by
      have q : its.toArray[i]? = some x' := px
      rw [List.getElem?_toArray, hu] at q
      exact (Option.some.inj q).symm
    subst ex
    refine ⟨_, rfl, wpAny_letOwnedTupleGo_enum (s := { s with heap := h', toks := tk + 1 }) ho fun h2 he2 sb => ?_⟩
    have hT2 : h2.get? s.heap.objs.size = some { cls := .type "tuple", data := .seq #[.int i tk, x'] } := (sb.2 _ (Nat.ne_of_gt le)).trans hT
    have new : ObjOk X.prog X.w (upd H s.heap.objs.size (.tup [.int (i : Nat), x])) h2 s.heap.objs.size (.tup [.int (i : Nat), x]) :=
      ⟨(by decide : 2 ≤ sizeLine), [.int i tk, x'], .cons ⟨_, rfl⟩ (.cons ru .nil), ⟨_, hT2, rfl, _, rfl⟩⟩
    have I1 : Inv X pins σ (upd H s.heap.objs.size (.tup [.int (i : Nat), x])) { s with heap := h2, toks := tk + 1 } :=
      I.turnedNew (ch := [e, it]) (fun b ob hb q => (sb.2 b (fun z => hb (by simp [z]))).trans (hk b ob (fun z => hb (by simp [z])) (fun z => hb (by simp [z])) q)) hf (Nat.le_refl _) new
    refine ⟨.ref s.heap.objs.size, _, I1, rfl, ⟨_, x, rfl, I.hok.fresh (Nat.le_refl _), rfl, fun ys hy => ?_⟩, ⟨⟨x', ?_⟩, ?_, ne⟩, fun b hb => ?_⟩
    · rw [I.tuple_inj hy hq]; exact hx
    · have e1 : ((i + 1 : Nat) : Int) = (i : Int) + 1 := by omega
      rw [e1]; exact he2
    · exact st.1.at fun o q => (sb.2 it (Ne.symm ne)).trans q
    · have lb : b < s.heap.objs.size := by rcases two b hb with rfl | rfl <;> assumption
      rw [upd_ne (Nat.ne_of_lt lb)]
      exact (hf b hb).1
  case done =>
    rintro X rfl rfl rfl hC i pins s σ H E I hf ⟨⟨old, he⟩, hit, ne⟩ ⟨xs, hq, hx⟩
    obtain ⟨its, rv, p, hz⟩ := I.tuple hq
    have pt : s.heap.IsTuple a its.toArray := p
    have na : a ≠ it := fun z => by
      obtain ⟨o1, q1, c1, _⟩ := hit
      obtain ⟨o2, q2, c2, _⟩ := pt
      rw [z, q1] at q2
      cases q2
      rw [c1] at c2
      exact absurd c2 (by simp)
    have out : its.toArray[i]? = none := by
      have hl := rv.length
      rw [List.getElem?_toArray]
      exact List.getElem?_eq_none (by omega)
    have Dr : Draws X.prog X.w X.A.in1 it [it, a] i (fun _ _ => True) (fun j h => j = i ∧ h.IsTupleIter it a j ∧ h.IsTuple a its.toArray) :=
      { live := fun j h st => by obtain ⟨_, ⟨o, ho, _⟩, _⟩ := st; exact ⟨o, ho⟩
        frame := fun j h h' st hk => ⟨st.1, st.2.1.at fun o e => hk it (by simp) o e, st.2.2.at fun o e => hk a (by simp) o e⟩
        item := fun j s Q E hj st hQ => absurd st.1 (Nat.ne_of_lt hj)
        done := fun s Q E st hE => wpAny_nextOf_tuple_end (A := X.A.in1) (I.ok.hd hC) st.2.1 st.2.2 out hE }
    obtain ⟨f0, f1, f2, f3, f4, f5⟩ := hf it (by simp)
    exact wpAny_pyNext_enum_endD Dr he ⟨rfl, hit, pt⟩ fun h' eb => ⟨rfl, I.turned (t' := s.toks) (fun b o hb q => eb b o hb q) f0 f1 f3 f4 f5⟩
  case self =>
    rintro A i s Q E ⟨⟨_, he⟩, _⟩ h
    exact wpAny_pyIter_enum he h
def iEnumT (K : PySem.W.Frag) (ta : TA) : TI := fun σ H R => ta σ H fun vs H1 => ∃ a xs, vs = [.ref a] ∧ SqT K H1 a xs ∧ R (Iet K a) H1
theorem pi_enumT {X : Cx} {e : Expr} {ta : TA} {p pos tpos : Pos} {es : List Expr} {c : Nat} (hg : Gl X "enumerate") (hm : X.mg "enumerate" = none) (ha : PA X [e] ta)
    (hs : starEach [e] X.env = [(false, eval e X.env)] := by rfl) : PI X (.Tuple es c tpos) (.Call (.Name "enumerate" p) [e] [] pos) (iEnumT X.K ta) := by
  constructor
  intro pins s σ H R I h
  refine PyProof.Rows.Call_ (ld_blt I hg hm (show bootBuiltins "enumerate" = some (.type "enumerate") by decide +kernel) (PyProof.Rows.callWith_type1 (thn (ha.run pos pins s σ H _ I h) ?_) hs rfl))
  rintro us s1 ⟨vs, H1, I1, r1, a, xs, rfl, hq, q⟩
  obtain ⟨u, rfl, ru⟩ := vals1 r1
  cases ru
  obtain ⟨its, rv, p', hz⟩ := I1.tuple hq
  have pt : s1.heap.IsTuple a its.toArray := p'
  refine call_enumT pt fun h' he hit hk => wpAny_pyIter_enum he ?_
  have I2 : Inv X pins σ H1 { s1 with heap := h' } := I1.kept (t' := s1.toks) hk
  refine ⟨s1.heap.objs.size + 1, [s1.heap.objs.size + 1, s1.heap.objs.size], _, _, H1, rfl, I2, turn_enumT a (s1.heap.objs.size + 1) s1.heap.objs.size, ⟨⟨.none, he⟩, hit, Nat.succ_ne_self _⟩, fun b hb => ?_, q⟩
  have lb : s1.heap.objs.size ≤ b := by
    have two : b = s1.heap.objs.size + 1 ∨ b = s1.heap.objs.size := by simpa using hb
    rcases two with rfl | rfl
    · exact Nat.le_succ _
    · exact Nat.le_refl _
  exact I1.fpOk lb (I1.hok.fresh lb)
/-- over a tuple that stands still, the place and the item in a new pair -/
theorem for_enumT {K : PySem.W.Frag} {a : Addr} {xs : List V} {g : TG} {tb : TS} {D : Ends} {σ : L2.St} {H : Hp} (Pv : Nat → L2.St → Hp → Prop) (h0 : Pv 0 σ H) (hl : ∀ i σ H, i ≤ xs.length → Pv i σ H → SqT K H a xs)
    (hs : ∀ i x p σ H, xs[i]? = some x → Pv i σ H → H p = none → g (.ref p) σ (upd H p (.tup [.int (i : Nat), x])) fun σ2 H2 => tb { D with nx := Pv (i + 1), ct := Pv (i + 1), bk := D.nx } σ2 H2) (hd : ∀ σ H, Pv xs.length σ H → D.nx σ H) :
    ∃ W : Nat → Nat → L2.St → Hp → Prop, (∃ m, W 0 m σ H) ∧ ∀ i m σ H, W i m σ H → ((Iet K a).stop i H ∧ D.nx σ H) ∨
      ((Iet K a).go i H ∧ ∃ N : L2.St → Hp → Prop, (∀ σ' H', N σ' H' → ∃ m', m' < m ∧ W (i + 1) m' σ' H') ∧ ∀ x H', (Iet K a).yld i H x H' → g x σ H' fun σ2 H2 => tb { D with nx := N, ct := N, bk := D.nx } σ2 H2) := by
  refine ⟨fun i m σ H => m + i = xs.length ∧ Pv i σ H, ⟨xs.length, by simp, h0⟩, fun i m σ H ⟨em, hP⟩ => ?_⟩
  have sq := hl i σ H (by omega) hP
  by_cases c : i < xs.length
  · refine .inr ⟨⟨xs, xs[i], sq, List.getElem?_eq_getElem c⟩, Pv (i + 1), fun σ' H' z => ⟨m - 1, by omega, by omega, z⟩, ?_⟩
    rintro v H' ⟨p, x, rfl, hp, rfl, hx⟩
    exact hs i x p σ H (hx xs sq) hP hp
  · have e : i = xs.length := by omega
    exact .inl ⟨⟨xs, sq, by omega⟩, hd σ H (e ▸ hP)⟩
/-! ### machines as data -/
structure Stp where
  b : Nat
  c : Nat
  e : Nat
  g : Int
structure MD where
  n : Nat
  ss : List Stp
  es : List Nat
def stpV (s : Stp) : List V := [.int (s.b : Nat), .str ⟨#[s.c]⟩, .int (s.e : Nat), .int s.g]
structure Stp.Ok (n : Nat) (s : Stp) : Prop where
  b : s.b < n
  c : 97 ≤ s.c
  c' : s.c ≤ 100
  e : s.e < n
  g : -(10 ^ 30) ≤ s.g
  g' : s.g ≤ 10 ^ 30
def Stp.lt (s t : Stp) : Prop := s.b < t.b ∨ (s.b = t.b ∧ s.c < t.c)
structure MD.Ok (m : MD) : Prop where
  n1 : 1 ≤ m.n
  n8 : m.n ≤ 8
  ok : ∀ s ∈ m.ss, s.Ok m.n
  up : m.ss.Pairwise Stp.lt
  len : m.ss.length ≤ 32
  eb : ∀ e ∈ m.es, e < m.n
  eu : m.es.Pairwise (· < ·)
  el : m.es.length ≤ 8
/-- steps alone, whatever the number of stands -/
structure StOk (N : Nat) (s : Stp) : Prop where
  b : s.b < N
  c : 97 ≤ s.c
  c' : s.c ≤ 100
  e : s.e < N
  g : -(10 ^ 32) ≤ s.g
  g' : s.g ≤ 10 ^ 32
structure SsOk (N : Nat) (ss : List Stp) : Prop where
  n1 : 1 ≤ N
  n64 : N ≤ 63
  ok : ∀ s ∈ ss, StOk N s
  len : ss.length ≤ 300
theorem MD.Ok.sok {m : MD} (o : m.Ok) : SsOk m.n m.ss := ⟨o.n1, by have := o.n8; omega, fun s h => let k := o.ok s h; ⟨k.b, k.c, k.c', k.e, by have := k.g; omega, by have := k.g'; omega⟩, by have := o.len; omega⟩
/-- the steps' tuples -/
def StpsAt (K : PySem.W.Frag) (H : Hp) (vs : List V) (ss : List Stp) : Prop := vs.length = ss.length ∧ ∀ (i : Nat) (s : Stp), ss[i]? = some s → ∃ p, vs[i]? = some (V.ref p) ∧ SqT K H p (stpV s)
def nats (es : List Nat) : List V := es.map fun e => V.int (e : Nat)
def StAt (K : PySem.W.Frag) (H : Hp) (t : Addr) (ss : List Stp) : Prop := ∃ us, SqT K H t us ∧ StpsAt K H us ss
/-- steps and ends as they stand -/
def PartsAt (K : PySem.W.Frag) (H : Hp) (t u : Addr) (m : MD) : Prop := (∃ vs, SqT K H t vs ∧ StpsAt K H vs m.ss) ∧ SqT K H u (nats m.es)
def DAt (K : PySem.W.Frag) (H : Hp) (d : Addr) (m : MD) : Prop := ∃ t u, H d = some (.dK [(.inr "stands", .int (m.n : Nat)), (.inr "steps", .ref t), (.inr "ends", .ref u)]) ∧ PartsAt K H t u m
def mfs (n : Nat) (t u : Addr) : List (Str × V) := [("_stands", .int (n : Nat)), ("_steps", .ref t), ("_ends", .ref u)]
def MAt (K : PySem.W.Frag) (C : Addr) (H : Hp) (x : Addr) (m : MD) : Prop := ∃ dx t u, H x = some (.ins C dx (mfs m.n t u)) ∧ PartsAt K H t u m
section
variable {K : PySem.W.Frag} {a : Addr} {H H' : Hp}
/-- tuples stay -/
def Tups (H H' : Hp) : Prop := (∀ b xs, H b = some (.tup xs) → H' b = some (.tup xs)) ∧ ∀ b o xs, H b = some (.frz o (.tup xs)) → H' b = some (.frz o (.tup xs))
theorem Tups.trans {H H1 H2 : Hp} (a : Tups H H1) (b : Tups H1 H2) : Tups H H2 := ⟨fun c xs e => b.1 c xs (a.1 c xs e), fun c o xs e => b.2 c o xs (a.2 c o xs e)⟩
theorem Tups.sq {p : Addr} {xs : List V} (k : Tups H H') (h : SqT K H p xs) : SqT K H' p xs := by
  rcases h with (h | ⟨o, h⟩) | h
  · exact .inl (.inl (k.1 _ _ h))
  · exact .inl (.inr ⟨o, k.2 _ _ _ h⟩)
  · exact .inr h
theorem Tups.steps {vs : List V} {ss : List Stp} (k : Tups H H') (h : StpsAt K H vs ss) : StpsAt K H' vs ss := ⟨h.1, fun i s e => let ⟨p, e1, q⟩ := h.2 i s e; ⟨p, e1, k.sq q⟩⟩
theorem Tups.stAt {t : Addr} {ss : List Stp} (k : Tups H H') (h : StAt K H t ss) : StAt K H' t ss := let ⟨us, q, z⟩ := h; ⟨us, k.sq q, k.steps z⟩
theorem Tups.parts {t u : Addr} {m : MD} (k : Tups H H') (h : PartsAt K H t u m) : PartsAt K H' t u m := let ⟨⟨vs, q, z⟩, r⟩ := h; ⟨⟨vs, k.sq q, k.steps z⟩, k.sq r⟩
theorem same_tups (k : Same H H') : Tups H H' := ⟨fun _ _ e => k _ _ e, fun _ _ _ e => k _ _ e⟩
theorem Keep.tups {l : List V} (k : Keep a H H') (ha : H a = some (.lst l)) : Tups H H' := ⟨fun b _ e => k _ _ (fun z => by rw [z, ha] at e; cases e) e, fun b _ _ e => k _ _ (fun z => by rw [z, ha] at e; cases e) e⟩
theorem Tups.new {p : Addr} {o : HO} (h : H p = none) : Tups H (upd H p o) := same_tups (Same.new h)
theorem Tups.lst {p : Addr} {xs : List V} {o : HO} (h : H p = some (.lst xs)) : Tups H (upd H p o) := Keep.tups (Keep.at_) h
theorem DAt.keep {d : Addr} {m : MD} {l : List V} (h : DAt K H d m) (k : Keep a H H') (ha : H a = some (.lst l)) : DAt K H' d m :=
  let ⟨t, u, e, q⟩ := h; ⟨t, u, k _ _ (fun z => by rw [z, ha] at e; cases e) e, (k.tups ha).parts q⟩
theorem MAt.keep {C x : Addr} {m : MD} {l : List V} (h : MAt K C H x m) (k : Keep a H H') (ha : H a = some (.lst l)) : MAt K C H' x m :=
  let ⟨dx, t, u, e, q⟩ := h; ⟨dx, t, u, k _ _ (fun z => by rw [z, ha] at e; cases e) e, (k.tups ha).parts q⟩
theorem DAt.same {d : Addr} {m : MD} (h : DAt K H d m) (k : Same H H') : DAt K H' d m := let ⟨t, u, e, q⟩ := h; ⟨t, u, k _ _ e, (same_tups k).parts q⟩
theorem MAt.same {C x : Addr} {m : MD} (h : MAt K C H x m) (k : Same H H') : MAt K C H' x m := let ⟨dx, t, u, e, q⟩ := h; ⟨dx, t, u, k _ _ e, (same_tups k).parts q⟩
theorem StpsAt.snoc {vs : List V} {ss : List Stp} {p : Addr} {s : Stp} (h : StpsAt K H vs ss) (q : SqT K H p (stpV s)) : StpsAt K H (vs ++ [V.ref p]) (ss ++ [s]) := by
  refine ⟨by rw [List.length_append, List.length_append, h.1]; rfl, fun i t e => ?_⟩
  by_cases c : i < ss.length
  · rw [List.getElem?_append_left c] at e
    obtain ⟨r, e1, q1⟩ := h.2 i t e
    exact ⟨r, by rw [List.getElem?_append_left (by rw [h.1]; exact c)]; exact e1, q1⟩
  · rw [List.getElem?_append_right (by omega)] at e
    have z : i - ss.length = 0 := by
      have := (List.getElem?_eq_some_iff.mp e).1
      simp at this
      omega
    rw [z] at e
    cases e
    exact ⟨p, by rw [List.getElem?_append_right (by rw [h.1]; omega), h.1, z]; rfl, q⟩
end
/-! ### what a machine checks -/
def NotInt (K : PySem.W.Frag) (H : Hp) (v : V) : Prop := (∃ b, v = .bl b) ∨ ∃ t, TyX K H v t ∧ PySem.W.kitOne K t (.type "int") = some false
theorem k_isi {K : PySem.W.Frag} {H : Hp} {Q : VK} {x c : V} {t u : Value} {b : Bool} (hc : ClsV c u) (ht : TyX K H x t) (hk : PySem.W.kitOne K t u = some b) (h : Q (.bl b) H) : rIsi K [x, c] H Q := ⟨x, c, t, u, b, rfl, hc, ht, hk, h⟩
theorem k_chain {r r' : R2} {ta tb tc : TE} {σ : L2.St} {H : Hp} {Q : VK} (h : ta σ H fun x H1 => tb σ H1 fun y H2 => r x y H2 fun z H3 => ∃ k, z = .bl k ∧
  (if k = true then tc σ H3 fun w' H4 => r' y w' H4 Q else Q (.bl false) H3)) : tChain r r' ta tb tc σ H Q := h
def sp_whole (K : PySem.W.Frag) : Sp := fun vs H Q _ => ∃ v : V, vs = [v] ∧ ((∃ i, v = .int i ∧ Q (.bl true) H) ∨ (NotInt K H v ∧ Q (.bl false) H))
def sp_between (K : PySem.W.Frag) : Sp := fun vs H Q _ => ∃ (v : V) (lo hi : Int), vs = [v, .int lo, .int hi] ∧ ((∃ i, v = .int i ∧ Q (.bl (decide (lo ≤ i ∧ i ≤ hi))) H) ∨ (NotInt K H v ∧ Q (.bl false) H))
def sp_is_stand (K : PySem.W.Frag) : Sp := fun vs H Q _ => ∃ (v : V) (n : Int), vs = [.int n, v] ∧ ((∃ i, v = .int i ∧ Q (.bl (decide (0 ≤ i ∧ i < n))) H) ∨ (NotInt K H v ∧ Q (.bl false) H))
def sp_check_stands (K : PySem.W.Frag) : Sp := fun vs H Q _ => ∃ n : Int, vs = [.int n] ∧ 1 ≤ n ∧ n ≤ 8 ∧ Q .non H
section
variable {P : Program} {w : World} {K : PySem.W.Frag} {mg : Str → Option Value} {base : Heap}
theorem ok_is_whole_number (T : Txt K mg) : FnOk P w K mg base (L2.CX P w) 1 T.a_is_whole_number T.fd_is_whole_number ["value"] (sp_whole K) := by
  refine T.F_is_whole_number.okX sc_is_whole_number (fun vs H Q E h => ?_) (fun cdv A outer s H vs Q E hr h => ?_)
  · obtain ⟨v, rfl, _⟩ := h
    rfl
  · obtain ⟨v, rfl, k⟩ := h
    refine ⟨_, (PSs.nox (pss_one (ps_ret (pe_and (pe_callB call_isi (by rfl) T.z_isinstance (by decide +kernel) (pa_cons (pv 0) (pa_cons (pe_bltn (v := .ty "int") (by rfl) T.z_int (by decide +kernel) rfl) pa_nil))) (pe_one (pe_not (pe_callB call_isi (by rfl) T.z_isinstance (by decide +kernel) (pa_cons (pv 0) (pa_cons (pe_bltn (v := .ty "bool") (by rfl) T.z_bool (by decide +kernel) rfl) pa_nil))))))))), ?_⟩
    walk_at "begin"
    walk_at "go"
    rcases k with ⟨i, rfl, k⟩ | ⟨⟨b, rfl⟩ | ⟨t, ht, hk⟩, k⟩
    · refine k_isi (.ty _) (.base (.int i)) (kit_ty (b := "int") (r := true) (by decide +kernel)) ?_
      walk_at "go"
      refine iteT ?_
      walk_at "go"
      refine k_isi (.ty _) (.base (.int i)) (kit_ty (b := "bool") (r := false) (by decide +kernel)) ?_
      walk_at "go"
      exact k
    · refine k_isi (.ty _) (.base (.bl b)) (kit_ty (b := "int") (r := true) (by decide +kernel)) ?_
      walk_at "go"
      refine iteT ?_
      walk_at "go"
      refine k_isi (.ty _) (.base (.bl b)) (kit_ty (b := "bool") (r := true) (by decide +kernel)) ?_
      walk_at "go"
      exact k
    · refine k_isi (.ty _) ht hk ?_
      walk_at "go"
      exact iteF k
theorem ok_is_integer_between (T : Txt K mg) : FnOk P w K mg base (L2.CX P w) 2 T.a_is_integer_between T.fd_is_integer_between ["value", "least", "most"] (sp_between K) := by
  refine T.F_is_integer_between.okX sc_is_integer_between (fun vs H Q E h => ?_) (fun cdv A outer s H vs Q E hr h => ?_)
  · obtain ⟨v, lo, hi, rfl, _⟩ := h
    rfl
  · obtain ⟨v, lo, hi, rfl, k⟩ := h
    refine ⟨_, (PSs.nox (pss_one (ps_ret (pe_and (pe_call (ok_is_whole_number T) (hr.mono (by decide)) (by rfl) T.m_is_whole_number T.k_is_whole_number T.b_is_whole_number .nil passL (pa_cons (pv 0) pa_nil)) (pe_one (pe_chain op_le op_le (pv 1) (pv 0) (pv 2))))))), ?_⟩
    walk_at "begin"
    walk_at "go"
    rcases k with ⟨i, rfl, k⟩ | ⟨ni, k⟩
    · refine ⟨_, rfl, .inl ⟨i, rfl, ?_⟩⟩
      walk_at "go"
      refine iteT (k_chain ?_)
      walk_at "go"
      refine k_ite (fun c => ?_) (fun c => ?_)
      · walk_at "go"
        rw [decide_eq_decide.mpr (show lo ≤ i ∧ i ≤ hi ↔ i ≤ hi from ⟨fun z => z.2, fun z => ⟨c, z⟩⟩)] at k
        exact k
      · walk_at "go"
        rw [decide_eq_false (show ¬ (lo ≤ i ∧ i ≤ hi) from fun z => c z.1)] at k
        exact k
    · refine ⟨_, rfl, .inr ⟨ni, ?_⟩⟩
      walk_at "go"
      exact iteF k
theorem ok_is_stand (T : Txt K mg) : FnOk P w K mg base (L2.CX P w) 3 T.a_is_stand T.fd_is_stand ["stands", "value"] (sp_is_stand K) := by
  refine T.F_is_stand.okX sc_is_stand (fun vs H Q E h => ?_) (fun cdv A outer s H vs Q E hr h => ?_)
  · obtain ⟨v, n, rfl, _⟩ := h
    rfl
  · obtain ⟨v, n, rfl, k⟩ := h
    refine ⟨_, (PSs.nox (pss_one (ps_ret (pe_call (ok_is_integer_between T) (hr.mono (by decide)) (by rfl) T.m_is_integer_between T.k_is_integer_between T.b_is_integer_between .nil passL (pa_cons (pv 1) (pa_cons pe_int (pa_cons (pe_op op_sub (pv 0) pe_int) pa_nil))))))), ?_⟩
    walk_at "begin"
    walk_at "go"
    refine ⟨v, 0, n - 1, rfl, ?_⟩
    rcases k with ⟨i, rfl, k⟩ | ⟨ht, k⟩
    · refine .inl ⟨i, rfl, ?_⟩
      rw [decide_eq_decide.mpr (show (0 ≤ i ∧ i < n) ↔ (0 ≤ i ∧ i ≤ n - 1) by omega)] at k
      exact k
    · exact .inr ⟨ht, k⟩
theorem ok_check_stands (T : Txt K mg) : FnOk P w K mg base (L2.CX P w) 3 T.a_check_stands T.fd_check_stands ["stands"] (sp_check_stands K) := by
  refine T.F_check_stands.okX sc_check_stands (fun vs H Q E h => ?_) (fun cdv A outer s H vs Q E hr h => ?_)
  · obtain ⟨n, rfl, _⟩ := h
    rfl
  · obtain ⟨n, rfl, n1, n8, k⟩ := h
    refine ⟨_, (PSs.nox (pss_one (ps_if (pt_not (pt_val (pe_call (ok_is_integer_between T) (hr.mono (by decide)) (by rfl) T.m_is_integer_between T.k_is_integer_between T.b_is_integer_between .nil passL (pa_cons (pv 0) (pa_cons pe_int (pa_cons (pe_glob (by rfl) T.m_MOST_STANDS T.r_MOST_STANDS) pa_nil))))))
  (pss_one ps_never)
  pss_nil))), ?_⟩
    walk_at "begin"
    walk_at "go"
    refine ⟨_, 1, 8, rfl, .inl ⟨n, rfl, ?_⟩⟩
    rw [decide_eq_true (show 1 ≤ n ∧ n ≤ 8 from ⟨n1, n8⟩)]
    walk_at "go"
    refine iteF ?_
    walk_at "go"
    exact k
end
/-! ### (int, text) <= (int, text) -/
def le2 (i : Int) (s : Str) (j : Int) (t : Str) : Bool := if i = j then (if s = t then true else !decide (t.cps.toList < s.cps.toList)) else decide (i ≤ j)
def rLe2 (K : PySem.W.Frag) : R2 := fun x y H Q => ∃ (a b : Addr) (i j : Int) (s t : Str), x = .ref a ∧ y = .ref b ∧ SqT K H a [.int i, .str s] ∧ SqT K H b [.int j, .str t] ∧ Q (.bl (le2 i s j t)) H
theorem op_le2 {X : Cx} (hu : X.A.units < cLine) : OpR X (compareOp .LtE) (rLe2 X.K) := by
  rintro pins st σ H x y v u Q I rx ry ⟨a, b, i, j, s, t, rfl, rfl, ha, hb, q⟩
  cases rx
  cases ry
  obtain ⟨us, r1, p1, _⟩ := I.tuple ha
  obtain ⟨ws, r2, p2, _⟩ := I.tuple hb
  obtain ⟨u1, u2, rfl, ⟨k1, rfl⟩, ⟨k2, rfl⟩⟩ := vals2 r1
  obtain ⟨w1, w2, rfl, ⟨l1, rfl⟩, ⟨l2, rfl⟩⟩ := vals2 r2
  have R := Ob.RcOp.tuples_le (A := X.A) (s := st) (e := fun n => if n = 0 then (i == j) else decide (s = t)) (r := fun n => if n = 0 then decide (i ≤ j) else !decide (t.cps.toList < s.cps.toList)) p1 p2 hu
    (fun n h1 h2 => by
      have n2 : n < 2 := h1
      match n, n2 with
      | 0, _ => exact SeqAt.EqAt.int_int _ _ _ _
      | 1, _ => exact SeqAt.EqAt.str_str _ _ _ _)
    (fun n h1 h2 _ => by
      have n2 : n < 2 := h1
      match n, n2 with
      | 0, _ => exact Ob.RcOp.le_int _ _ _ _
      | 1, _ => exact fun prog w E Q hQ => PySem.P.le_str hQ)
  have z : Ob.lexAt (fun n => if n = 0 then (i == j) else decide (s = t)) (fun n => if n = 0 then decide (i ≤ j) else !decide (t.cps.toList < s.cps.toList)) (decide ((2 : Nat) ≤ 2)) 0 (min 2 2) = le2 i s j t := by
    show Ob.lexAt _ _ _ 0 2 = _
    rw [Ob.lexAt_succ]
    unfold le2
    by_cases c : i = j
    · have c' : (i == j) = true := beq_iff_eq.mpr c
      simp only [if_pos, c', if_pos c]
      rw [Ob.lexAt_succ]
      by_cases d : s = t
      · simp [d, Ob.lexAt_zero]
      · simp [d]
    · have c' : (i == j) = false := beq_eq_false_iff_ne.mpr c
      simp [c']
      exact fun z => absurd z c
  have R' := R X.prog X.w X.xe (EP X pins σ Q) ⟨.bl _, H, I, rfl, (by rw [← z] at q; exact q)⟩
  exact R'
/-! ### steps, ends, machines -/
theorem ty_tup {K : PySem.W.Frag} {H : Hp} {p : Addr} {xs : List V} (h : SqT K H p xs) : TyX K H (.ref p) (.type "tuple") := by
  rcases h with (h | ⟨o, h⟩) | ⟨o, its, n, h, hc, _⟩
  · exact .base (.tup h)
  · exact .fTuple h
  · exact .kTuple h hc
theorem k_in {K : PySem.W.Frag} {neg : Bool} {H : Hp} {Q : VK} {p : Addr} {x : V} {xs : List V} (h : SqL K H p xs ∨ SqT K H p xs) (fx : flatV x = true) (fa : xs.all flatV = true) (q : Q (.bl (if neg then !inV x xs else inV x xs)) H) : rIn K neg x (.ref p) H Q := ⟨p, xs, rfl, h, fx, fa, q⟩
theorem letter_in {c : Nat} (h : 97 ≤ c) (h' : c ≤ 100) : inV (.str ⟨#[c]⟩) [V.str "a", V.str "b", V.str "c", V.str "d"] = true := by
  have z : c = 97 ∨ c = 98 ∨ c = 99 ∨ c = 100 := by omega
  rcases z with rfl | rfl | rfl | rfl <;> decide
theorem k_slA2 {K : PySem.W.Frag} {H : Hp} {Q : VK} {a : Addr} {x y z u : V} (h : SqT K H a [x, y, z, u]) (q : ∀ p, H p = none → Q (.ref p) (upd H p (.tup [x, y]))) : rSlA K (.ref a) none (some 2) H Q :=
  ⟨a, _, rfl, h, fun e => absurd e (by show ¬ ((0 : Nat) = 0 ∧ (2 : Nat) = 4); decide), fun _ p hp => q p hp⟩
theorem le2_no {s t : Stp} (h : s.lt t) : le2 (t.b : Nat) ⟨#[t.c]⟩ (s.b : Nat) ⟨#[s.c]⟩ = false := by
  unfold le2
  rcases h with h | ⟨h1, h2⟩
  · rw [if_neg (by omega), decide_eq_false (by omega)]
  · rw [if_pos (by omega), if_neg (by intro z; injection z with z; simp at z; omega)]
    simp
    exact List.Lex.rel h2
theorem few {n : Nat} (k : Nat) (h : k < 1000) (q : n ≤ k) : n < 1000 := Nat.lt_of_le_of_lt q h
def sp_is_step (K : PySem.W.Frag) : Sp := fun vs H Q _ => ∃ (n : Nat) (p : Addr) (s : Stp), vs = [.int (n : Nat), .ref p] ∧ SqT K H p (stpV s) ∧ s.Ok n ∧ Q (.bl true) H
def sp_check_steps (K : PySem.W.Frag) : Sp := fun vs H Q _ => ∃ (t : Addr) (us : List V) (m : MD), vs = [.int (m.n : Nat), .ref t] ∧ SqT K H t us ∧ StpsAt K H us m.ss ∧ m.Ok ∧ ∀ H', Same H H' → Q .non H'
def sp_check_ends (K : PySem.W.Frag) : Sp := fun vs H Q _ => ∃ (t : Addr) (m : MD), vs = [.int (m.n : Nat), .ref t] ∧ SqT K H t (nats m.es) ∧ m.Ok ∧ ∀ H', Same H H' → Q .non H'
/-- whether values are ascending integers from l to below n -/
def ascV (n : Int) : Int → List V → Bool
  | _, [] => true
  | l, .int j :: r => decide (l ≤ j ∧ j ≤ n - 1) && ascV n (j + 1) r
  | _, _ => false
theorem ascV_odd {n l : Int} {x : V} {r : List V} (h : ∀ j, x ≠ .int j) : ascV n l (x :: r) = false := by
  cases x with
  | int j => exact (h j rfl).elim
  | _ => rfl
theorem ascV_nats {n : Nat} : ∀ {es : List Nat} {l : Nat}, (∀ e ∈ es, e < n) → es.Pairwise (· < ·) → (∀ e ∈ es, l ≤ e) → ascV (n : Nat) (l : Nat) (nats es) = true
  | [], _, _, _, _ => rfl
  | e :: es, l, h1, h2, h3 => by
    show (decide (((l : Nat) : Int) ≤ (e : Nat) ∧ ((e : Nat) : Int) ≤ (n : Nat) - 1) && ascV (n : Nat) (((e + 1 : Nat)) : Int) (nats es)) = true
    have a := h1 e (List.mem_cons_self ..)
    have b := h3 e (List.mem_cons_self ..)
    have c := List.pairwise_cons.mp h2
    rw [decide_eq_true (by omega), ascV_nats (fun x hx => h1 x (List.mem_cons_of_mem _ hx)) c.2 (fun x hx => c.1 x hx)]
    rfl
def sp_asc (K : PySem.W.Frag) : Sp := fun vs H Q _ => ∃ (v : V) (n : Int), vs = [v, .int n] ∧ ((∃ ty, TyX K H v ty ∧ PySem.W.kitOne K ty (.type "tuple") = some false ∧ Q (.bl false) H) ∨
  ∃ t xs, v = .ref t ∧ SqT K H t xs ∧ (∀ x ∈ xs, (∃ j, x = .int j) ∨ (NotInt K H x ∧ ∀ j, x ≠ .int j)) ∧ Q (.bl (ascV n 0 xs)) H)
def sp_init (K : PySem.W.Frag) (C : Addr) : Sp := fun vs H Q _ => ∃ (x dx t u : Addr) (m : MD), vs = [.ref x, .int (m.n : Nat), .ref t, .ref u] ∧ H x = some (.ins C dx []) ∧ PartsAt K H t u m ∧ m.Ok ∧
  ∀ H', Keep x H H' → H' x = some (.ins C dx (mfs m.n t u)) → Q .non H'
def sp_machine (K : PySem.W.Frag) (C : Addr) : Sp := fun vs H Q _ => ∃ (d : Addr) (m : MD), vs = [.ref d] ∧ DAt K H d m ∧ m.Ok ∧ ∀ x H', Same H H' → H x = none → MAt K C H' x m → Q (.ref x) H'
section
variable {P : Program} {w : World} {K : PySem.W.Frag} {mg : Str → Option Value} {base : Heap}
theorem ok_is_step (T : Txt K mg) : FnOk P w K mg base (L2.CX P w) 4 T.a_is_step T.fd_is_step ["stands", "value"] (sp_is_step K) := by
  refine T.F_is_step.okX sc_is_step (fun vs H Q E h => ?_) (fun cdv A outer s H vs Q E hr h => ?_)
  · obtain ⟨n, p, s, rfl, _⟩ := h
    rfl
  · obtain ⟨n, p, t, rfl, hp, o, k⟩ := h
    refine ⟨_, (PSs.nox (pss_cons (ps_if (PW.pt (pw_or (pt_not (pt_val (pe_callB call_isi (by rfl) T.z_isinstance (by decide +kernel) (pa_cons (pv 1) (pa_cons (pe_bltn (v := .ty "tuple") (by rfl) T.z_tuple (by decide +kernel) rfl) pa_nil))))) (pw_or1 (pt_cmpR op_ne (pe_callB call_len_seq (by rfl) T.z_len PySem.boot_len (pa_cons (pv 1) pa_nil)) pe_int (nomark _)))))
  (pss_one (ps_ret pe_bl))
  pss_nil)
  (pss_cons (ps_asg (pv 1) (pg_tup rfl (pgs_cons (pg_name (i := 2) sc_is_step.nd rfl (Or.inl rfl)) (pgs_cons (pg_name (i := 3) sc_is_step.nd rfl (Or.inl rfl)) (pgs_cons (pg_name (i := 4) sc_is_step.nd rfl (Or.inl rfl)) (pgs_cons (pg_name (i := 5) sc_is_step.nd rfl (Or.inl rfl)) pgs_nil))))))
  (pss_one (ps_ret (pe_and (pe_call (ok_is_stand T) (hr.mono (by decide)) (by rfl) T.m_is_stand T.k_is_stand T.b_is_stand .nil passL (pa_cons (pv 0) (pa_cons (pv 2) pa_nil))) (pe_and (pe_cmpR op_in_seq (pv 3) (pe_glob (by rfl) T.m_LETTERS T.r_LETTERS) (by rfl)) (pe_and (pe_call (ok_is_stand T) (hr.mono (by decide)) (by rfl) T.m_is_stand T.k_is_stand T.b_is_stand .nil passL (pa_cons (pv 0) (pa_cons (pv 4) pa_nil))) (pe_one (pe_call (ok_is_integer_between T) (hr.mono (by decide)) (by rfl) T.m_is_integer_between T.k_is_integer_between T.b_is_integer_between .nil passL (pa_cons (pv 5) (pa_cons (pe_un un_neg (pe_glob (by rfl) T.m_MOST_GAIN T.r_MOST_GAIN)) (pa_cons (pe_glob (by rfl) T.m_MOST_GAIN T.r_MOST_GAIN) pa_nil))))))))))))), ?_⟩
    walk_at "begin"
    walk_at "go"
    refine k_isi (.ty _) (ty_tup hp) (kit_ty (b := "tuple") (r := true) (by decide +kernel)) ?_
    walk_at "go"
    refine iteF ?_
    walk_at "go"
    refine k_len (.inr hp) ?_
    walk_at "go"
    refine iteF ?_
    walk_at "go"
    refine k_gt hp rfl ?_
    unfold stpV
    walk_at "go"
    refine ⟨_, _, rfl, .inl ⟨_, rfl, ?_⟩⟩
    rw [decide_eq_true (show 0 ≤ ((t.b : Nat) : Int) ∧ ((t.b : Nat) : Int) < (n : Nat) from ⟨Int.natCast_nonneg _, by have := o.b; omega⟩)]
    walk_at "go"
    refine iteT ?_
    walk_at "go"
    refine k_in (.inr (T.s_LETTERS _)) rfl (by decide) ?_
    rw [letter_in o.c o.c']
    walk_at "go"
    refine iteT ?_
    walk_at "go"
    refine ⟨_, _, rfl, .inl ⟨_, rfl, ?_⟩⟩
    rw [decide_eq_true (show 0 ≤ ((t.e : Nat) : Int) ∧ ((t.e : Nat) : Int) < (n : Nat) from ⟨Int.natCast_nonneg _, by have := o.e; omega⟩)]
    walk_at "go"
    refine iteT ?_
    walk_at "go"
    refine ⟨_, _, _, rfl, .inl ⟨_, rfl, ?_⟩⟩
    rw [decide_eq_true (show -1000000000000000000000000000000 ≤ t.g ∧ t.g ≤ 1000000000000000000000000000000 from ⟨by have := o.g; omega, by have := o.g'; omega⟩)]
    exact k
theorem ok_check_steps (T : Txt K mg) : FnOk P w K mg base (L2.CX P w) 5 T.a_check_steps T.fd_check_steps ["stands", "steps"] (sp_check_steps K) := by
  refine T.F_check_steps.okX sc_check_steps (fun vs H Q E h => ?_) (fun cdv A outer s H vs Q E hr h => ?_)
  · obtain ⟨t, us, m, rfl, _⟩ := h
    rfl
  · obtain ⟨t, us, m, rfl, ht, hs, o, k⟩ := h
    refine ⟨_, (PSs.nox (pss_cons (ps_if (pt_not (pt_val (pe_callB call_isi (by rfl) T.z_isinstance (by decide +kernel) (pa_cons (pv 1) (pa_cons (pe_bltn (v := .ty "tuple") (by rfl) T.z_tuple (by decide +kernel) rfl) pa_nil)))))
  (pss_one ps_never)
  pss_nil)
  (pss_one (ps_for PassesOwn.never rfl (pi_enumT (by rfl) T.z_enumerate (pa_cons (pv 1) pa_nil)) (pg_tup rfl (pgs_cons (pg_name (i := 2) sc_check_steps.nd rfl (Or.inl rfl)) (pgs_cons (pg_name (i := 3) sc_check_steps.nd rfl (Or.inl rfl)) pgs_nil)))
  (pss_cons (ps_if (pt_not (pt_val (pe_call (ok_is_step T) (hr.mono (by decide)) (by rfl) T.m_is_step T.k_is_step T.b_is_step .nil passL (pa_cons (pv 0) (pa_cons (pv 3) pa_nil)))))
  (pss_one ps_never)
  pss_nil)
  (pss_one (ps_if (PW.pt (pw_and (pt_cmpR op_gt (pv 2) pe_int (nomark _)) (pw_and1 (pt_cmpR (op_le2 hr.units0) (pe_slice sl_tupA (pv 3) po_none (po_some pe_int)) (pe_slice sl_tupA (pe_ix ix_tup (pv 1) (pe_op op_sub (pv 2) pe_int) (fun _ _ => rfl)) po_none (po_some pe_int)) (nomark _)))))
  (pss_one ps_never)
  pss_nil))))))), ?_⟩
    walk_at "begin"
    walk_at "go"
    refine k_isi (.ty _) (ty_tup ht) (kit_ty (b := "tuple") (r := true) (by decide +kernel)) ?_
    walk_at "go"
    refine iteF ?_
    walk_at "go"
    refine ⟨_, rfl, t, us, rfl, ht, for_enumT (xs := us) (fun i σ H' => Same H H' ∧ ∃ a b, σ = [some (.int (m.n : Nat)), some (.ref t), a, b]) ⟨Same.refl _, _, _, rfl⟩ (fun i σ H' _ ⟨z, _⟩ => (same_tups z).sq ht) ?_ ?_⟩
    · rintro i x p σ H1 hx ⟨z, a, b, rfl⟩ hp
      have il : i < m.ss.length := by rw [← hs.1]; exact (List.getElem?_eq_some_iff.mp hx).1
      obtain ⟨q, eq, hq⟩ := hs.2 i _ (List.getElem?_eq_getElem il)
      rw [hx] at eq
      cases eq
      have z1 : Same H (upd H1 p (.tup [.int (i : Nat), .ref q])) := z.trans (Same.new hp)
      have hq1 := (same_tups z1).sq hq
      have ok1 := o.ok _ (List.getElem_mem il)
      refine k_gt (SqT.of upd_same) rfl ?_
      walk_at "go"
      refine ⟨m.n, q, _, rfl, hq1, ok1, ?_⟩
      walk_at "go"
      refine iteF ?_
      walk_at "go"
      refine k_ite (fun c => ?_) (fun c => iteF ?_)
      · walk_at "go"
        have jl : i - 1 < m.ss.length := by omega
        obtain ⟨q2, eq2, hq2⟩ := hs.2 (i - 1) _ (List.getElem?_eq_getElem jl)
        refine k_slA2 hq1 fun p1 n1 => ?_
        have z2 := z1.trans (Same.new (o := .tup [.int ((m.ss[i]'il).b : Nat), .str ⟨#[(m.ss[i]'il).c]⟩]) n1)
        walk_at "go"
        refine k_ixT ((same_tups z2).sq ht) (v := .ref q2) (at_of (j := i - 1) (by omega) eq2) ?_
        walk_at "go"
        refine k_slA2 ((same_tups z2).sq hq2) fun p2 n2 => ?_
        have z3 := z2.trans (Same.new (o := .tup [.int ((m.ss[i - 1]'jl).b : Nat), .str ⟨#[(m.ss[i - 1]'jl).c]⟩]) n2)
        refine ⟨p1, p2, _, _, _, _, rfl, rfl, SqT.of (Same.new n2 _ _ upd_same), SqT.of upd_same, ?_⟩
        · have up := List.pairwise_iff_getElem.mp o.up (i - 1) i jl il (by omega)
          rw [le2_no up]
          walk_at "go"
          refine iteF ?_
          walk_at "go"
          exact ⟨z3, _, _, rfl⟩
      · walk_at "go"
        exact ⟨z1, _, _, rfl⟩
    · rintro σ H1 ⟨z, _⟩
      exact k H1 z
theorem ok_is_ascending (T : Txt K mg) : FnOk P w K mg base (L2.CX P w) 3 T.a_is_ascending T.fd_is_ascending ["value", "many"] (sp_asc K) := by
  refine T.F_is_ascending.okX sc_is_ascending (fun vs H Q E h => ?_) (fun cdv A outer s H vs Q E hr h => ?_)
  · obtain ⟨v, n, rfl, _⟩ := h
    rfl
  · obtain ⟨v, n, rfl, h⟩ := h
    refine ⟨_, (PSs.nox (pss_cons (ps_if (pt_not (pt_val (pe_callB call_isi (by rfl) T.z_isinstance (by decide +kernel) (pa_cons (pv 0) (pa_cons (pe_bltn (v := .ty "tuple") (by rfl) T.z_tuple (by decide +kernel) rfl) pa_nil)))))
  (pss_one (ps_ret pe_bl))
  pss_nil)
  (pss_cons (ps_set (i := 2) sc_is_ascending.nd rfl (Or.inl rfl) pe_int)
  (pss_cons (ps_for PassesOwn.never rfl (pi_tup (pv 0)) (pg_name (i := 3) sc_is_ascending.nd rfl (Or.inl rfl))
  (pss_cons (ps_if (pt_not (pt_val (pe_call (ok_is_integer_between T) (hr.mono (by decide)) (by rfl) T.m_is_integer_between T.k_is_integer_between T.b_is_integer_between .nil passL (pa_cons (pv 3) (pa_cons (pv 2) (pa_cons (pe_op op_sub (pv 1) pe_int) pa_nil))))))
  (pss_one (ps_ret pe_bl))
  pss_nil)
  (pss_one (ps_set (i := 2) sc_is_ascending.nd rfl (Or.inl rfl) (pe_op op_add (pv 3) pe_int)))))
  (pss_one (ps_ret pe_bl)))))), ?_⟩
    walk_at "begin"
    walk_at "go"
    rcases h with ⟨ty, h1, h2, k⟩ | ⟨t, xs, rfl, ht, hx, k⟩
    · refine k_isi (.ty _) h1 h2 ?_
      walk_at "go"
      refine iteT ?_
      walk_at "go"
      exact k
    · refine k_isi (.ty _) (ty_tup ht) (kit_ty (b := "tuple") (r := true) (by decide +kernel)) ?_
      walk_at "go"
      refine iteF ?_
      walk_at "go"
      refine ⟨t, rfl, ⟨_, ht⟩, ?_⟩
      refine for_tup (xs := xs) (fun i σ H' => H' = H ∧ ∃ (l : Int) (a : Option V), σ = [some (.ref t), some (.int n), some (.int l), a] ∧ ascV n 0 xs = ascV n l (xs.drop i)) ⟨rfl, 0, _, rfl, rfl⟩ (fun i σ H' _ ⟨e, _⟩ => by rw [e]; exact ht) ?_ ?_
      · rintro i x σ H1 hx1 ⟨rfl, l, a, rfl, eq⟩
        have il : i < xs.length := (List.getElem?_eq_some_iff.mp hx1).1
        have dr : xs.drop i = x :: xs.drop (i + 1) := by rw [List.drop_eq_getElem_cons il, (List.getElem?_eq_some_iff.mp hx1).2]
        rw [dr] at eq
        walk_at "go"
        rcases hx x (List.mem_of_getElem? hx1) with ⟨j, rfl⟩ | ⟨ni, nj⟩
        · refine ⟨_, _, _, rfl, .inl ⟨j, rfl, ?_⟩⟩
          by_cases c : l ≤ j ∧ j ≤ n - 1
          · rw [decide_eq_true c]
            walk_at "go"
            refine iteF ?_
            walk_at "go"
            refine ⟨rfl, _, _, rfl, ?_⟩
            rw [eq]
            show (decide (l ≤ j ∧ j ≤ n - 1) && ascV n (j + 1) (xs.drop (i + 1))) = _
            rw [decide_eq_true c]
            rfl
          · rw [decide_eq_false c]
            walk_at "go"
            refine iteT ?_
            walk_at "go"
            have e2 : ascV n 0 xs = false := by
              rw [eq]
              show (decide (l ≤ j ∧ j ≤ n - 1) && ascV n (j + 1) (xs.drop (i + 1))) = _
              rw [decide_eq_false c]
              rfl
            rw [e2] at k
            exact k
        · refine ⟨_, _, _, rfl, .inr ⟨ni, ?_⟩⟩
          walk_at "go"
          refine iteT ?_
          walk_at "go"
          have e2 : ascV n 0 xs = false := by
            rw [eq]
            exact ascV_odd nj
          rw [e2] at k
          exact k
      · rintro σ H1 ⟨rfl, l, a, rfl, eq⟩
        rw [List.drop_length] at eq
        rw [eq] at k
        walk_at "go"
        exact k
theorem ok_check_ends (T : Txt K mg) : FnOk P w K mg base (L2.CX P w) 4 T.a_check_ends T.fd_check_ends ["stands", "ends"] (sp_check_ends K) := by
  refine T.F_check_ends.okX sc_check_ends (fun vs H Q E h => ?_) (fun cdv A outer s H vs Q E hr h => ?_)
  · obtain ⟨t, m, rfl, _⟩ := h
    rfl
  · obtain ⟨t, m, rfl, ht, o, k⟩ := h
    refine ⟨_, (PSs.nox (pss_one (ps_if (pt_not (pt_val (pe_call (ok_is_ascending T) (hr.mono (by decide)) (by rfl) T.m_is_ascending T.k_is_ascending T.b_is_ascending .nil passL (pa_cons (pv 1) (pa_cons (pv 0) pa_nil)))))
  (pss_one ps_never)
  pss_nil))), ?_⟩
    walk_at "begin"
    walk_at "go"
    refine ⟨_, _, rfl, .inr ⟨t, _, rfl, ht, fun x h => ?_, ?_⟩⟩
    · obtain ⟨e, _, rfl⟩ := List.mem_map.mp h
      exact .inl ⟨_, rfl⟩
    rw [show ascV (m.n : Nat) 0 (nats m.es) = true from ascV_nats (l := 0) (fun e h => o.eb e h) o.eu (fun _ _ => Nat.zero_le _)]
    walk_at "go"
    refine iteF ?_
    walk_at "go"
    exact k H (Same.refl _)
theorem ok_Machine_init (T : Txt K mg) : FnOk P w K mg base (L2.CX P w) 6 T.a_Machine_init T.fd_Machine_init ["self", "stands", "steps", "ends"] (sp_init K T.c_Machine) := by
  refine T.F_Machine_init.okX sc_Machine_init (fun vs H Q E h => ?_) (fun cdv A outer s H vs Q E hr h => ?_)
  · obtain ⟨x, dx, t, u, m, rfl, _⟩ := h
    rfl
  · obtain ⟨x, dx, t, u, m, rfl, hx, ⟨⟨us, ht, hs⟩, hu⟩, o, k⟩ := h
    refine ⟨_, (PSs.nox (pss_cons (ps_expr (pe_call (ok_check_stands T) (hr.mono (by decide)) (by rfl) T.m_check_stands T.k_check_stands T.b_check_stands .nil passL (pa_cons (pv 1) pa_nil)))
  (pss_cons (ps_expr (pe_call (ok_check_steps T) (hr.mono (by decide)) (by rfl) T.m_check_steps T.k_check_steps T.b_check_steps .nil passL (pa_cons (pv 1) (pa_cons (pv 2) pa_nil))))
  (pss_cons (ps_expr (pe_call (ok_check_ends T) (hr.mono (by decide)) (by rfl) T.m_check_ends T.k_check_ends T.b_check_ends .nil passL (pa_cons (pv 1) (pa_cons (pv 3) pa_nil))))
  (pss_cons (ps_fld (pv 0) (pv 1) rfl)
  (pss_cons (ps_fld (pv 0) (pv 2) rfl)
  (pss_one (ps_fld (pv 0) (pv 3) rfl)))))))), ?_⟩
    walk_at "begin"
    walk_at "go"
    refine ⟨_, rfl, by have := o.n1; omega, by have := o.n8; omega, ?_⟩
    walk_at "go"
    refine ⟨t, us, m, rfl, ht, hs, o, fun H1 z1 => ?_⟩
    walk_at "go"
    refine ⟨u, m, rfl, (same_tups z1).sq hu, o, fun H2 z2 => ?_⟩
    walk_at "go"
    have e2 : H2 x = some (.ins T.c_Machine dx []) := z2 _ _ (z1 _ _ hx)
    refine ⟨_, rfl, _, rfl, x, _, dx, _, rfl, e2, T.cl_Machine, T.n__stands, (by decide : 0 < 1000), ?_⟩
    refine ⟨_, rfl, _, rfl, x, _, dx, _, rfl, upd_same, T.cl_Machine, T.n__steps, few 1 (by decide) (length_putF _ _ _), ?_⟩
    refine ⟨_, rfl, _, rfl, x, _, dx, _, rfl, upd_same, T.cl_Machine, T.n__ends, few 2 (by decide) (Nat.le_trans (length_putF _ _ _) (Nat.succ_le_succ (length_putF _ _ _))), ?_⟩
    refine k _ (((Keep.of_same (z1.trans z2)).trans Keep.at_).trans (Keep.at_.trans Keep.at_)) ?_
    rw [upd_same]
    rfl
theorem ok_law_machine (T : Txt K mg) : FnOk P w K mg base (L2.CX P w) 8 T.a_law_machine T.fd_law_machine ["_law_d"] (sp_machine K T.c_Machine) := by
  refine T.F_law_machine.okX sc_law_machine (fun vs H Q E h => ?_) (fun cdv A outer s H vs Q E hr h => ?_)
  · obtain ⟨d, m, rfl, _⟩ := h
    rfl
  · obtain ⟨d, m, rfl, ⟨t, u, hd, hp⟩, o, k⟩ := h
    refine ⟨_, (PSs.nox (pss_one (ps_ret (pe_make T.mk_Machine (ok_Machine_init T) (hr.mono (by decide)) (by rfl) T.m_Machine T.b_Machine_init .nil passL (pa_cons (pe_dget (hu_of hr) (pv 0) pe_str (fun _ _ => rfl)) (pa_cons (pe_dget (hu_of hr) (pv 0) pe_str (fun _ _ => rfl)) (pa_cons (pe_dget (hu_of hr) (pv 0) pe_str (fun _ _ => rfl)) pa_nil))))))), ?_⟩
    walk_at "begin"
    walk_at "go"
    refine ⟨d, .int (m.n : Nat), rfl, DGet.k (k := .inr "stands") hd, ?_⟩
    walk_at "go"
    refine ⟨d, .ref t, rfl, DGet.k (k := .inr "steps") hd, ?_⟩
    walk_at "go"
    refine ⟨d, .ref u, rfl, DGet.k (k := .inr "ends") hd, ?_⟩
    walk_at "go"
    intro x dx hx hdx ne
    refine ⟨x, dx, t, u, m, rfl, upd_same, (same_tups ((Same.new hdx).trans (Same.new ?_))).parts hp, o, fun H' z e => ⟨rfl, ?_⟩⟩
    · rw [upd_ne ne.symm]; exact hx
    · have zz : Same H H' := fun b ob eb => z b ob (ne_of_none eb hx) (by rw [upd_ne (ne_of_none eb hx), upd_ne (ne_of_none eb hdx)]; exact eb)
      exact k x H' zz hx ⟨dx, t, u, e, (same_tups zz).parts hp⟩
end
/-! ### steps in a tuple or in a list -/
def SqS (K : PySem.W.Frag) (H : Hp) (a : Addr) (xs : List V) : Prop := SqT K H a xs ∨ SqL K H a xs
theorem SqS.same {K : PySem.W.Frag} {H H' : Hp} {a : Addr} {xs : List V} (h : SqS K H a xs) (z : Same H H') : SqS K H' a xs := h.imp (fun h => (same_tups z).sq h) fun h => z.seq h
def StSq (K : PySem.W.Frag) (H : Hp) (t : Addr) (ss : List Stp) : Prop := ∃ us, SqS K H t us ∧ StpsAt K H us ss
theorem StSq.of {K : PySem.W.Frag} {H : Hp} {t : Addr} {ss : List Stp} (h : StAt K H t ss) : StSq K H t ss := let ⟨us, a, b⟩ := h; ⟨us, .inl a, b⟩
theorem StSq.same {K : PySem.W.Frag} {H H' : Hp} {t : Addr} {ss : List Stp} (h : StSq K H t ss) (z : Same H H') : StSq K H' t ss := let ⟨us, a, b⟩ := h; ⟨us, a.same z, (same_tups z).steps b⟩
def iSq (K : PySem.W.Frag) (tl : TE) : TI := fun σ H R => iTup K tl σ H R ∨ iList K tl σ H R
theorem pi_sq {X : L2.Cx} {tg l : Expr} {tl : TE} (hl : PE X l tl) : PI X tg l (iSq X.K tl) := ⟨fun pins s σ H R I h => h.elim ((pi_tup hl).run pins s σ H R I) ((pi_list hl).run pins s σ H R I)⟩
theorem for_sq {K : PySem.W.Frag} {t : Addr} {xs : List V} {j : Nat} {g : TG} {tb : TS} {D : Ends} {σ : L2.St} {H Hb : Hp} (e : σ[j]? = some (some (.ref t))) (hx : SqS K Hb t xs) (Pv : Nat → L2.St → Hp → Prop) (h0 : Pv 0 σ H) (hl : ∀ i σ H, Pv i σ H → Same Hb H)
    (hs : ∀ i x σ H, xs[i]? = some x → Pv i σ H → g x σ H fun σ2 H2 => tb { D with nx := Pv (i + 1), ct := Pv (i + 1), bk := D.nx } σ2 H2) (hd : ∀ σ H, Pv xs.length σ H → D.nx σ H) :
    iSq K (tVar j) σ H fun J H1 => ∃ W : Nat → Nat → L2.St → Hp → Prop, (∃ m, W 0 m σ H1) ∧ ∀ i m σ H, W i m σ H →
      (J.stop i H ∧ D.nx σ H) ∨ (J.go i H ∧ ∃ N : L2.St → Hp → Prop, (∀ σ' H', N σ' H' → ∃ m', m' < m ∧ W (i + 1) m' σ' H') ∧ ∀ x H', J.yld i H x H' → g x σ H' fun σ2 H2 => tb { D with nx := N, ct := N, bk := D.nx } σ2 H2) := by
  have z0 := hl _ _ _ h0
  rcases hx with hx | hx
  · exact .inl (k_var e ⟨t, rfl, ⟨xs, (same_tups z0).sq hx⟩, for_tup Pv h0 (fun i σ H _ p => (same_tups (hl _ _ _ p)).sq hx) hs hd⟩)
  · exact .inr (k_var e ⟨t, rfl, ⟨xs, z0.seq hx⟩, for_list Pv h0 (fun i σ H _ p => (hl _ _ _ p).seq hx) hs hd⟩)
/-! ### the drawn machines -/
def sp_parts (K : PySem.W.Frag) : Sp := fun vs H Q _ => ∃ (a : Addr) (st : Nat) (sz : Int), vs = [.ref a, .int (st : Nat), .int sz] ∧ 1 ≤ st ∧ st ≤ 8 ∧ 0 ≤ sz ∧ 2 * sz + 1 ≤ 10 ^ 30 ∧ RowOk K H a ∧
  ∀ (d : Addr) (m : MD) (H' : Hp), m.Ok → m.n ≤ st → (∀ s ∈ m.ss, -(2 * sz + 1) ≤ s.g ∧ s.g ≤ 2 * sz + 1) → DAt K H' d m → RowOk K H' a → Keep a H H' → H d = none → Q (.ref d) H'
theorem abcd_cut {k : Nat} (h1 : 1 ≤ k) (h4 : k ≤ 4) : cutS "abcd" none (some ((k : Nat) : Int)) = ⟨(([97, 98, 99, 100] : List Nat).take k).toArray⟩ := by
  have z : k = 1 ∨ k = 2 ∨ k = 3 ∨ k = 4 := by omega
  rcases z with rfl | rfl | rfl | rfl <;> decide
theorem abcd_at {k j c : Nat} (h : (([97, 98, 99, 100] : List Nat).take k).toArray[j]? = some c) : c = 97 + j ∧ j < 4 := by
  rw [List.getElem?_toArray, List.getElem?_take] at h
  split at h
  · match j, h with
    | 0, h => simp at h; omega
    | 1, h => simp at h; omega
    | 2, h => simp at h; omega
    | 3, h => simp at h; omega
    | n + 4, h => simp at h
  · cases h
/-- the steps so far: of the stands below i, and of i by the first j letters -/
structure Sofar (K : PySem.W.Frag) (H : Hp) (l : Addr) (n : Nat) (sz : Int) (i j : Nat) (ss : List Stp) : Prop where
  at_ : ∃ vs, H l = some (.lst vs) ∧ StpsAt K H vs ss
  ok : ∀ s ∈ ss, s.Ok n
  up : ss.Pairwise Stp.lt
  bd : ∀ s ∈ ss, s.b < i ∨ (s.b = i ∧ s.c < 97 + j)
  gb : ∀ s ∈ ss, -(2 * sz + 1) ≤ s.g ∧ s.g ≤ 2 * sz + 1
  len : ss.length ≤ 4 * i + j
theorem Sofar.keep {K : PySem.W.Frag} {H H' : Hp} {l a : Addr} {n i j : Nat} {sz : Int} {ss : List Stp} {xs : List V} (h : Sofar K H l n sz i j ss) (k : Keep a H H') (ha : H a = some (.lst xs)) (ne : l ≠ a) : Sofar K H' l n sz i j ss :=
  let ⟨vs, e, q⟩ := h.at_
  ⟨⟨vs, k _ _ ne e, (k.tups ha).steps q⟩, h.ok, h.up, h.bd, h.gb, h.len⟩
theorem Sofar.more {K : PySem.W.Frag} {H : Hp} {l : Addr} {n i j j' : Nat} {sz : Int} {ss : List Stp} (h : Sofar K H l n sz i j ss) (e : j ≤ j') : Sofar K H l n sz i j' ss :=
  ⟨h.at_, h.ok, h.up, fun s hs => (h.bd s hs).imp id fun z => ⟨z.1, by omega⟩, h.gb, by have := h.len; omega⟩
theorem Sofar.line {K : PySem.W.Frag} {H : Hp} {l : Addr} {n i j : Nat} {sz : Int} {ss : List Stp} (h : Sofar K H l n sz i j ss) (e : j ≤ 4) : Sofar K H l n sz (i + 1) 0 ss :=
  ⟨h.at_, h.ok, h.up, fun s hs => .inl (by rcases h.bd s hs with z | z <;> omega), h.gb, by have := h.len; omega⟩
theorem Sofar.snoc {K : PySem.W.Frag} {H : Hp} {l p : Addr} {n i j e : Nat} {sz g : Int} {ss : List Stp} (h : Sofar K H l n sz i j ss) (hp : H p = none) (hi : i < n) (hj : j < 4) (he : e < n) (z1 : 2 * sz + 1 ≤ 10 ^ 30)
    (g1 : -(2 * sz + 1) ≤ g) (g2 : g ≤ 2 * sz + 1) : ∀ vs, H l = some (.lst vs) →
    Sofar K (upd (upd H p (.tup (stpV ⟨i, 97 + j, e, g⟩))) l (.lst (vs ++ [.ref p]))) l n sz i (j + 1) (ss ++ [⟨i, 97 + j, e, g⟩]) := fun vs ev => by
  obtain ⟨vs', e', q⟩ := h.at_
  rw [ev] at e'
  cases e'
  have np : l ≠ p := ne_of_none ev hp
  have t1 : Tups H (upd H p (.tup (stpV ⟨i, 97 + j, e, g⟩))) := Tups.new hp
  have el : (upd H p (.tup (stpV ⟨i, 97 + j, e, g⟩))) l = some (.lst vs) := by rw [upd_ne np]; exact ev
  have t2 := Tups.lst (o := .lst (vs ++ [.ref p])) el
  have mem : ∀ s, s ∈ ss ++ [(⟨i, 97 + j, e, g⟩ : Stp)] → s ∈ ss ∨ s = ⟨i, 97 + j, e, g⟩ := fun s hs => by simpa using hs
  refine ⟨⟨_, upd_same, (t2.steps ((t1.steps q).snoc (SqT.of upd_same)))⟩, fun s hs => ?_, ?_, fun s hs => ?_, fun s hs => ?_, ?_⟩
  · rcases mem s hs with hs | rfl
    · exact h.ok s hs
    · exact ⟨hi, by show 97 ≤ 97 + j; omega, by show 97 + j ≤ 100; omega, he, by show -(10 ^ 30) ≤ g; omega, by show g ≤ 10 ^ 30; omega⟩
  · refine List.pairwise_append.mpr ⟨h.up, List.pairwise_singleton _ _, fun s hs t ht => ?_⟩
    have ht' : t = ⟨i, 97 + j, e, g⟩ := by simpa using ht
    subst ht'
    rcases h.bd s hs with z | ⟨z, z'⟩
    · exact .inl z
    · exact .inr ⟨z, z'⟩
  · rcases mem s hs with hs | rfl
    · rcases h.bd s hs with z | ⟨z, z'⟩
      · exact .inl z
      · exact .inr ⟨z, by omega⟩
    · exact .inr ⟨rfl, by show 97 + j < 97 + (j + 1); omega⟩
  · rcases mem s hs with hs | rfl
    · exact h.gb s hs
    · exact ⟨g1, g2⟩
  · rw [List.length_append, List.length_singleton]
    have := h.len
    omega
section
variable {P : Program} {w : World} {K : PySem.W.Frag} {mg : Str → Option Value} {base : Heap}
theorem ok_law_parts (T : Txt K mg) : FnOk P w K mg base (L2.CX P w) 2 T.a_law_parts T.fd_law_parts ["_law_row", "_law_stands", "_law_size"] (sp_parts K) := by
  refine T.F_law_parts.okX sc_law_parts (fun vs H Q E h => ?_) (fun cdv A outer s H vs Q E hr h => ?_)
  · obtain ⟨a, st, sz, rfl, _⟩ := h
    rfl
  · obtain ⟨a, st, sz, rfl, st1, st8, sz0, sz1, R0, k⟩ := h
    refine ⟨_, (PSs.nox (pss_cons (ps_par (i := 3) (j := 4) (by rfl) sc_law_parts.nd rfl rfl (by decide) rfl rfl (pa_cons (pe_op op_add pe_int (pe_call (ok_law_taken T) (hr.mono (by decide)) (by rfl) T.m_law_taken T.k_law_taken T.b_law_taken .nil passL (pa_cons (pv 0) (pa_cons (pv 1) pa_nil)))) (pa_cons (pe_call (ok_law_taken T) (hr.mono (by decide)) (by rfl) T.m_law_taken T.k_law_taken T.b_law_taken .nil passL (pa_cons (pv 0) (pa_cons pe_int pa_nil))) pa_nil)) (by rfl))
  (pss_cons (ps_setLc (i := 5) (own := [("_law_stand", 13)]) (g := (gName 13)) (tt := tYes) rfl sc_law_parts.nd rfl rfl (sw_true rfl rfl rfl (by decide +kernel)) (pi_range1 (by rfl) T.z_range (pa_cons (pv 3) pa_nil)) (blkOk_by (own := [("_law_stand", 13)]) (N := ["_law_row", "_law_stands", "_law_size", "_law_many", "_law_kind", "_law_heights", "_law_steps", "_law_letters", "_law_begun", "_law_letter", "_law_end", "_law_gain", "_law_ends", "_law_stand"]) (sc := defScope s_law_parts) (by decide +kernel)) (fun _ _ _ _ _ => (pg_name (i := 13) sc_law_parts.nd rfl (Or.inl rfl))) (fun _ _ _ _ _ => pts_nil) (fun _ _ _ _ _ => (pe_op op_sub (pe_call (ok_law_taken T) (hr.mono (by decide)) (by rfl) T.m_law_taken T.k_law_taken T.b_law_taken .nil passL (pa_cons (pv 0) (pa_cons (pe_op op_add (pe_op op_mulW pe_int (pv 2)) pe_int) pa_nil))) (pv 2))))
  (pss_cons (ps_par (i := 6) (j := 7) (by rfl) sc_law_parts.nd rfl rfl (by decide) rfl rfl (pa_cons (pe_lst pa_nil) (pa_cons (pe_slice sl_str pe_str po_none (po_some (pe_op op_add pe_int (pe_call (ok_law_taken T) (hr.mono (by decide)) (by rfl) T.m_law_taken T.k_law_taken T.b_law_taken .nil passL (pa_cons (pv 0) (pa_cons pe_int pa_nil)))))) pa_nil)) (by rfl))
  (pss_cons (ps_for PassesOwn.never rfl (pi_range1 (by rfl) T.z_range (pa_cons (pv 3) pa_nil)) (pg_name (i := 8) sc_law_parts.nd rfl (Or.inl rfl))
  (pss_one (ps_for PassesOwn.never rfl (pi_str (pv 7)) (pg_name (i := 9) sc_law_parts.nd rfl (Or.inl rfl))
  (pss_one (ps_if (pt_cmpR op_gt (pe_call (ok_law_taken T) (hr.mono (by decide)) (by rfl) T.m_law_taken T.k_law_taken T.b_law_taken .nil passL (pa_cons (pv 0) (pa_cons pe_int pa_nil))) pe_int (nomark _))
  (pss_cons (ps_set (i := 10) sc_law_parts.nd rfl (Or.inl rfl) (pe_call (ok_law_taken T) (hr.mono (by decide)) (by rfl) T.m_law_taken T.k_law_taken T.b_law_taken .nil passL (pa_cons (pv 0) (pa_cons (pv 3) pa_nil))))
  (pss_cons (ps_set (i := 11) sc_law_parts.nd rfl (Or.inl rfl) (pe_op op_sub (pe_ix ix_list (pv 5) (pv 10) (fun _ _ => rfl)) (pe_ix ix_list (pv 5) (pv 8) (fun _ _ => rfl))))
  (C8.pss_cut (ps_if (PW.pt (pw_or (PW.pt (pw_and (pt_cmpR op_eq (pv 4) pe_int (nomark _)) (pw_and1 (pt_cmpR op_eq (pe_call (ok_law_taken T) (hr.mono (by decide)) (by rfl) T.m_law_taken T.k_law_taken T.b_law_taken .nil passL (pa_cons (pv 0) (pa_cons pe_int pa_nil))) pe_int (nomark _))))) (pw_or1 (pt_cmpR op_eq (pv 4) pe_int (nomark _)))))
  (pss_one (ps_set (i := 11) sc_law_parts.nd rfl (Or.inl rfl) (pe_op op_sub (pe_call (ok_law_taken T) (hr.mono (by decide)) (by rfl) T.m_law_taken T.k_law_taken T.b_law_taken .nil passL (pa_cons (pv 0) (pa_cons (pe_op op_add (pe_op op_mulW pe_int (pv 2)) pe_int) pa_nil))) (pv 2))))
  pss_nil)
  (C8.pss_cut (ps_if (PW.pt (pw_and (pt_cmpR op_eq (pv 4) pe_int (nomark _)) (pw_and1 (pt_cmpR op_eq (pe_call (ok_law_taken T) (hr.mono (by decide)) (by rfl) T.m_law_taken T.k_law_taken T.b_law_taken .nil passL (pa_cons (pv 0) (pa_cons pe_int pa_nil))) pe_int (nomark _)))))
  (pss_one (ps_set (i := 11) sc_law_parts.nd rfl (Or.inl rfl) (pe_op op_add (pv 11) pe_int)))
  pss_nil)
  (pss_one (ps_expr (pe_bm PySem.F.plainAttrs_list PySem.F.slot_list_append PySem.F.type_list_append mt_append (pv 6) (pa_cons (pe_tup (pa_cons (pv 8) (pa_cons (pv 9) (pa_cons (pv 10) (pa_cons (pv 11) pa_nil))))) pa_nil))))))))
  pss_nil)))))
  (pss_cons (ps_set (i := 12) sc_law_parts.nd rfl (Or.inl rfl) (pe_callTy call_tuple_of (by rfl) T.z_tuple PySem.Pv.boot_tuple (pa_cons (pe_lc (own := [("_law_stand", 13)]) (g := (gName 13)) rfl sc_law_parts.nd (pi_range1 (by rfl) T.z_range (pa_cons (pv 3) pa_nil)) (blkOk_by (own := [("_law_stand", 13)]) (N := ["_law_row", "_law_stands", "_law_size", "_law_many", "_law_kind", "_law_heights", "_law_steps", "_law_letters", "_law_begun", "_law_letter", "_law_end", "_law_gain", "_law_ends", "_law_stand"]) (sc := defScope s_law_parts) (by decide +kernel)) (fun _ _ _ _ _ => (pg_name (i := 13) sc_law_parts.nd rfl (Or.inl rfl))) (fun _ _ _ _ _ => (pts_one (pt_cmpR op_eq (pe_call (ok_law_taken T) (hr.mono (by decide)) (by rfl) T.m_law_taken T.k_law_taken T.b_law_taken .nil passL (pa_cons (pv 0) (pa_cons pe_int pa_nil))) pe_int (nomark _)))) (fun _ _ _ _ _ => (pv 13))) pa_nil)))
  (pss_one (ps_ret (pe_disp (pps_cons pe_str (pv 3) (pps_cons pe_str (pe_callTy call_tuple_of (by rfl) T.z_tuple PySem.Pv.boot_tuple (pa_cons (pv 6) pa_nil)) (pps_cons pe_str (pv 12) pps_nil))) (by rfl) (by rfl) (fun z => by cases z) (by decide)))))))))), ?_⟩
    walk_at "begin"
    walk_at "go"
    refine ⟨a, _, rfl, by omega, by omega, R0, fun x1 H1 x1a x1b R1 K1 => ?_⟩
    obtain ⟨y, rfl⟩ := Int.eq_ofNat_of_zero_le x1a
    walk_at "go"
    refine ⟨a, 4, rfl, by omega, by decide, R1, fun kind H2 kda kdb R2 K2 => ?_⟩
    walk_at "go"
    have en : (1 + (y : Int)) = ((y + 1 : Nat) : Int) := by omega
    rw [en]
    refine k_rg (by omega) (by omega) fun D hD => ?_
    have K02 := K1.trans K2
    have nD : a ≠ D := R2.ne hD
    have hD0 : H D = none := K02.free nD.symm hD
    have CM : CMulW 2 sz := wide_mul (a := 2) (b := 101) (by decide) (by omega) (by decide) (by decide) (by decide)
    have small : ∀ {hs : List Int} {i : Nat}, hs.length = i → i < 100 → (hs.map V.int).length < sizeLine := fun e q => by
      rw [List.length_map, e]
      exact Nat.lt_trans q (by decide)
    -- the heights
    refine lc_range (lo := 0) (n := (((y + 1 : Nat) : Int)).toNat) (fun i H' => Keep a H H' ∧ RowOk K H' a ∧ ∃ hs : List Int, H' D = some (.lst (hs.map V.int)) ∧ hs.length = i ∧ ∀ h ∈ hs, -sz ≤ h ∧ h ≤ sz)
      ⟨K02.trans (Keep.new hD), R2.same (Same.new hD), [], upd_same, rfl, fun _ h => absurd h (by simp)⟩ ?_ ?_
    · rintro i H3 hi ⟨K3, R3, hs, eD, hl, hb⟩
      walk_at "go"
      refine ⟨rfl, ?_⟩
      walk_at "go"
      refine iteT ?_
      walk_at "go"
      refine k_I CM ?_
      walk_at "go"
      refine ⟨a, _, rfl, by omega, by omega, R3, fun x H4 xa xb R4 K4 => ?_⟩
      walk_at "go"
      have eD4 := K4 _ _ nD.symm eD
      refine ⟨_, eD4, small hl (by omega), (K3.trans K4).mut hD0, R4.keep nD eD4 Keep.at_, hs ++ [x - sz], ?_, ?_, ?_⟩
      · rw [upd_same, List.map_append]; rfl
      · rw [List.length_append, hl]; rfl
      · intro h hh
        rcases List.mem_append.mp hh with hh | hh
        · exact hb h hh
        · have : h = x - sz := by simpa using hh
          omega
    · rintro H3 ⟨K3, R3, hs, eD, hl, hb⟩
      walk_at "go"
      refine ⟨Nat.zero_le _, fun l hl0 => ?_⟩
      have nl : a ≠ l := R3.ne hl0
      have hlH : H l = none := K3.free nl.symm hl0
      have nDl : D ≠ l := ne_of_none eD hl0
      walk_at "go"
      refine ⟨a, 4, rfl, by omega, by decide, R3.same (Same.new hl0), fun x2 H4 xa xb R4 K4 => ?_⟩
      obtain ⟨y2, rfl⟩ := Int.eq_ofNat_of_zero_le xa
      have en2 : (1 + (y2 : Int)) = ((y2 + 1 : Nat) : Int) := by omega
      walk_at "go"
      rw [en2]
      refine k_slS (by decide) ?_
      rw [abcd_cut (by omega) (by omega)]
      walk_at "go"
      refine k_rg (by omega) (by omega) ?_
      have K04 : Keep a H H4 := (K3.trans (Keep.new hl0)).trans K4
      have eD4 : H4 D = some (.lst (hs.map V.int)) := K4 _ _ nD.symm (Keep.new (a := a) hl0 _ _ nD.symm eD)
      have el4 : H4 l = some (.lst []) := K4 _ _ nl.symm upd_same
      clear K3 R3 eD K4
      -- the steps
      obtain ⟨LT, hLT⟩ : ∃ z : Str, z = ⟨(([97, 98, 99, 100] : List Nat).take (y2 + 1)).toArray⟩ := ⟨_, rfl⟩
      rw [← hLT]
      have nat : ∀ z : Nat, ((z : Int)).toNat = z := fun z => rfl
      refine for_range (lo := 0) (n := (((y + 1 : Nat) : Int)).toNat) (fun i σ H' => ∃ ss s8 s9 s10 s11, Keep a H H' ∧ RowOk K H' a ∧ H' D = some (.lst (hs.map V.int)) ∧ Sofar K H' l (y + 1) sz i 0 ss ∧
        σ = [some (.ref a), some (.int (st : Nat)), some (.int sz), some (.int ((y + 1 : Nat) : Int)), some (.int kind), some (.ref D), some (.ref l), some (.str LT), s8, s9, s10, s11, none, none])
        ⟨[], none, none, none, none, K04, R4, eD4, ⟨⟨[], el4, rfl, fun _ _ h => absurd h (by simp)⟩, fun _ h => absurd h (by simp), .nil, fun _ h => absurd h (by simp), fun _ h => absurd h (by simp), Nat.zero_le _⟩, rfl⟩ ?_ ?_
      · rintro i σ H5 hi ⟨ss, s8, s9, s10, s11, K5, R5, eD5, S5, rfl⟩
        walk_at "go"
        refine ⟨_, rfl, for_it walk_str (fun j σ H' => ∃ ss s9 s10 s11, Keep a H H' ∧ RowOk K H' a ∧ H' D = some (.lst (hs.map V.int)) ∧ Sofar K H' l (y + 1) sz i j ss ∧
          σ = [some (.ref a), some (.int (st : Nat)), some (.int sz), some (.int ((y + 1 : Nat) : Int)), some (.int kind), some (.ref D), some (.ref l), some (.str LT), some (.int (0 + (i : Nat))), s9, s10, s11, none, none])
          ⟨ss, s9, s10, s11, K5, R5, eD5, S5, rfl⟩ (fun _ _ _ _ _ => trivial) ?_ ?_⟩
        · rintro j x σ H6 H6' hj ⟨ss, s9, s10, s11, K6, R6, eD6, S6, rfl⟩ ⟨rfl, c, hc, rfl⟩
          have hc' : c = 97 + j ∧ j < 4 := by
            rw [hLT] at hc
            exact abcd_at hc
          obtain ⟨rfl, j4⟩ := hc'
          walk_at "go"
          refine ⟨a, 4, rfl, by omega, by decide, R6, fun x1 H7 _ _ R7 K7 => ?_⟩
          walk_at "go"
          have eD7 := K7 _ _ nD.symm eD6
          obtain ⟨lr, er6⟩ := R6.lst
          have S7 := S6.keep K7 er6 nl.symm
          refine k_ite (fun c1 => ?_) (fun c1 => ?_)
          · walk_at "go"
            refine ⟨a, _, rfl, by omega, by omega, R7, fun x2 H8 x2a x2b R8 K8 => ?_⟩
            obtain ⟨e, rfl⟩ := Int.eq_ofNat_of_zero_le x2a
            have eD8 := K8 _ _ nD.symm eD7
            obtain ⟨lr7, er7⟩ := R7.lst
            have S8 := S7.keep K8 er7 nl.symm
            walk_at "go"
            have le : e < hs.length := by rw [hl, nat]; omega
            have li : i < hs.length := by rw [hl, nat]; omega
            refine k_ixL (SqL.of eD8) (v := .int (hs[e]'le)) (at_of (j := e) rfl (by rw [List.getElem?_map, List.getElem?_eq_getElem le]; rfl)) ?_
            walk_at "go"
            refine k_ixL (SqL.of eD8) (v := .int (hs[i]'li)) (at_of (j := i) (by omega) (by rw [List.getElem?_map, List.getElem?_eq_getElem li]; rfl)) ?_
            have be := hb _ (List.getElem_mem le)
            have bi := hb _ (List.getElem_mem li)
            generalize hs[e]'le = he at be ⊢
            generalize hs[i]'li = hi' at bi ⊢
            walk_at "go"
            have K68 := (K6.trans K7).trans K8
            refine k_cut (fun σ' H' => ∃ g, -(2 * sz) ≤ g ∧ g ≤ 2 * sz ∧ Keep a H H' ∧ RowOk K H' a ∧ H' D = some (.lst (hs.map V.int)) ∧ Sofar K H' l (y + 1) sz i j ss ∧
              σ' = [some (.ref a), some (.int (st : Nat)), some (.int sz), some (.int ((y + 1 : Nat) : Int)), some (.int kind), some (.ref D), some (.ref l), some (.str LT), some (.int (0 + (i : Nat))), some (.str ⟨#[97 + j]⟩), some (.int (e : Nat)), some (.int g), none, none]) ?_ ?_
            · have old : ∀ H', Keep a H8 H' → RowOk K H' a → H' D = some (.lst (hs.map V.int)) ∧ Sofar K H' l (y + 1) sz i j ss := fun H' kk rr => by
                obtain ⟨lr8, er8⟩ := R8.lst
                exact ⟨kk _ _ nD.symm eD8, S8.keep kk er8 nl.symm⟩
              have draw : ∀ H9, Keep a H8 H9 → RowOk K H9 a → ∀ x H10, 0 ≤ x → x < 2 * sz + 1 → RowOk K H10 a → Keep a H9 H10 → -(2 * sz) ≤ x - sz ∧ x - sz ≤ 2 * sz ∧ Keep a H H10 ∧ RowOk K H10 a ∧ H10 D = some (.lst (hs.map V.int)) ∧ Sofar K H10 l (y + 1) sz i j ss := fun H9 k9 r9 x H10 x0 x1 r10 k10 => by
                have o := old H10 (k9.trans k10) r10
                exact ⟨by omega, by omega, (K68.trans k9).trans k10, r10, o.1, o.2⟩
              walk_at "go"
              refine k_ite (fun d1 => ?_) (fun d1 => ?_)
              · walk_at "go"
                refine ⟨a, 4, rfl, by omega, by decide, R8, fun x3 H9 _ _ R9 K9 => ?_⟩
                walk_at "go"
                refine k_ite (fun d2 => ?_) (fun d2 => ?_)
                · refine iteT ?_
                  walk_at "go"
                  refine k_I CM ?_
                  walk_at "go"
                  refine ⟨a, _, rfl, by omega, by omega, R9, fun x4 H10 x4a x4b R10 K10 => ?_⟩
                  walk_at "go"
                  obtain ⟨q1, q2, q3, q4, q5, q6⟩ := draw H9 K9 R9 x4 H10 x4a x4b R10 K10
                  exact ⟨_, q1, q2, q3, q4, q5, q6, rfl⟩
                · walk_at "go"
                  refine k_ite (fun d3 => ?_) (fun d3 => ?_)
                  · rw [d1] at d3; exact absurd d3 (by decide)
                  · walk_at "go"
                    exact ⟨_, by omega, by omega, K68.trans K9, R9, (old H9 K9 R9).1, (old H9 K9 R9).2, rfl⟩
              · refine iteF ?_
                walk_at "go"
                refine k_ite (fun d3 => ?_) (fun d3 => ?_)
                · walk_at "go"
                  refine k_I CM ?_
                  walk_at "go"
                  refine ⟨a, _, rfl, by omega, by omega, R8, fun x4 H10 x4a x4b R10 K10 => ?_⟩
                  walk_at "go"
                  obtain ⟨q1, q2, q3, q4, q5, q6⟩ := draw H8 (Keep.refl _ _) R8 x4 H10 x4a x4b R10 K10
                  exact ⟨_, q1, q2, q3, q4, q5, q6, rfl⟩
                · walk_at "go"
                  exact ⟨_, by omega, by omega, K68, R8, eD8, S8, rfl⟩
            · rintro σ' H9 ⟨g, g1, g2, K9, R9, eD9, S9, rfl⟩
              refine k_cut (fun σ' H' => ∃ g, -(2 * sz + 1) ≤ g ∧ g ≤ 2 * sz + 1 ∧ Keep a H H' ∧ RowOk K H' a ∧ H' D = some (.lst (hs.map V.int)) ∧ Sofar K H' l (y + 1) sz i j ss ∧
                σ' = [some (.ref a), some (.int (st : Nat)), some (.int sz), some (.int ((y + 1 : Nat) : Int)), some (.int kind), some (.ref D), some (.ref l), some (.str LT), some (.int (0 + (i : Nat))), some (.str ⟨#[97 + j]⟩), some (.int (e : Nat)), some (.int g), none, none]) ?_ ?_
              · walk_at "go"
                refine k_ite (fun d1 => ?_) (fun d1 => ?_)
                · walk_at "go"
                  refine ⟨a, 3, rfl, by omega, by decide, R9, fun x3 H10 _ _ R10 K10 => ?_⟩
                  obtain ⟨lr9, er9⟩ := R9.lst
                  have eD10 := K10 _ _ nD.symm eD9
                  have S10 := S9.keep K10 er9 nl.symm
                  walk_at "go"
                  refine k_ite (fun d2 => ?_) (fun d2 => ?_)
                  · walk_at "go"
                    exact ⟨_, by omega, by omega, K9.trans K10, R10, eD10, S10, rfl⟩
                  · walk_at "go"
                    exact ⟨_, by omega, by omega, K9.trans K10, R10, eD10, S10, rfl⟩
                · refine iteF ?_
                  walk_at "go"
                  exact ⟨_, by omega, by omega, K9, R9, eD9, S9, rfl⟩
              · rintro σ' H10 ⟨g, g1, g2, K10, R10, eD10, S10, rfl⟩
                walk_at "go"
                obtain ⟨vs10, el10, _⟩ := S10.at_
                refine ⟨.inl ⟨rfl, _, SqL.of el10⟩, ?_⟩
                walk_at "go"
                refine ⟨(by decide : 4 ≤ sizeLine), fun p hp => ?_⟩
                have z0 : (0 + (i : Nat) : Int) = ((i : Nat) : Int) := by omega
                rw [z0]
                walk_at "go"
                have npl : l ≠ p := ne_of_none el10 hp
                have npD : D ≠ p := ne_of_none eD10 hp
                have el11 : (upd H10 p (.tup [.int (i : Nat), .str ⟨#[97 + j]⟩, .int (e : Nat), .int g])) l = some (.lst vs10) := by rw [upd_ne npl]; exact el10
                have lv : vs10.length < sizeLine := by
                  obtain ⟨vs', e', q'⟩ := S10.at_
                  rw [el10] at e'
                  cases e'
                  have := S10.len
                  have : vs10.length < 100 := by rw [q'.1]; omega
                  exact Nat.lt_trans this (by decide)
                refine k_append el11 lv ?_
                walk_at "go"
                have S11 := S10.snoc hp (by omega) j4 (show e < y + 1 by omega) sz1 g1 g2 vs10 el10
                have R11 := R10.same (Same.new (o := .tup [.int (i : Nat), .str ⟨#[97 + j]⟩, .int (e : Nat), .int g]) hp)
                refine ⟨_, some (.str ⟨#[97 + j]⟩), some (.int (e : Nat)), some (.int g), (K10.trans (Keep.new hp)).mut hlH, R11.keep nl el11 Keep.at_, ?_, S11, ?_⟩
                · rw [upd_ne nDl, upd_ne npD]; exact eD10
                · rfl
          · walk_at "go"
            exact ⟨ss, _, _, _, K6.trans K7, R7, eD7, S7.more (Nat.le_succ _), rfl⟩
        · rintro σ H6 ⟨ss, s9, s10, s11, K6, R6, eD6, S6, rfl⟩
          refine ⟨ss, _, _, _, _, K6, R6, eD6, S6.line ?_, rfl⟩
          rw [hLT]
          simp
          omega
      · rintro σ H5 ⟨ss, s8, s9, s10, s11, K5, R5, eD5, S5, rfl⟩
        obtain ⟨vs, el5, q5⟩ := S5.at_
        walk_at "go"
        refine k_rg (by omega) (by omega) fun B hB => ?_
        have nB : a ≠ B := R5.ne hB
        have hB0 : H B = none := K5.free nB.symm hB
        have nlB : l ≠ B := ne_of_none el5 hB
        -- the ends
        refine lc_range (lo := 0) (n := (((y + 1 : Nat) : Int)).toNat) (fun i H' => Keep a H H' ∧ RowOk K H' a ∧ H' l = some (.lst vs) ∧ StpsAt K H' vs ss ∧ ∃ es : List Nat, H' B = some (.lst (nats es)) ∧ es.length ≤ i ∧ (∀ e ∈ es, e < i) ∧ es.Pairwise (· < ·))
          ⟨K5.trans (Keep.new hB), R5.same (Same.new hB), by rw [upd_ne nlB]; exact el5, (Tups.new hB).steps q5, [], upd_same, Nat.le_refl _, fun _ h => absurd h (by simp), .nil⟩ ?_ ?_
        · rintro i H6 hi ⟨K6, R6, el6, q6, es, eB, h1, h2, h3⟩
          obtain ⟨lr6, er6⟩ := R6.lst
          walk_at "go"
          refine ⟨rfl, ?_⟩
          walk_at "go"
          refine ⟨a, 2, rfl, by omega, by decide, R6, fun x H7 _ _ R7 K7 => ?_⟩
          have eB7 := K7 _ _ nB.symm eB
          have el7 := K7 _ _ nl.symm el6
          have q7 := (K7.tups er6).steps q6
          walk_at "go"
          refine k_ite (fun c => ?_) (fun c => ?_)
          · walk_at "go"
            have z0 : (0 + (i : Nat) : Int) = ((i : Nat) : Int) := by omega
            rw [z0]
            refine ⟨_, eB7, ?_, (K6.trans K7).mut hB0, R7.keep nB eB7 Keep.at_, by rw [upd_ne nlB]; exact el7, (Tups.lst eB7).steps q7, es ++ [i], ?_, ?_, ?_, ?_⟩
            · have : (nats es).length < 100 := by unfold nats; rw [List.length_map]; omega
              exact Nat.lt_trans this (by decide)
            · rw [upd_same]; unfold nats; rw [List.map_append]; rfl
            · rw [List.length_append]; simp; omega
            · intro e he
              rcases List.mem_append.mp he with he | he
              · have := h2 e he; omega
              · have : e = i := by simpa using he
                omega
            · refine List.pairwise_append.mpr ⟨h3, List.pairwise_singleton _ _, fun e he f hf => ?_⟩
              have : f = i := by simpa using hf
              have := h2 e he
              omega
          · exact ⟨K6.trans K7, R7, el7, q7, es, eB7, by omega, fun e he => by have := h2 e he; omega, h3⟩
        · rintro H6 ⟨K6, R6, el6, q6, es, eB, h1, h2, h3⟩
          walk_at "go"
          refine ⟨B, _, rfl, .inl ⟨SqL.of eB, fun u hu => ?_⟩⟩
          have nu : a ≠ u := R6.ne hu
          have K7 := K6.trans (Keep.new (o := .tup (nats es)) hu)
          have R7 := R6.same (Same.new (o := .tup (nats es)) hu)
          have el7 : (upd H6 u (.tup (nats es))) l = some (.lst vs) := by rw [upd_ne (ne_of_none el6 hu)]; exact el6
          have q7 := (Tups.new (o := .tup (nats es)) hu).steps q6
          walk_at "go"
          intro d hd
          have K8 := K7.trans (Keep.new (o := .dK []) hd)
          have R8 := R7.same (Same.new (o := .dK []) hd)
          have el8 : (upd (upd H6 u (.tup (nats es))) d (.dK [])) l = some (.lst vs) := by rw [upd_ne (ne_of_none el7 hd)]; exact el7
          have q8 := (Tups.new (o := .dK []) hd).steps q7
          have hd0 : H d = none := K7.free (R7.ne hd).symm hd
          walk_at "go"
          refine ⟨l, vs, rfl, .inl ⟨SqL.of el8, fun t ht => ?_⟩⟩
          walk_at "go"
          have ntd : d ≠ t := ne_of_none upd_same ht
          have e1 : (upd (upd (upd H6 u (.tup (nats es))) d (.dK [])) t (.tup vs)) d = some (.dK []) := by rw [upd_ne ntd, upd_same]
          refine ⟨e1, [(.inr "stands", .int ((y + 1 : Nat) : Int)), (.inr "steps", .ref t), (.inr "ends", .ref u)], rfl, (by decide : 3 ≤ 15), ?_⟩
          have em : mergeK [] [((.inr "stands" : Key), V.int ((y + 1 : Nat) : Int)), (.inr "steps", .ref t), (.inr "ends", .ref u)] = [(.inr "stands", .int ((y + 1 : Nat) : Int)), (.inr "steps", .ref t), (.inr "ends", .ref u)] := rfl
          rw [em]
          have t9 : Tups (upd (upd H6 u (.tup (nats es))) d (.dK [])) (upd (upd (upd H6 u (.tup (nats es))) d (.dK [])) t (.tup vs)) := Tups.new ht
          have nuD : u ≠ d := ne_of_none (upd_same (H := H6) (o := .tup (nats es))) hd
          have t10 : Tups (upd (upd (upd H6 u (.tup (nats es))) d (.dK [])) t (.tup vs)) (upd (upd (upd (upd H6 u (.tup (nats es))) d (.dK [])) t (.tup vs)) d (.dK [(.inr "stands", .int ((y + 1 : Nat) : Int)), (.inr "steps", .ref t), (.inr "ends", .ref u)])) :=
            ⟨fun b xs e => by rw [upd_ne (fun z => by rw [z, e1] at e; cases e)]; exact e, fun b o xs e => by rw [upd_ne (fun z => by rw [z, e1] at e; cases e)]; exact e⟩
          refine k d ⟨y + 1, ss, es⟩ _ ⟨by show 1 ≤ y + 1; omega, by show y + 1 ≤ 8; omega, S5.ok, S5.up, ?_, fun e he => ?_, h3, ?_⟩ (by show y + 1 ≤ st; omega) S5.gb ⟨t, u, upd_same, ⟨vs, t10.sq (SqT.of upd_same), (t10.steps (t9.steps q8))⟩, ?_⟩ ?_ ?_ hd0
          · have := S5.len
            show ss.length ≤ 32
            rw [nat] at this
            omega
          · have := h2 e he
            rw [nat] at this
            exact this
          · show es.length ≤ 8
            rw [nat] at h1
            omega
          · exact t10.sq (t9.sq ((Tups.new (o := .dK []) hd).sq (SqT.of upd_same)))
          · have R9 := R8.same (Same.new (o := .tup vs) ht)
            obtain ⟨sc, ns, i, z, r, e, q, rest⟩ := R9
            have nad : a ≠ d := R7.ne hd
            refine ⟨sc, ns, i, z, r, by rw [upd_ne nad]; exact e, ?_, rest⟩
            rcases q with ⟨o, q⟩ | q
            · exact .inl ⟨o, by rw [upd_ne (fun z => by rw [z, e1] at q; cases q)]; exact q⟩
            · exact .inr q
          · exact (K8.trans (Keep.new ht)).mut hd0
end
/-! ### name = {k: v for ..} -/
theorem sw_trueD {kx vx : Expr} {gs : List Comprehension} {scope : Scope} {pos py : Pos} {y : Str} {n : Nat} {env : Env} (hk : env.scope.kind = .function) (hy : env.scope.names.lookup y = some .local) (hl : (py.line == pos.line) = true)
    (ha : (scope.names.any fun (m, c) => m == y && (c == .local || c == .cell)) = false) : swapsWith (.DictComp kx vx gs scope pos) (some (.Name y py)) n env = pure true := by
  have k1 : env.kindOf y = some .local := hy
  have k2 : env.blockKind = .function := by
    unfold Env.blockKind
    rw [hk]
    rfl
  unfold swapsWith
  simp only [k1, k2, ha, Expr.pos, hl]
  rfl
section
variable {X : Cx}
theorem ps_setDc {i : Nat} {y : Str} {py : Pos} {kx vx tg it : Expr} {ifs : List Expr} {scope : Scope} {own : List (Str × Nat)} {pos sp : Pos} {wi : TI} {g : TG} {tt : TT} {tk tv : TE} (hc : X.calm = true) (hN : X.N.Nodup)
    (hy : X.N[i]? = some y) (hyl : X.env.scope.names.lookup y = some .local) (hsw : swapsWith (.DictComp kx vx [⟨tg, it, ifs, 0⟩] scope pos) (some (.Name y py)) sp.line X.env = pure true)
    (hi : PI X tg it wi) (ok : BlkOk X.N X.env.scope scope own)
    (hg : ∀ (s : Shared) (H : Hp) (C : Addr) (cl : List (Str × Addr)) (fp : List Addr), PG (X.blk s H scope (compEnvC scope cl C X.env) fp) tg g)
    (ht : ∀ (s : Shared) (H : Hp) (C : Addr) (cl : List (Str × Addr)) (fp : List Addr), PTs (X.blk s H scope (compEnvC scope cl C X.env) fp) ifs tt)
    (hk : ∀ (s : Shared) (H : Hp) (C : Addr) (cl : List (Str × Addr)) (fp : List Addr), PE (X.blk s H scope (compEnvC scope cl C X.env) fp) kx tk)
    (hv : ∀ (s : Shared) (H : Hp) (C : Addr) (cl : List (Str × Addr)) (fp : List Addr), PE (X.blk s H scope (compEnvC scope cl C X.env) fp) vx tv)
    (hs : ∀ x, foldedSetIterable it X.env x = pure x := by intro _; rfl) :
    PS X (.Assign [.Name y py] (.DictComp kx vx [⟨tg, it, ifs, 0⟩] scope pos) sp) (tAsg (tDc wi g tt tk tv (own.map (·.2))) (gName i)) := by
  constructor
  intro pins s σ H D I h
  rw [exec_Assign_Name_used _ _ _ _ hsw]
  refine wpAny_bind (wpAny_standAt (wpAny_bind ?_))
  show wpAny _ X.A (do let _ ← comprehension (.DictComp kx vx [⟨tg, it, ifs, 0⟩] scope pos) scope X.env (firstIterPos [⟨tg, it, ifs, 0⟩] pos) newDict false (eval it X.env) (some (assign (.Name y py) X.env))) _ _ s
  have h' : tDc wi g tt tk tv (own.map (·.2)) σ H (fun x H1 => gName i x σ H1 D.nx) := h
  refine wpAny_bind (thn (dc_core (Qf := fun _ s' => SP X pins D .next s') hc hN I hi ok hg ht hk hv hs h' ?_) fun _ s' hq => wpAny_pure (wpAny_pure hq))
  intro L C s' m H' I' q hn f
  show wpAny _ _ (assign (.Name y py) X.env (.ref L)) _ _ _
  refine wpAny_assign_Name (store_ok2 (v := V.ref L) I' hN hy (.inl hyl) rfl ?_ (.inr hyl))
  rintro s2 I2 ⟨a, sb, ha⟩
  obtain ⟨f0, f1, f2, f3, f4, f5⟩ := f
  have ne : C ≠ a := by
    rcases ha with z | z
    · rw [z]; exact f1
    · exact fun e => f4 y a z e.symm
  exact ⟨m, hn.sameBut sb ne, fun h3 sb3 => ⟨_, H', I2.turned (t' := s2.toks) (fun b o hb e => (sb3.2 b hb).trans e) f0 f1 f3 f4 f5, q⟩⟩
/-- over a list that stays -/
theorem dc_lst {K : PySem.W.Frag} {a : Addr} {xs : List V} {g : TG} {tt : TT} {tk tv : TE} {vs : List Nat} {σ : L2.St} {H1 : Hp} {D : Addr} {Qd : Hp → Prop} (Pv : Nat → Hp → Prop) (h0 : Pv 0 (upd H1 D (.dK [])))
    (hl : ∀ i H, i ≤ xs.length → Pv i H → SqL K H a xs)
    (hs : ∀ i x H, xs[i]? = some x → Pv i H → g x (wipe σ vs) H fun σ2 H2 => wipe σ2 vs = wipe σ vs ∧ tt σ2 H2 fun b H3 =>
      if b = true then tk σ2 H3 fun y H4 => tv σ2 H4 fun z H5 => ∃ kvs k, y = kV k ∧ H5 D = some (.dK kvs) ∧ kvs.length < sizeLine ∧ Pv (i + 1) (upd H5 D (.dK (putK kvs k z))) else Pv (i + 1) H3) (hd : ∀ H, Pv xs.length H → Qd H) :
    ∃ W : Nat → Nat → Hp → Prop, (∃ m, W 0 m (upd H1 D (.dK []))) ∧ ∀ i m H, W i m H → ((Itl K a).stop i H ∧ Qd H) ∨
      ((Itl K a).go i H ∧ ∃ Nx : Hp → Prop, (∀ H', Nx H' → ∃ m', m' < m ∧ W (i + 1) m' H') ∧ ∀ x H', (Itl K a).yld i H x H' → g x (wipe σ vs) H' fun σ2 H2 => wipe σ2 vs = wipe σ vs ∧ tt σ2 H2 fun b H3 =>
        if b = true then tk σ2 H3 fun y H4 => tv σ2 H4 fun z H5 => ∃ kvs k, y = kV k ∧ H5 D = some (.dK kvs) ∧ kvs.length < sizeLine ∧ Nx (upd H5 D (.dK (putK kvs k z))) else Nx H3) := by
  refine ⟨fun i m H => m + i = xs.length ∧ Pv i H, ⟨xs.length, by simp, h0⟩, fun i m H ⟨em, hP⟩ => ?_⟩
  have sq := hl i H (by omega) hP
  by_cases c : i < xs.length
  · refine .inr ⟨⟨xs, xs[i], sq, List.getElem?_eq_getElem c⟩, Pv (i + 1), fun H' z => ⟨m - 1, by omega, by omega, z⟩, ?_⟩
    rintro x H' ⟨rfl, hx⟩
    exact hs i x _ (hx xs sq) hP
  · have e : i = xs.length := by omega
    exact .inl ⟨⟨xs, sq, by omega⟩, hd H (e ▸ hP)⟩
end
/-! ### rows by their codes; what is best so far, by stand -/
abbrev Wd := List Nat
def sOf (w : Wd) : Str := ⟨w.toArray⟩
theorem sOf_snoc (w : Wd) (c : Nat) : sOf w ++ ⟨#[c]⟩ = sOf (w ++ [c]) := by
  show Str.mk (w.toArray ++ #[c]) = _
  rw [List.append_toArray]
  rfl
theorem sOf_len (w : Wd) : (sOf w).length = w.length := by
  show w.toArray.size = _
  simp
theorem sOf_cps (w : Wd) : (sOf w).cps.toList = w := rfl
theorem sOf_inj {v w : Wd} (h : sOf v = sOf w) : v = w := by
  have := congrArg (fun s => s.cps.toList) h
  exact this
abbrev RF := Nat → Option (Int × Wd)
def better (x : Int × Wd) : Option (Int × Wd) → Bool
  | none => true
  | some y => decide (y.1 < x.1) || (decide (x.1 = y.1) && decide (x.2 < y.2))
def RF.put (f : RF) (k : Nat) (x : Int × Wd) : RF := fun j => if j = k then some x else f j
def turnL (sg : Int) (f acc : RF) (s : Stp) : RF := match f s.b with
  | none => acc
  | some y => if better (y.1 + sg * s.g, y.2 ++ [s.c]) (acc s.e) = true then acc.put s.e (y.1 + sg * s.g, y.2 ++ [s.c]) else acc
def longer (sg : Int) (f : RF) (ss : List Stp) : RF := ss.foldl (turnL sg f) fun _ => none
/-! ### dicts from stands to tuples -/
def ent2 (x : Int × Wd) : List V := [.int x.1, .str (sOf x.2)]
def E2 (f : RF) : Nat → Option (List V) := fun n => (f n).map ent2
def KvOk (K : PySem.W.Frag) (H : Hp) (kvs : List (Key × V)) (e : Nat → Option (List V)) : Prop :=
  (∀ p ∈ kvs, ∃ n : Nat, p.1 = .inl (n : Int)) ∧ ∀ n : Nat, (e n = none → valV kvs (.inl (n : Int)) = none) ∧ ∀ l, e n = some l → ∃ p, valV kvs (.inl (n : Int)) = some (.ref p) ∧ SqT K H p l
section
variable {K : PySem.W.Frag} {H H' : Hp} {kvs : List (Key × V)} {e : Nat → Option (List V)}
theorem KvOk.tups (h : KvOk K H kvs e) (t : Tups H H') : KvOk K H' kvs e := ⟨h.1, fun n => ⟨(h.2 n).1, fun l el => let ⟨p, q, z⟩ := (h.2 n).2 l el; ⟨p, q, t.sq z⟩⟩⟩
theorem KvOk.nil : KvOk K H [] fun _ => none := ⟨fun _ h => absurd h (by simp), fun n => ⟨fun _ => rfl, fun l h => by cases h⟩⟩
theorem KvOk.put {n : Nat} {p : Addr} {l : List V} (h : KvOk K H kvs e) (hp : SqT K H p l) : KvOk K H (putK kvs (.inl (n : Int)) (.ref p)) fun j => if j = n then some l else e j := by
  refine ⟨fun q hq => ?_, fun j => ?_⟩
  · unfold putK at hq
    split at hq
    · obtain ⟨r, hr, rfl⟩ := List.mem_map.mp hq
      split
      · rename_i z; exact ⟨n, z⟩
      · exact h.1 r hr
    · rcases List.mem_append.mp hq with hq | hq
      · exact h.1 q hq
      · have : q = (.inl (n : Int), .ref p) := by simpa using hq
        exact ⟨n, by rw [this]⟩
  · rw [valV_put]
    by_cases c : j = n
    · have c' : (Sum.inl (j : Int) : Key) = .inl (n : Int) := by rw [c]
      simp only [if_pos c, if_pos c']
      refine ⟨fun z => (by cases z), fun l' el => ?_⟩
      cases el
      exact ⟨p, rfl, hp⟩
    · have c' : ¬ (Sum.inl (j : Int) : Key) = .inl (n : Int) := fun z => c (by injection z with z; omega)
      simp only [if_neg c, if_neg c']
      exact h.2 j
theorem KvOk.congr {e' : Nat → Option (List V)} (h : KvOk K H kvs e) (q : ∀ n, e n = e' n) : KvOk K H kvs e' := (funext q : e = e') ▸ h
end
theorem E2_put (f : RF) (k : Nat) (x : Int × Wd) (n : Nat) : (if n = k then some (ent2 x) else E2 f n) = E2 (f.put k x) n := by
  unfold E2 RF.put
  by_cases c : n = k
  · rw [if_pos c, if_pos c]; rfl
  · rw [if_neg c, if_neg c]
theorem Same.mut {p : Addr} {H H' : Hp} {o : HO} (x : Same H H') (hp : H p = none) : Same H (upd H' p o) := fun b u h => by rw [upd_ne (ne_of_none h hp)]; exact x b u h
theorem Tups.dk {p : Addr} {H : Hp} {kvs : List (Key × V)} {o : HO} (h : H p = some (.dK kvs)) : Tups H (upd H p o) :=
  ⟨fun b xs e => by rw [upd_ne (fun z => by rw [z, h] at e; cases e)]; exact e, fun b _ xs e => by rw [upd_ne (fun z => by rw [z, h] at e; cases e)]; exact e⟩
theorem Tups.dT {p : Addr} {H : Hp} {kvs : List (List Key × V)} {o : HO} (h : H p = some (.dT kvs)) : Tups H (upd H p o) :=
  ⟨fun b xs e => by rw [upd_ne (fun z => by rw [z, h] at e; cases e)]; exact e, fun b _ xs e => by rw [upd_ne (fun z => by rw [z, h] at e; cases e)]; exact e⟩
theorem take_fold {α β : Type} (f : β → α → β) (z : β) {l : List α} {i : Nat} {x : α} (h : l[i]? = some x) : (l.take (i + 1)).foldl f z = f ((l.take i).foldl f z) x := by
  rw [List.take_add_one, h, List.foldl_append]
  rfl
/-! ### the parts read off a machine -/
section
variable {P : Program} {w : World} {K : PySem.W.Frag} {mg : Str → Option Value} {base : Heap}
theorem ok_Machine_stands (T : Txt K mg) : FnOk P w K mg base (L2.CX P w) 1 T.a_Machine_stands T.fd_Machine_stands ["self"] (getSp T.c_Machine "_stands") := by
  refine T.F_Machine_stands.okX sc_Machine_stands (fun vs H Q E h => ?_) (fun cdv A outer s H vs Q E hr h => ?_)
  · obtain ⟨a, dx, fs, v, rfl, _⟩ := h
    rfl
  · obtain ⟨a, dx, fs, v, rfl, ha, hl, k⟩ := h
    refine ⟨_, (PSs.nox (pss_one (ps_ret (pe_fld (pv 0) rfl)))), ?_⟩
    exact ⟨_, rfl, a, _, dx, fs, v, rfl, ha, T.cl_Machine, T.n__stands, hl, k⟩
theorem ok_Machine_steps (T : Txt K mg) : FnOk P w K mg base (L2.CX P w) 1 T.a_Machine_steps T.fd_Machine_steps ["self"] (getSp T.c_Machine "_steps") := by
  refine T.F_Machine_steps.okX sc_Machine_steps (fun vs H Q E h => ?_) (fun cdv A outer s H vs Q E hr h => ?_)
  · obtain ⟨a, dx, fs, v, rfl, _⟩ := h
    rfl
  · obtain ⟨a, dx, fs, v, rfl, ha, hl, k⟩ := h
    refine ⟨_, (PSs.nox (pss_one (ps_ret (pe_fld (pv 0) rfl)))), ?_⟩
    exact ⟨_, rfl, a, _, dx, fs, v, rfl, ha, T.cl_Machine, T.n__steps, hl, k⟩
end
/-! ### which stands have a better row; which stands letters lead to -/
inductive Reach (ss : List Stp) (l : List Nat) : Nat → Prop
  | base {n : Nat} : n ∈ l → Reach ss l n
  | step {s : Stp} : s ∈ ss → Reach ss l s.b → Reach ss l s.e
def fkv (F : List Nat) : List (Key × V) := F.map fun (n : Nat) => ((.inl (n : Int) : Key), V.bl true)
theorem key_eq (a b : Nat) : ((Sum.inl (a : Int) : Key) = .inl (b : Int)) ↔ a = b := ⟨fun z => by injection z with z; omega, fun z => by rw [z]⟩
theorem valV_fkv (n : Nat) : ∀ F : List Nat, valV (fkv F) (.inl (n : Int)) = if n ∈ F then some (.bl true) else none
  | [] => rfl
  | a :: F => by
    have ih := valV_fkv n F
    by_cases c : a = n
    · rw [if_pos (by rw [c]; exact List.mem_cons_self)]
      exact valV_pos (p := ((.inl (a : Int) : Key), V.bl true)) ((key_eq a n).mpr c)
    · have e : valV (fkv (a :: F)) (.inl (n : Int)) = valV (fkv F) (.inl (n : Int)) := valV_neg (p := ((.inl (a : Int) : Key), V.bl true)) fun z => c ((key_eq a n).mp z)
      rw [e, ih]
      by_cases d : n ∈ F
      · rw [if_pos d, if_pos (List.mem_cons_of_mem _ d)]
      · rw [if_neg d, if_neg (fun z => by rcases List.mem_cons.mp z with z | z; exact c z.symm; exact d z)]
def addN (F : List Nat) (n : Nat) : List Nat := if n ∈ F then F else F ++ [n]
theorem addN_mem {F : List Nat} {n k : Nat} : k ∈ addN F n ↔ k ∈ F ∨ k = n := by
  unfold addN
  by_cases c : n ∈ F
  · rw [if_pos c]
    exact ⟨.inl, fun z => by rcases z with z | rfl <;> assumption⟩
  · rw [if_neg c, List.mem_append, List.mem_singleton]
theorem addN_nodup {F : List Nat} {n : Nat} (h : F.Nodup) : (addN F n).Nodup := by
  unfold addN
  by_cases c : n ∈ F
  · rw [if_pos c]; exact h
  · rw [if_neg c]
    exact List.nodup_append.mpr ⟨h, by simp, fun a ha b hb e => by rw [List.mem_singleton] at hb; rw [e, hb] at ha; exact c ha⟩
theorem putK_fkv (F : List Nat) (n : Nat) : putK (fkv F) (.inl (n : Int)) (.bl true) = fkv (addN F n) := by
  by_cases c : n ∈ F
  · unfold addN putK
    have h := valV_any (.inl (n : Int) : Key) (fkv F)
    rw [valV_fkv, if_pos c] at h
    rw [h, if_pos c, if_pos (show (some (V.bl true)).isSome = true from rfl)]
    unfold fkv
    rw [List.map_map]
    refine List.map_congr_left fun a _ => ?_
    show (if (Sum.inl (a : Int) : Key) = .inl (n : Int) then ((Sum.inl (a : Int) : Key), V.bl true) else ((Sum.inl (a : Int) : Key), V.bl true)) = _
    split <;> rfl
  · rw [putK_new _ (by rw [valV_fkv, if_neg c])]
    unfold addN fkv
    rw [if_neg c, List.map_append]
    rfl
theorem nats_snoc (l : List Nat) (n : Nat) : nats (l ++ [n]) = nats l ++ [.int (n : Nat)] := by unfold nats; rw [List.map_append]; rfl
theorem nats_at {l : List Nat} {i : Nat} {x : V} (h : (nats l)[i]? = some x) : ∃ n, l[i]? = some n ∧ x = .int (n : Nat) := by
  unfold nats at h
  rw [List.getElem?_map] at h
  cases e : l[i]? with
  | none => rw [e] at h; cases h
  | some n => rw [e] at h; exact ⟨n, rfl, (Option.some.inj h).symm⟩
theorem nodup_small {F : List Nat} {n : Nat} (h : F.Nodup) (b : ∀ k ∈ F, k < n) : F.length ≤ n := by
  induction n generalizing F with
  | zero =>
    cases F with
    | nil => exact Nat.le_refl _
    | cons a F => exact absurd (b a List.mem_cons_self) (Nat.not_lt_zero _)
  | succ n ih =>
    by_cases c : n ∈ F
    · have e1 := ih (F := F.erase n) (h.erase n) fun k hk => by
        have hk' := (List.Nodup.mem_erase_iff h).mp hk
        have := b k hk'.2
        have := hk'.1
        omega
      rw [List.length_erase_of_mem c] at e1
      omega
    · have := ih h fun k hk => by
        have := b k hk
        have : k ≠ n := fun z => c (z ▸ hk)
        omega
      omega
def sp_led (K : PySem.W.Frag) : Sp := fun vs H Q _ => ∃ (t p : Addr) (N : Nat) (ss : List Stp) (l : List Nat), vs = [.ref t, .ref p] ∧ StSq K H t ss ∧ SsOk N ss ∧ H p = some (.lst (nats l)) ∧ (∀ n ∈ l, n < N) ∧ l.length ≤ 300 ∧
  ∀ q (l' : List Nat) H', Same H H' → H q = none → H' q = some (.lst (nats l')) → (∀ n, n ∈ l' ↔ Reach ss l n) → l'.Pairwise (· < ·) → Q (.ref q) H'
theorem nodup_sub {α : Type} [DecidableEq α] : ∀ {l T : List α}, l.Nodup → (∀ x ∈ l, x ∈ T) → l.length ≤ T.length
  | [], _, _, _ => Nat.zero_le _
  | a :: l, T, h, s => by
    have q := List.nodup_cons.mp h
    have i := nodup_sub (T := T.erase a) q.2 fun x hx => (List.mem_erase_of_ne (fun e => q.1 (by rw [← e]; exact hx))).mpr (s x (List.mem_cons_of_mem _ hx))
    have m := s a List.mem_cons_self
    have := List.length_erase_of_mem m
    have := List.length_pos_of_mem m
    rw [List.length_cons]
    omega
theorem inV_nats (n : Nat) : ∀ l : List Nat, inV (.int (n : Nat)) (nats l) = decide (n ∈ l)
  | [] => rfl
  | a :: l => by
    have ih := inV_nats n l
    unfold inV nats at ih ⊢
    rw [List.map_cons, List.any_cons, ih]
    have e : eqV (.int (a : Nat)) (.int (n : Nat)) = decide (n = a) := by
      show ((((a : Nat) : Int)) == ((n : Nat) : Int)) = decide (n = a)
      rw [Bool.eq_iff_iff, beq_iff_eq, decide_eq_true_iff]
      omega
    rw [e]
    by_cases c : n = a
    · subst c
      simp
    · simp [c]
theorem flat_nats : ∀ l : List Nat, (nats l).all flatV = true
  | [] => rfl
  | a :: l => by
    show (flatV (.int (a : Nat)) && (nats l).all flatV) = true
    rw [flat_nats l]
    rfl
theorem dec_int (a b : Int) : decide (V.int a = V.int b) = decide (a = b) := decide_eq_decide.mpr ⟨fun h => by injection h, fun h => by rw [h]⟩
/-! ### a machine is one -/
def sp_check_machine (C : Addr) : Sp := fun vs H Q _ => ∃ x dx fs, vs = [.ref x] ∧ H x = some (.ins C dx fs) ∧ Q .non H
section
variable {P : Program} {w : World} {K : PySem.W.Frag} {mg : Str → Option Value} {base : Heap}
theorem ty_Machine (T : Txt K mg) {H : Hp} {x dx : Addr} {fs : List (Str × V)} (h : H x = some (.ins T.c_Machine dx fs)) : TyX K H (.ref x) (.ref T.c_Machine) := .base (.ins h T.cl_Machine T.i1_Machine T.i2_Machine T.i3_Machine T.i4_Machine)
theorem kit_self {C : Addr} : PySem.W.kitOne K (.ref C) (.ref C) = some true := by
  unfold PySem.W.kitOne
  rw [if_pos (by simp)]
theorem ok_check_machine (T : Txt K mg) : FnOk P w K mg base (L2.CX P w) 1 T.a_check_machine T.fd_check_machine ["value"] (sp_check_machine T.c_Machine) := by
  refine T.F_check_machine.okX sc_check_machine (fun vs H Q E h => ?_) (fun cdv A outer s H vs Q E hr h => ?_)
  · obtain ⟨x, dx, fs, rfl, _⟩ := h
    rfl
  · obtain ⟨x, dx, fs, rfl, hx, k⟩ := h
    refine ⟨_, (PSs.nox (pss_one (ps_if (pt_not (pt_val (pe_callB call_isi (by rfl) T.z_isinstance (by decide +kernel) (pa_cons (pv 0) (pa_cons (pe_glob (v := .ref T.c_Machine) (by rfl) T.m_Machine rfl) pa_nil)))))
  (pss_one ps_never)
  pss_nil))), ?_⟩
    walk_at "begin"
    walk_at "go"
    refine k_isi (.own _) (ty_Machine T hx) kit_self ?_
    walk_at "go"
    refine iteF ?_
    walk_at "go"
    exact k
end
/-! ### the steps from a stand -/
def nxV (s : Stp) : List V := [.str ⟨#[s.c]⟩, .int (s.e : Nat), .int s.g]
def NxAt (K : PySem.W.Frag) (H : Hp) (vs : List V) (ns : List Stp) : Prop := vs.length = ns.length ∧ ∀ (i : Nat) (s : Stp), ns[i]? = some s → ∃ p, vs[i]? = some (V.ref p) ∧ SqT K H p (nxV s)
theorem NxAt.tups {K : PySem.W.Frag} {H H' : Hp} {vs : List V} {ns : List Stp} (h : NxAt K H vs ns) (t : Tups H H') : NxAt K H' vs ns := ⟨h.1, fun i s e => let ⟨p, q, z⟩ := h.2 i s e; ⟨p, q, t.sq z⟩⟩
theorem NxAt.snoc {K : PySem.W.Frag} {H : Hp} {vs : List V} {ns : List Stp} {p : Addr} {s : Stp} (h : NxAt K H vs ns) (q : SqT K H p (nxV s)) : NxAt K H (vs ++ [V.ref p]) (ns ++ [s]) := by
  refine ⟨by rw [List.length_append, List.length_append, h.1]; rfl, fun i t e => ?_⟩
  by_cases c : i < ns.length
  · rw [List.getElem?_append_left c] at e
    obtain ⟨r, e1, q1⟩ := h.2 i t e
    exact ⟨r, by rw [List.getElem?_append_left (by rw [h.1]; exact c)]; exact e1, q1⟩
  · rw [List.getElem?_append_right (by omega)] at e
    have z : i - ns.length = 0 := by
      have := (List.getElem?_eq_some_iff.mp e).1
      simp at this
      omega
    rw [z] at e
    cases e
    exact ⟨p, by rw [List.getElem?_append_right (by rw [h.1]; omega), h.1, z]; rfl, q⟩
def fromS (m : MD) (n : Nat) : List Stp := m.ss.filter fun s => s.b == n
def sp_next (K : PySem.W.Frag) : Sp := fun vs H Q _ => ∃ (d : Addr) (n : Nat) (m : MD), vs = [.ref d, .int (n : Nat)] ∧ DAt K H d m ∧ m.Ok ∧
  ∀ p us H', Same H H' → H p = none → H' p = some (.lst us) → NxAt K H' us (fromS m n) → Q (.ref p) H'
section
variable {P : Program} {w : World} {K : PySem.W.Frag} {mg : Str → Option Value} {base : Heap}
theorem ok_law_next (T : Txt K mg) : FnOk P w K mg base (L2.CX P w) 1 T.a_law_next T.fd_law_next ["_law_d", "_law_stand"] (sp_next K) := by
  refine T.F_law_next.okX sc_law_next (fun vs H Q E h => ?_) (fun cdv A outer s H vs Q E hr h => ?_)
  · obtain ⟨d, n, m, rfl, _⟩ := h
    rfl
  · obtain ⟨d, n, m, rfl, ⟨t, u, hd, ⟨us, ht, hs⟩, hu⟩, o, k⟩ := h
    refine ⟨_, (PSs.nox (pss_one (ps_ret (pe_lc (own := [("_law_begun", 2), ("_law_letter", 3), ("_law_end", 4), ("_law_gain", 5)]) (g := (gTup K 4 (gCons (gName 2) (gCons (gName 3) (gCons (gName 4) (gCons (gName 5) gNil)))))) rfl sc_law_next.nd (pi_tup (pe_dget (hu_of hr) (pv 0) pe_str (fun _ _ => rfl))) (blkOk_by (own := [("_law_begun", 2), ("_law_letter", 3), ("_law_end", 4), ("_law_gain", 5)]) (N := ["_law_d", "_law_stand", "_law_begun", "_law_letter", "_law_end", "_law_gain"]) (sc := defScope s_law_next) (by decide +kernel)) (fun _ _ _ _ _ => (pg_tup rfl (pgs_cons (pg_name (i := 2) sc_law_next.nd rfl (Or.inl rfl)) (pgs_cons (pg_name (i := 3) sc_law_next.nd rfl (Or.inl rfl)) (pgs_cons (pg_name (i := 4) sc_law_next.nd rfl (Or.inl rfl)) (pgs_cons (pg_name (i := 5) sc_law_next.nd rfl (Or.inl rfl)) pgs_nil)))))) (fun _ _ _ _ _ => (pts_one (pt_cmpR op_eq (pv 2) (pv 1) (nomark _)))) (fun _ _ _ _ _ => (pe_tup (pa_cons (pv 3) (pa_cons (pv 4) (pa_cons (pv 5) pa_nil))))))))), ?_⟩
    walk_at "begin"
    walk_at "go"
    refine ⟨d, .ref t, rfl, DGet.k (k := .inr "steps") hd, t, rfl, ⟨us, ht⟩, fun D hD => ?_⟩
    refine lc_tup (xs := us) (fun i H' => Same H H' ∧ ∃ ws, H' D = some (.lst ws) ∧ NxAt K H' ws ((m.ss.take i).filter fun s => s.b == n) ∧ ws.length ≤ i) ⟨Same.new hD, [], upd_same, ⟨rfl, fun i s e => by simp at e⟩, Nat.le_refl _⟩
      (fun i H' _ ⟨z, _⟩ => (same_tups z).sq ht) ?_ ?_
    · rintro i y H1 hy ⟨z, ws, eD, nx, lw⟩
      have il : i < m.ss.length := by rw [← hs.1]; exact (List.getElem?_eq_some_iff.mp hy).1
      have ei : m.ss[i]? = some (m.ss[i]'il) := List.getElem?_eq_getElem il
      obtain ⟨q, eq, hq⟩ := hs.2 i _ ei
      rw [hy] at eq
      cases eq
      have l32 := o.len
      have tk : (m.ss.take (i + 1)).filter (fun s => s.b == n) = (m.ss.take i).filter (fun s => s.b == n) ++ (if (m.ss[i]'il).b == n then [m.ss[i]'il] else []) := by
        rw [List.take_add_one, ei, List.filter_append]
        congr 1
        show List.filter _ [m.ss[i]'il] = _
        rw [List.filter_cons]
        rfl
      rw [tk]
      generalize m.ss[i]'il = s0 at hq
      refine k_gt ((same_tups z).sq hq) rfl ?_
      unfold stpV
      walk_at "go"
      refine ⟨rfl, ?_⟩
      walk_at "go"
      refine k_ite (fun c => ?_) (fun c => ?_)
      · have c' : s0.b = n := by
          injection c with c
          omega
        walk_at "go"
        refine ⟨(by decide : 3 ≤ sizeLine), fun pn hpn => ?_⟩
        have eD2 : (upd H1 pn (.tup [.str ⟨#[s0.c]⟩, .int (s0.e : Nat), .int s0.g])) D = some (.lst ws) := by rw [upd_ne (ne_of_none eD hpn)]; exact eD
        refine ⟨ws, eD2, Nat.lt_trans (show ws.length < 100 by omega) (by decide), Same.mut (z.trans (Same.new hpn)) hD, _, upd_same, ?_, by rw [List.length_append, List.length_singleton]; omega⟩
        rw [if_pos (by rw [c']; exact beq_self_eq_true n)]
        exact ((nx.tups (Tups.new hpn)).snoc (SqT.of upd_same)).tups (Tups.lst eD2)
      · have c' : ¬ s0.b = n := fun z => c (by rw [z])
        refine ⟨z, ws, eD, ?_, by omega⟩
        rw [if_neg (by simpa using c'), List.append_nil]
        exact nx
    · rintro H1 ⟨z, ws, eD, nx, lw⟩
      rw [hs.1, List.take_length] at nx
      walk_at "go"
      exact k D ws H1 z hD eD nx
end
/-! ### {(a, b): v for ..}: keys that are tuples -/
def tDcT (wi : TI) (g : TG) (tt : TT) (tk tv : TE) (vs : List Nat) : TE := fun σ H Q => wi σ H fun J H1 => ∀ D, H1 D = none → ∃ W : Nat → Nat → Hp → Prop, (∃ m, W 0 m (upd H1 D (.dT []))) ∧ ∀ i m H, W i m H →
  (J.stop i H ∧ Q (.ref D) H) ∨ (J.go i H ∧ ∃ Nx : Hp → Prop, (∀ H', Nx H' → ∃ m', m' < m ∧ W (i + 1) m' H') ∧ ∀ x H', J.yld i H x H' → g x (wipe σ vs) H' fun σ2 H2 => wipe σ2 vs = wipe σ vs ∧ tt σ2 H2 fun b H3 =>
    if b = true then tk σ2 H3 fun y H4 => tv σ2 H4 fun z H5 => ∃ kvs k b, y = .ref b ∧ H5 b = some (.tup (k.map kV)) ∧ H5 D = some (.dT kvs) ∧ kvs.length < sizeLine ∧ Nx (upd H5 D (.dT (putK kvs k z))) else Nx H3)
theorem dictSetT {X : Cx} {pins : List (Addr × Obj)} {σ : L2.St} {H : Hp} {s : Shared} {E : Value → Shared → Prop} {D b : Addr} {kvs : List (List Key × V)} {k : List Key} {v : V} {r : Value} {Q : Unit → Shared → Prop} (hu : X.A.units + 1 < cLine)
    (I : L2.Inv X pins σ H s) (eD : H D = some (.dT kvs)) (eb : H b = some (.tup (k.map kV))) (lz : kvs.length < sizeLine) (rv : RelV v r) (h : ∀ s', L2.Inv X pins σ (upd H D (.dT (putK kvs k v))) s' → Q () s') :
    wpAny (model X.prog X.w) X.A (dictSet D (.ref b) r) Q E s := by
  obtain ⟨z, nsm, xs, rel, dd⟩ := dt_of I.hok eD
  have lx : xs.length ≤ sizeLine := by rw [← Paired.length rel]; exact z
  have ll : (putK kvs k v).length ≤ sizeLine := Nat.le_trans (length_putK kvs k v) lz
  refine wpAny_dictSet_heap (hsz := lx) (Nat.lt_of_succ_lt hu) (key_of I.hok eb) dd fun h' dd' sb => h _ ?_
  obtain ⟨q, es, ep, eq, x2, x3, x4, _, x5⟩ := dd'
  refine d_write I (by rw [eD]; exact True.intro) sb ⟨q, eq⟩ ⟨ll, nsm, _, (rel.put k eb rv).keeps fun c ys ec => ?_, q, es, ep, eq, x2, x3, x4, x5⟩
  rw [upd_ne (ne_of ec eD (fun w => nomatch w))]
  exact ec
section
variable {X : Cx}
theorem dcT_core {pins : List (Addr × Obj)} {s : Shared} {σ : L2.St} {H : Hp} {Q : VK} {kx vx tg it : Expr} {ifs : List Expr} {sc : Scope} {own : List (Str × Nat)} {pos pos' : Pos} {wi : TI} {g : TG} {tt : TT} {tk tv : TE}
    {use : Option (Value → Sem Unit)} {Qf : Value → Shared → Prop} (hu : X.A.units + 1 < cLine) (hc : X.calm = true) (hN : X.N.Nodup) (I : L2.Inv X pins σ H s) (hi : PI X tg it wi) (ok : BlkOk X.N X.env.scope sc own)
    (hg : ∀ (s : Shared) (H : Hp) (C : Addr) (cl : List (Str × Addr)) (fp : List Addr), PG (X.blk s H sc (compEnvC sc cl C X.env) fp) tg g)
    (ht : ∀ (s : Shared) (H : Hp) (C : Addr) (cl : List (Str × Addr)) (fp : List Addr), PTs (X.blk s H sc (compEnvC sc cl C X.env) fp) ifs tt)
    (hk : ∀ (s : Shared) (H : Hp) (C : Addr) (cl : List (Str × Addr)) (fp : List Addr), PE (X.blk s H sc (compEnvC sc cl C X.env) fp) kx tk)
    (hv : ∀ (s : Shared) (H : Hp) (C : Addr) (cl : List (Str × Addr)) (fp : List Addr), PE (X.blk s H sc (compEnvC sc cl C X.env) fp) vx tv)
    (hs : ∀ x, foldedSetIterable it X.env x = pure x) (h : tDcT wi g tt tk tv (own.map (·.2)) σ H Q)
    (post : ∀ D C s' m H', L2.Inv X pins σ H' s' → Q (.ref D) H' → s'.heap.Ns C m → FpOk X pins H' C → compPost (model X.prog X.w) X.A X.xe use Qf (.ref D) C (.ok .next) s') :
    wpAny (model X.prog X.w) X.A (comprehension (.DictComp kx vx [⟨tg, it, ifs, 0⟩] sc pos) sc X.env pos' newDict false (eval it X.env) use) Qf X.xe s := by
  have fr : ∀ y ∈ sc.names, y.2 = .free → ∃ c, X.env.cells.lookup y.1 = some c := by
    intro y hy e
    exact (ok.free y hy e).elim (fun k => I.ok.has _ (.inl k)) (fun k => I.ok.has _ (.inr k))
  refine wpAny_comprehension_free (use := use) rfl hs (closure_ok fr) ok.kind (fun y hy e => by rw [ok.uniq y hy, e]) (thn (hi.run pins s σ H _ I h) ?_)
  intro xv p1 hx
  refine thn hx ?_
  rintro itv p2 ⟨ia, fp, tn, J, G2, rfl, J2, T, st2, f2, q⟩
  refine wpAny_newObj_type (newEnv_comp ?_)
  generalize eD : p2.heap.objs.size = D
  have nD : G2 D = none := J2.hok.fresh (Nat.le_of_eq eD)
  obtain ⟨W, ⟨m0, w0⟩, turn⟩ := q D nD
  generalize ep3 : ({ p2 with heap := p2.heap.push { cls := .type "dict", data := .dict #[] } } : Shared) = p3
  have J3 : L2.Inv X pins σ (upd G2 D (.dT [])) p3 := by
    rw [← ep3]
    refine J2.laid (t' := p2.toks) (fun b o e => Heap.get?_push_of_some _ e) (Nat.le_of_eq eD) ?_
    rw [← eD]
    exact dt_empty p2.heap J2.big
  have hp3 : p3.heap = p2.heap.push { cls := .type "dict", data := .dict #[] } := by rw [← ep3]
  have small : ∀ b ∈ fp, b < p2.heap.objs.size := by
    intro b hb
    obtain ⟨o, e, _⟩ := T.obj _ _ st2 b hb
    exact Heap.lt_size e
  have f3 : ∀ b ∈ fp, FpOk X pins (upd G2 D (.dT [])) b ∧ b < p3.heap.objs.size := by
    intro b hb
    have lt := small b hb
    have up : (upd G2 D (.dT [])) b = none := by
      rw [upd_ne (by rw [← eD]; exact Nat.ne_of_lt lt)]
      exact (f2 b hb).1
    exact ⟨⟨up, (f2 b hb).2⟩, by rw [hp3, Heap.size_push]; exact Nat.lt_succ_of_lt lt⟩
  have st3 : tn 0 p3.heap := T.keep _ _ _ st2 fun b _ o e => by rw [hp3]; exact Heap.get?_push_of_some _ e
  have J4 := block_start J3 ok hN f3
  have pG := hg p3 (upd G2 D (.dT [])) p3.heap.objs.size (cellsFrom (p3.heap.objs.size + 1) sc.names (cloFrom X.env.cells sc.names [])) fp
  have pT := ht p3 (upd G2 D (.dT [])) p3.heap.objs.size (cellsFrom (p3.heap.objs.size + 1) sc.names (cloFrom X.env.cells sc.names [])) fp
  have pK := hk p3 (upd G2 D (.dT [])) p3.heap.objs.size (cellsFrom (p3.heap.objs.size + 1) sc.names (cloFrom X.env.cells sc.names [])) fp
  have pV := hv p3 (upd G2 D (.dT [])) p3.heap.objs.size (cellsFrom (p3.heap.objs.size + 1) sc.names (cloFrom X.env.cells sc.names [])) fp
  show codeAny _ _ (.compStart (.DictComp kx vx [⟨tg, it, ifs, 0⟩] sc pos) 0 (.ref ia) (.ref D) (compEnvC sc (cellsFrom (p3.heap.objs.size + 1) sc.names (cloFrom X.env.cells sc.names [])) p3.heap.objs.size X.env))
    (compPost (model X.prog X.w) X.A X.xe use Qf (.ref D) p3.heap.objs.size) { p3 with heap := pushCells (p3.heap.push { cls := .type "dict", data := .dict #[] }) sc.names }
  have none3 : ∀ b ∈ fp, (upd G2 D (.dT [])) b = none := fun b hb => (f3 b hb).1.1
  generalize ece : compEnvC sc (cellsFrom (p3.heap.objs.size + 1) sc.names (cloFrom X.env.cells sc.names [])) p3.heap.objs.size X.env = ce at J4 pG pT pK pV ⊢
  have locs : ce.locals = p3.heap.objs.size := by subst ece; rfl
  generalize eG3 : upd G2 D (.dT []) = G3 at J3 J4 pG pT pK pV w0 none3 f3
  generalize ep4 : ({ p3 with heap := pushCells (p3.heap.push { cls := .type "dict", data := .dict #[] }) sc.names } : Shared) = p4 at J4 ⊢
  have st4 : tn 0 p4.heap := T.keep _ _ _ st3 fun b _ o e => by rw [← ep4]; exact pushCells_keeps _ _ _ _ (Heap.get?_push_of_some _ e)
  have here : ∀ {σ' : L2.St} {H' : Hp} {s' : Shared}, L2.Inv (X.blk p3 G3 sc ce fp) [] σ' H' s' → (∀ b ∈ fp, H' b = none) → ∀ b ∈ fp, FpOk (X.blk p3 G3 sc ce fp) [] H' b := by
    intro σ' H' s' Z hn b hb
    exact ⟨hn b hb, (Z.ok.exf b hb).1, Z.ok.exfs b hb, .inl hb, fun x c e => (Z.ok.exf b hb).2 x c e, fun p hp => absurd (show p ∈ ([] : List (Addr × Obj)) ++ [] from hp) (by simp)⟩
  have loop : codeAny (model X.prog X.w) X.A (.compLoop (.DictComp kx vx [⟨tg, it, ifs, 0⟩] sc pos) 0 (.ref ia) (.ref D) ce) (compPost (model X.prog X.w) X.A X.xe use Qf (.ref D) p3.heap.objs.size) p4 := by
    refine compLoop_anyD (fun n s' => ∃ i H', L2.Inv (X.blk p3 G3 sc ce fp) [] (wipe σ (own.map (·.2))) H' s' ∧ tn i s'.heap ∧ (∀ b ∈ fp, H' b = none) ∧ W i n H') ?_ m0 ⟨0, G3, J4, st4, none3, w0⟩
    rintro n p5 ⟨i, G5, J5, st5, n5, w5⟩
    rcases turn i n G5 w5 with ⟨stop, qq⟩ | ⟨go, Nx, hNx, step⟩
    · refine thnF (T.done (X.blk p3 G3 sc ce fp) rfl rfl rfl hc i [] p5 _ G5 (fun _ _ => False) J5 (here J5 n5) st5 stop) ?_
      rintro r p6 ⟨rfl, J6⟩
      have J7 : L2.Inv X pins σ G5 p6 := J3.call' (ch := fp) J6.os J6.base J6.hok J6.bare fun b hb => ⟨(f3 b hb).1.2.2.2.1, (f3 b hb).1.2.1, (f3 b hb).1.2.2.2.2.1, (f3 b hb).1.2.2.2.2.2⟩
      have nC : G5 p3.heap.objs.size = none := by
        have z : G5 ce.locals = none := J6.free
        rwa [locs] at z
      obtain ⟨m, hn, _⟩ := J6.loc
      have hn' : p6.heap.Ns ce.locals m := hn
      rw [locs] at hn'
      exact post D p3.heap.objs.size p6 m G5 J7 qq hn' (J3.fpOk (Nat.le_refl _) nC)
    · refine thnF (T.item (X.blk p3 G3 sc ce fp) rfl rfl rfl hc i [] p5 _ G5 (fun _ _ => False) J5 (here J5 n5) st5 go) ?_
      rintro r p6 ⟨u, rfl, h6⟩
      refine thnF h6 ?_
      rintro _ p7 ⟨x, G7, J7, r7, y7, st7, n7⟩
      have K7 := J7.pinned (here J7 n7) (T.obj _ _ st7)
      refine thnF (pG.run _ p7 _ G7 x u _ K7 r7 (step x G7 y7)) ?_
      rintro _ p8 ⟨σ8, G8, J8, hw8, q8⟩
      refine thnF (pT.run _ p8 σ8 G8 _ J8 q8) ?_
      rintro b p9 ⟨G9, J9, q9⟩
      have fin : ∀ {s' : Shared} {H' : Hp}, L2.Inv (X.blk p3 G3 sc ce fp) ([] ++ pinsAt fp p7.heap) σ8 H' s' → Nx H' →
          ∃ m, m < n ∧ ∃ i H', L2.Inv (X.blk p3 G3 sc ce fp) [] (wipe σ (own.map (·.2))) H' s' ∧ tn i s'.heap ∧ (∀ b ∈ fp, H' b = none) ∧ W i m H' := by
        intro s' H' Z nx
        obtain ⟨m', hm, w'⟩ := hNx H' nx
        have pin : ∀ b ∈ fp, ∀ o, p7.heap.get? b = some o → s'.heap.get? b = some o ∧ H' b = none := fun b hb o e =>
          let z := Z.pin (b, o) (List.mem_append_right _ (List.mem_append_right _ (mem_pinsAt hb e)))
          ⟨z.1, z.2.1⟩
        have len : (wipe σ (own.map (·.2))).length = σ8.length := by rw [← hw8, wipe_length]
        have back : L2.Inv (X.blk p3 G3 sc ce fp) [] (wipe σ (own.map (·.2))) H' s' := (Z.unpinned (pins := [])).weak len fun j v e => by
          rw [← hw8] at e
          exact (wipe_some e).1
        exact ⟨m', hm, i + 1, H', back, T.keep _ _ _ st7 fun b hb o e => (pin b hb o e).1, fun b hb => let ⟨o, e, _⟩ := T.obj _ _ st7 b hb; (pin b hb o e).2, w'⟩
      cases b with
      | false =>
        simp only [Bool.false_eq_true, if_false] at q9 ⊢
        exact fin J9 q9
      | true =>
        simp only [if_true] at q9 ⊢
        refine thnF (pK.run _ p9 σ8 G9 _ J9 q9) ?_
        rintro z p10 ⟨yk, G10, J10, r10, q10⟩
        refine thnF (pV.run _ p10 σ8 G10 _ J10 q10) ?_
        rintro z2 p11 ⟨yv, G11, J11, r11, kvs, k, kb, rfl, eb, eD11, lz, nx⟩
        cases (show z = Value.ref kb from r10)
        exact dictSetT (X := X.blk p3 G3 sc ce fp) hu J11 eD11 eb lz r11 fun p12 J12 => fin J12 nx
  exact codeAny_compStart_dict loop (T.self X.A 0 _ _ _ st4 loop)
theorem ps_setDcT {i : Nat} {y : Str} {py : Pos} {kx vx tg it : Expr} {ifs : List Expr} {scope : Scope} {own : List (Str × Nat)} {pos sp : Pos} {wi : TI} {g : TG} {tt : TT} {tk tv : TE} (hu : X.A.units + 1 < cLine) (hc : X.calm = true) (hN : X.N.Nodup)
    (hy : X.N[i]? = some y) (hyl : X.env.scope.names.lookup y = some .local) (hsw : swapsWith (.DictComp kx vx [⟨tg, it, ifs, 0⟩] scope pos) (some (.Name y py)) sp.line X.env = pure true)
    (hi : PI X tg it wi) (ok : BlkOk X.N X.env.scope scope own)
    (hg : ∀ (s : Shared) (H : Hp) (C : Addr) (cl : List (Str × Addr)) (fp : List Addr), PG (X.blk s H scope (compEnvC scope cl C X.env) fp) tg g)
    (ht : ∀ (s : Shared) (H : Hp) (C : Addr) (cl : List (Str × Addr)) (fp : List Addr), PTs (X.blk s H scope (compEnvC scope cl C X.env) fp) ifs tt)
    (hk : ∀ (s : Shared) (H : Hp) (C : Addr) (cl : List (Str × Addr)) (fp : List Addr), PE (X.blk s H scope (compEnvC scope cl C X.env) fp) kx tk)
    (hv : ∀ (s : Shared) (H : Hp) (C : Addr) (cl : List (Str × Addr)) (fp : List Addr), PE (X.blk s H scope (compEnvC scope cl C X.env) fp) vx tv)
    (hs : ∀ x, foldedSetIterable it X.env x = pure x := by intro _; rfl) :
    PS X (.Assign [.Name y py] (.DictComp kx vx [⟨tg, it, ifs, 0⟩] scope pos) sp) (tAsg (tDcT wi g tt tk tv (own.map (·.2))) (gName i)) := by
  constructor
  intro pins s σ H D I h
  rw [exec_Assign_Name_used _ _ _ _ hsw]
  refine wpAny_bind (wpAny_standAt (wpAny_bind ?_))
  show wpAny _ X.A (do let _ ← comprehension (.DictComp kx vx [⟨tg, it, ifs, 0⟩] scope pos) scope X.env (firstIterPos [⟨tg, it, ifs, 0⟩] pos) newDict false (eval it X.env) (some (assign (.Name y py) X.env))) _ _ s
  have h' : tDcT wi g tt tk tv (own.map (·.2)) σ H (fun x H1 => gName i x σ H1 D.nx) := h
  refine wpAny_bind (thn (dcT_core (Qf := fun _ s' => SP X pins D .next s') hu hc hN I hi ok hg ht hk hv hs h' ?_) fun _ s' hq => wpAny_pure (wpAny_pure hq))
  intro L C s' m H' I' q hn f
  show wpAny _ _ (assign (.Name y py) X.env (.ref L)) _ _ _
  refine wpAny_assign_Name (store_ok2 (v := V.ref L) I' hN hy (.inl hyl) rfl ?_ (.inr hyl))
  rintro s2 I2 ⟨a, sb, ha⟩
  obtain ⟨f0, f1, f2, f3, f4, f5⟩ := f
  have ne : C ≠ a := by
    rcases ha with z | z
    · rw [z]; exact f1
    · exact fun e => f4 y a z e.symm
  exact ⟨m, hn.sameBut sb ne, fun h3 sb3 => ⟨_, H', I2.turned (t' := s2.toks) (fun b o hb e => (sb3.2 b hb).trans e) f0 f1 f3 f4 f5, q⟩⟩
theorem pe_dcT {kx vx tg it : Expr} {ifs : List Expr} {scope : Scope} {own : List (Str × Nat)} {pos : Pos} {wi : TI} {g : TG} {tt : TT} {tk tv : TE} (hu : X.A.units + 1 < cLine) (hc : X.calm = true) (hN : X.N.Nodup) (hi : PI X tg it wi) (ok : BlkOk X.N X.env.scope scope own) (hg : ∀ (s : Shared) (H : Hp) (C : Addr) (cl : List (Str × Addr)) (fp : List Addr), PG (X.blk s H scope (compEnvC scope cl C X.env) fp) tg g) (ht : ∀ (s : Shared) (H : Hp) (C : Addr) (cl : List (Str × Addr)) (fp : List Addr), PTs (X.blk s H scope (compEnvC scope cl C X.env) fp) ifs tt) (hk : ∀ (s : Shared) (H : Hp) (C : Addr) (cl : List (Str × Addr)) (fp : List Addr), PE (X.blk s H scope (compEnvC scope cl C X.env) fp) kx tk) (hv : ∀ (s : Shared) (H : Hp) (C : Addr) (cl : List (Str × Addr)) (fp : List Addr), PE (X.blk s H scope (compEnvC scope cl C X.env) fp) vx tv) (hs : ∀ x, foldedSetIterable it X.env x = pure x := by intro _; rfl) :
    PE X (.DictComp kx vx [⟨tg, it, ifs, 0⟩] scope pos) (tDcT wi g tt tk tv (own.map (·.2))) := by
  constructor
  intro pins s σ H Q I h
  rw [arm_eval_DictComp]
  refine dcT_core hu hc hN I hi ok hg ht hk hv hs h ?_
  intro D C s' m H' I' q hn f
  refine ⟨m, hn, fun h3 sb => ?_⟩
  obtain ⟨f0, f1, f2, f3, f4, f5⟩ := f
  exact ⟨.ref D, H', I'.turned (t' := s'.toks) (fun b o hb e => (sb.2 b hb).trans e) f0 f1 f3 f4 f5, rfl, q⟩
/-- over a tuple that stays -/
theorem dcT_tup {K : PySem.W.Frag} {a : Addr} {xs : List V} {g : TG} {tt : TT} {tk tv : TE} {vs : List Nat} {σ : L2.St} {H1 : Hp} {D : Addr} {Qd : Hp → Prop} (Pv : Nat → Hp → Prop) (h0 : Pv 0 (upd H1 D (.dT [])))
    (hl : ∀ i H, i ≤ xs.length → Pv i H → SqT K H a xs)
    (hs : ∀ i x H, xs[i]? = some x → Pv i H → g x (wipe σ vs) H fun σ2 H2 => wipe σ2 vs = wipe σ vs ∧ tt σ2 H2 fun b H3 =>
      if b = true then tk σ2 H3 fun y H4 => tv σ2 H4 fun z H5 => ∃ kvs k b, y = .ref b ∧ H5 b = some (.tup (k.map kV)) ∧ H5 D = some (.dT kvs) ∧ kvs.length < sizeLine ∧ Pv (i + 1) (upd H5 D (.dT (putK kvs k z))) else Pv (i + 1) H3)
    (hd : ∀ H, Pv xs.length H → Qd H) :
    ∃ W : Nat → Nat → Hp → Prop, (∃ m, W 0 m (upd H1 D (.dT []))) ∧ ∀ i m H, W i m H → ((Itt K a).stop i H ∧ Qd H) ∨
      ((Itt K a).go i H ∧ ∃ Nx : Hp → Prop, (∀ H', Nx H' → ∃ m', m' < m ∧ W (i + 1) m' H') ∧ ∀ x H', (Itt K a).yld i H x H' → g x (wipe σ vs) H' fun σ2 H2 => wipe σ2 vs = wipe σ vs ∧ tt σ2 H2 fun b H3 =>
        if b = true then tk σ2 H3 fun y H4 => tv σ2 H4 fun z H5 => ∃ kvs k b, y = .ref b ∧ H5 b = some (.tup (k.map kV)) ∧ H5 D = some (.dT kvs) ∧ kvs.length < sizeLine ∧ Nx (upd H5 D (.dT (putK kvs k z))) else Nx H3) := by
  refine ⟨fun i m H => m + i = xs.length ∧ Pv i H, ⟨xs.length, by simp, h0⟩, fun i m H ⟨em, hP⟩ => ?_⟩
  have sq := hl i H (by omega) hP
  by_cases c : i < xs.length
  · refine .inr ⟨⟨xs, xs[i], sq, List.getElem?_eq_getElem c⟩, Pv (i + 1), fun H' z => ⟨m - 1, by omega, by omega, z⟩, ?_⟩
    rintro x H' ⟨rfl, hx⟩
    exact hs i x _ (hx xs sq) hP
  · have e : i = xs.length := by omega
    exact .inl ⟨⟨xs, sq, by omega⟩, hd H (e ▸ hP)⟩
theorem k_dcT {wi : TI} {g : TG} {tt : TT} {tk tv : TE} {vs : List Nat} {σ : L2.St} {H : Hp} {Q : VK} (h : wi σ H fun J H1 => ∀ D, H1 D = none → ∃ W : Nat → Nat → Hp → Prop, (∃ m, W 0 m (upd H1 D (.dT []))) ∧ ∀ i m H, W i m H →
  (J.stop i H ∧ Q (.ref D) H) ∨ (J.go i H ∧ ∃ Nx : Hp → Prop, (∀ H', Nx H' → ∃ m', m' < m ∧ W (i + 1) m' H') ∧ ∀ x H', J.yld i H x H' → g x (wipe σ vs) H' fun σ2 H2 => wipe σ2 vs = wipe σ vs ∧ tt σ2 H2 fun b H3 =>
    if b = true then tk σ2 H3 fun y H4 => tv σ2 H4 fun z H5 => ∃ kvs k b, y = .ref b ∧ H5 b = some (.tup (k.map kV)) ∧ H5 D = some (.dT kvs) ∧ kvs.length < sizeLine ∧ Nx (upd H5 D (.dT (putK kvs k z))) else Nx H3)) : tDcT wi g tt tk tv vs σ H Q := h
end
/-! ### {(a, b): v for .. in .. for .. in ..}: two clauses, keys that are tuples -/
section
variable {prog : Program} {w : World} {A : Around} {R : Result → Shared → Prop} {s : Shared} {kx vx ta ia tb ib : Expr} {fa fb : List Expr} {sc : Scope} {pos : Pos} {it : Value} {D : Addr} {env : Env}
theorem turnD2_a (kx vx ta ia tb ib : Expr) (fa fb : List Expr) (sc : Scope) (pos : Pos) (it acc : Value) (env : Env) : compTurn (.DictComp kx vx [⟨ta, ia, fa, 0⟩, ⟨tb, ib, fb, 0⟩] sc pos) 0 it acc env = (do
    standAt ia.pos
    match ← pyNext it with
    | none => pure (.done .next)
    | some v =>
      letOwnedTupleGo ta it v
      assign ta env v
      let mut ok := true
      for c in fa do
        if ok then ok ← isTrue c env (eval c env)
      if ok then
        let x ← eval ib env
        standAt ib.pos
        let x ← foldedSetIterable ib env x
        let _ ← runOwn (.compStart (.DictComp kx vx [⟨ta, ia, fa, 0⟩, ⟨tb, ib, fb, 0⟩] sc pos) 1 (← holding [x] (pyIter x)) acc env) env
      again (.compLoop (.DictComp kx vx [⟨ta, ia, fa, 0⟩, ⟨tb, ib, fb, 0⟩] sc pos) 0 it acc env)) := by rfl
theorem turnD2_b (kx vx ta ia tb ib : Expr) (fa fb : List Expr) (sc : Scope) (pos : Pos) (it : Value) (D : Addr) (env : Env) : compTurn (.DictComp kx vx [⟨ta, ia, fa, 0⟩, ⟨tb, ib, fb, 0⟩] sc pos) 1 it (.ref D) env = (do
    standAt ib.pos
    match ← pyNext it with
    | none => pure (.done .next)
    | some v =>
      letOwnedTupleGo tb it v
      assign tb env v
      let mut ok := true
      for c in fb do
        if ok then ok ← isTrue c env (eval c env)
      if ok then
        (do
          let kv ← eval kx env
          let vv ← holding [kv] (eval vx env)
          standAt { kx.pos with endLine := vx.pos.endLine, endCol := vx.pos.endCol }
          holding [kv, vv] (dictSet D kv vv))
      again (.compLoop (.DictComp kx vx [⟨ta, ia, fa, 0⟩, ⟨tb, ib, fb, 0⟩] sc pos) 1 it (.ref D) env)) := by rfl
abbrev NB (prog : Program) (w : World) (A : Around) (env : Env) (R : Result → Shared → Prop) : Value → Shared → Prop := notedBy (model prog w) A env fun e s' => R (.error e) s'
theorem loopD2_a (hs : ∀ x, foldedSetIterable ib env x = pure x) (J : Nat → Shared → Prop)
    (one : ∀ n s, J n s → wpAny (model prog w) A (pyNext it) (fun r s1 => match r with
      | none => R (.ok .next) s1
      | some v => wpAny (model prog w) A (letOwnedTupleGo ta it v) (fun _ s2 => wpAny (model prog w) A (assign ta env v) (fun _ s3 =>
          wpAny (model prog w) A (forIn fa true fun c r => if r = true then do let ok ← isTrue c env (eval c env); pure (ForInStep.yield ok) else pure (ForInStep.yield r)) (fun ok s4 =>
            if ok = true then wpAny (model prog w) A (eval ib env) (fun x s5 => wpAny (model prog w) A (pyIter x) (fun it2 s6 =>
              codeAny (model prog w) A (.compStart (.DictComp kx vx [⟨ta, ia, fa, 0⟩, ⟨tb, ib, fb, 0⟩] sc pos) 1 it2 (.ref D) env) (fun r s' => match r with
                | .ok _ => ∃ m, m < n ∧ J m s'
                | .error _ => False) s6) (NB prog w A env R) s5) (NB prog w A env R) s4
            else ∃ m, m < n ∧ J m s4) (NB prog w A env R) s3) (NB prog w A env R) s2) (NB prog w A env R) s1) (NB prog w A env R) s)
    (n : Nat) (h : J n s) : codeAny (model prog w) A (.compLoop (.DictComp kx vx [⟨ta, ia, fa, 0⟩, ⟨tb, ib, fb, 0⟩] sc pos) 0 it (.ref D) env) R s := by
  refine codeAny_loop rfl J ?_ n h
  intro n s hJ
  show wpAny _ A ((compTurn (.DictComp kx vx [⟨ta, ia, fa, 0⟩, ⟨tb, ib, fb, 0⟩] sc pos) 0 it (.ref D) env).onRaise (fun x => do noteFrame x env; theTreesLotGoes x)) _ _ s
  refine wpAny_noted ?_
  rw [turnD2_a]
  refine wpAny_bind (wpAny_standAt (wpAny_bind (wpAny_mono (one n s hJ) ?_ fun _ _ z => z)))
  intro r s1 h1
  cases r with
  | none => exact wpAny_pure h1
  | some v =>
    refine wpAny_bind (wpAny_mono h1 ?_ fun _ _ z => z)
    intro _ s2 h2
    refine wpAny_bind (wpAny_mono h2 ?_ fun _ _ z => z)
    intro _ s3 h3
    refine wpAny_bind (wpAny_mono h3 ?_ fun _ _ z => z)
    intro ok s4 h4
    cases ok with
    | false => exact wpAny_pure ⟨rfl, h4⟩
    | true =>
      refine wpAny_bind (wpAny_mono h4 ?_ fun _ _ z => z)
      intro x s5 h5
      refine wpAny_bind (wpAny_standAt (wpAny_bind (wpAny_of_eq (hs x) (wpAny_bind (wpAny_holding (wpAny_mono h5 ?_ fun _ _ z => z))))))
      intro it2 s6 h6
      refine wpAny_bind (wpAny_runOwn ?_)
      rw [Around.mark_none]
      refine codeAny_mono h6 ?_
      intro r s' hr
      cases r with
      | error e => exact hr.elim
      | ok f => first | exact wpAny_pure ⟨rfl, hr⟩ | exact wpAny_bind (wpAny_pure (wpAny_pure ⟨rfl, hr⟩))
theorem loopD2_b (J : Nat → Shared → Prop)
    (one : ∀ n s, J n s → wpAny (model prog w) A (pyNext it) (fun r s1 => match r with
      | none => R (.ok .next) s1
      | some v => wpAny (model prog w) A (letOwnedTupleGo tb it v) (fun _ s2 => wpAny (model prog w) A (assign tb env v) (fun _ s3 =>
          wpAny (model prog w) A (forIn fb true fun c r => if r = true then do let ok ← isTrue c env (eval c env); pure (ForInStep.yield ok) else pure (ForInStep.yield r)) (fun ok s4 =>
            if ok = true then wpAny (model prog w) A (eval kx env) (fun kv s5 => wpAny (model prog w) A (eval vx env) (fun vv s6 =>
              wpAny (model prog w) A (dictSet D kv vv) (fun _ s7 => ∃ m, m < n ∧ J m s7) (NB prog w A env R) s6) (NB prog w A env R) s5) (NB prog w A env R) s4
            else ∃ m, m < n ∧ J m s4) (NB prog w A env R) s3) (NB prog w A env R) s2) (NB prog w A env R) s1) (NB prog w A env R) s)
    (n : Nat) (h : J n s) : codeAny (model prog w) A (.compLoop (.DictComp kx vx [⟨ta, ia, fa, 0⟩, ⟨tb, ib, fb, 0⟩] sc pos) 1 it (.ref D) env) R s := by
  refine codeAny_loop rfl J ?_ n h
  intro n s hJ
  show wpAny _ A ((compTurn (.DictComp kx vx [⟨ta, ia, fa, 0⟩, ⟨tb, ib, fb, 0⟩] sc pos) 1 it (.ref D) env).onRaise (fun x => do noteFrame x env; theTreesLotGoes x)) _ _ s
  refine wpAny_noted ?_
  rw [turnD2_b]
  refine wpAny_bind (wpAny_standAt (wpAny_bind (wpAny_mono (one n s hJ) ?_ fun _ _ z => z)))
  intro r s1 h1
  cases r with
  | none => exact wpAny_pure h1
  | some v =>
    refine wpAny_bind (wpAny_mono h1 ?_ fun _ _ z => z)
    intro _ s2 h2
    refine wpAny_bind (wpAny_mono h2 ?_ fun _ _ z => z)
    intro _ s3 h3
    refine wpAny_bind (wpAny_mono h3 ?_ fun _ _ z => z)
    intro ok s4 h4
    cases ok with
    | false => exact wpAny_pure ⟨rfl, h4⟩
    | true =>
      refine wpAny_bind (wpAny_bind (wpAny_mono h4 ?_ fun _ _ z => z))
      intro kv s5 h5
      refine wpAny_bind (wpAny_holding (wpAny_mono h5 ?_ fun _ _ z => z))
      intro vv s6 h6
      refine wpAny_bind (wpAny_standAt (wpAny_holding (wpAny_mono h6 ?_ fun _ _ z => z)))
      intro _ s7 h7
      exact wpAny_pure ⟨rfl, h7⟩
theorem startD2 {acc : Value} (h0 : codeAny (model prog w) A (.compLoop (.DictComp kx vx [⟨ta, ia, fa, 0⟩, ⟨tb, ib, fb, 0⟩] sc pos) 1 it acc env) R s)
    (h1 : wpAny (model prog w) A (pyIter it) (fun it2 s' => codeAny (model prog w) A (.compLoop (.DictComp kx vx [⟨ta, ia, fa, 0⟩, ⟨tb, ib, fb, 0⟩] sc pos) 1 it2 acc env) R s') (NB prog w A env R) s) :
    codeAny (model prog w) A (.compStart (.DictComp kx vx [⟨ta, ia, fa, 0⟩, ⟨tb, ib, fb, 0⟩] sc pos) 1 it acc env) R s := by
  refine codeAny_of_tree ?_
  show wpAny _ A ((compStart (.DictComp kx vx [⟨ta, ia, fa, 0⟩, ⟨tb, ib, fb, 0⟩] sc pos) 1 it acc env).onRaise (fun x => do noteFrame x env; standAt theWindowsPlace)) _ _ s
  refine wpAny_notedAt ?_
  unfold compStart
  show wpAny _ A (ask >>= _) _ _ s
  refine wpAny_bind (wpAny_askSetting (wpAny_ite ?_))
  split
  · first | exact wpAny_bind (wpAny_pure (wpAny_pure ⟨rfl, h0⟩)) | exact wpAny_pure ⟨rfl, h0⟩
  · refine wpAny_bind (wpAny_rule ?_)
    show wpAny _ _ (standAt ib.pos >>= _) _ _ s
    refine wpAny_bind (wpAny_standAt (wpAny_bind (wpAny_mono h1 ?_ fun _ _ z => z)))
    intro it2 s' z
    exact wpAny_pure ⟨rfl, z⟩
end
/-- behind the first clause's store and tests the second one's own loop, from which Nx is reached -/
def tDc2T (wi : TI) (g : TG) (tt : TT) (wi1 : TI) (g1 : TG) (tt1 : TT) (tk tv : TE) (vs vs1 : List Nat) : TE := fun σ H Q => wi σ H fun J H1 => ∀ D, H1 D = none → ∃ W : Nat → Nat → Hp → Prop, (∃ m, W 0 m (upd H1 D (.dT []))) ∧ ∀ i m H, W i m H →
  (J.stop i H ∧ Q (.ref D) H) ∨ (J.go i H ∧ ∃ Nx : Hp → Prop, (∀ H', Nx H' → ∃ m', m' < m ∧ W (i + 1) m' H') ∧ ∀ x H', J.yld i H x H' → g x (wipe σ vs) H' fun σ2 H2 => wipe σ2 vs = wipe σ vs ∧ tt σ2 H2 fun b H3 =>
    if b = true then wi1 σ2 H3 fun J1 H4 => ∃ W1 : Nat → Nat → Hp → Prop, (∃ m, W1 0 m H4) ∧ ∀ j k H, W1 j k H →
      (J1.stop j H ∧ Nx H) ∨ (J1.go j H ∧ ∃ Nx1 : Hp → Prop, (∀ H', Nx1 H' → ∃ k', k' < k ∧ W1 (j + 1) k' H') ∧ ∀ x H', J1.yld j H x H' → g1 x (wipe σ2 vs1) H' fun σ3 H5 => wipe σ3 vs1 = wipe σ2 vs1 ∧ tt1 σ3 H5 fun b H6 =>
        if b = true then tk σ3 H6 fun y H7 => tv σ3 H7 fun z H8 => ∃ kvs k b, y = .ref b ∧ H8 b = some (.tup (k.map kV)) ∧ H8 D = some (.dT kvs) ∧ kvs.length < sizeLine ∧ Nx1 (upd H8 D (.dT (putK kvs k z))) else Nx1 H6)
    else Nx H3)
section
variable {X : Cx}
theorem dc2T_core {pins : List (Addr × Obj)} {s : Shared} {σ : L2.St} {H : Hp} {Q : VK} {kx vx tg it tg1 it1 : Expr} {ifs ifs1 : List Expr} {sc : Scope} {own : List (Str × Nat)} {pos pos' : Pos} {wi wi1 : TI} {g g1 : TG} {tt tt1 : TT} {vs1 : List Nat} {tk tv : TE}
    {use : Option (Value → Sem Unit)} {Qf : Value → Shared → Prop} (hu : X.A.units + 1 < cLine) (hc : X.calm = true) (hN : X.N.Nodup) (I : L2.Inv X pins σ H s) (hi : PI X tg it wi) (ok : BlkOk X.N X.env.scope sc own)
    (hg : ∀ (s : Shared) (H : Hp) (C : Addr) (cl : List (Str × Addr)) (fp : List Addr), PG (X.blk s H sc (compEnvC sc cl C X.env) fp) tg g)
    (ht : ∀ (s : Shared) (H : Hp) (C : Addr) (cl : List (Str × Addr)) (fp : List Addr), PTs (X.blk s H sc (compEnvC sc cl C X.env) fp) ifs tt)
    (hk : ∀ (s : Shared) (H : Hp) (C : Addr) (cl : List (Str × Addr)) (fp : List Addr), PE (X.blk s H sc (compEnvC sc cl C X.env) fp) kx tk)
    (hv : ∀ (s : Shared) (H : Hp) (C : Addr) (cl : List (Str × Addr)) (fp : List Addr), PE (X.blk s H sc (compEnvC sc cl C X.env) fp) vx tv)
    (hi1 : ∀ (s : Shared) (H : Hp) (C : Addr) (cl : List (Str × Addr)) (fp : List Addr), PI (X.blk s H sc (compEnvC sc cl C X.env) fp) tg1 it1 wi1)
    (hg1 : ∀ (s : Shared) (H : Hp) (C : Addr) (cl : List (Str × Addr)) (fp : List Addr), PG (X.blk s H sc (compEnvC sc cl C X.env) fp) tg1 g1)
    (ht1 : ∀ (s : Shared) (H : Hp) (C : Addr) (cl : List (Str × Addr)) (fp : List Addr), PTs (X.blk s H sc (compEnvC sc cl C X.env) fp) ifs1 tt1)
    (hv1 : ∀ i ∈ vs1, i ∈ own.map (·.2)) (hs1 : ∀ env x, foldedSetIterable it1 env x = pure x)
    (hs : ∀ x, foldedSetIterable it X.env x = pure x) (h : tDc2T wi g tt wi1 g1 tt1 tk tv (own.map (·.2)) vs1 σ H Q)
    (post : ∀ D C s' m H', L2.Inv X pins σ H' s' → Q (.ref D) H' → s'.heap.Ns C m → FpOk X pins H' C → compPost (model X.prog X.w) X.A X.xe use Qf (.ref D) C (.ok .next) s') :
    wpAny (model X.prog X.w) X.A (comprehension (.DictComp kx vx [⟨tg, it, ifs, 0⟩, ⟨tg1, it1, ifs1, 0⟩] sc pos) sc X.env pos' newDict false (eval it X.env) use) Qf X.xe s := by
  have fr : ∀ y ∈ sc.names, y.2 = .free → ∃ c, X.env.cells.lookup y.1 = some c := by
    intro y hy e
    exact (ok.free y hy e).elim (fun k => I.ok.has _ (.inl k)) (fun k => I.ok.has _ (.inr k))
  refine wpAny_comprehension_free (use := use) rfl hs (closure_ok fr) ok.kind (fun y hy e => by rw [ok.uniq y hy, e]) (thn (hi.run pins s σ H _ I h) ?_)
  intro xv p1 hx
  refine thn hx ?_
  rintro itv p2 ⟨ia, fp, tn, J, G2, rfl, J2, T, st2, f2, q⟩
  refine wpAny_newObj_type (newEnv_comp ?_)
  generalize eD : p2.heap.objs.size = D
  have nD : G2 D = none := J2.hok.fresh (Nat.le_of_eq eD)
  obtain ⟨W, ⟨m0, w0⟩, turn⟩ := q D nD
  generalize ep3 : ({ p2 with heap := p2.heap.push { cls := .type "dict", data := .dict #[] } } : Shared) = p3
  have J3 : L2.Inv X pins σ (upd G2 D (.dT [])) p3 := by
    rw [← ep3]
    refine J2.laid (t' := p2.toks) (fun b o e => Heap.get?_push_of_some _ e) (Nat.le_of_eq eD) ?_
    rw [← eD]
    exact dt_empty p2.heap J2.big
  have hp3 : p3.heap = p2.heap.push { cls := .type "dict", data := .dict #[] } := by rw [← ep3]
  have small : ∀ b ∈ fp, b < p2.heap.objs.size := by
    intro b hb
    obtain ⟨o, e, _⟩ := T.obj _ _ st2 b hb
    exact Heap.lt_size e
  have f3 : ∀ b ∈ fp, FpOk X pins (upd G2 D (.dT [])) b ∧ b < p3.heap.objs.size := by
    intro b hb
    have lt := small b hb
    have up : (upd G2 D (.dT [])) b = none := by
      rw [upd_ne (by rw [← eD]; exact Nat.ne_of_lt lt)]
      exact (f2 b hb).1
    exact ⟨⟨up, (f2 b hb).2⟩, by rw [hp3, Heap.size_push]; exact Nat.lt_succ_of_lt lt⟩
  have st3 : tn 0 p3.heap := T.keep _ _ _ st2 fun b _ o e => by rw [hp3]; exact Heap.get?_push_of_some _ e
  have J4 := block_start J3 ok hN f3
  have pG := hg p3 (upd G2 D (.dT [])) p3.heap.objs.size (cellsFrom (p3.heap.objs.size + 1) sc.names (cloFrom X.env.cells sc.names [])) fp
  have pT := ht p3 (upd G2 D (.dT [])) p3.heap.objs.size (cellsFrom (p3.heap.objs.size + 1) sc.names (cloFrom X.env.cells sc.names [])) fp
  have pK := hk p3 (upd G2 D (.dT [])) p3.heap.objs.size (cellsFrom (p3.heap.objs.size + 1) sc.names (cloFrom X.env.cells sc.names [])) fp
  have pI1 := hi1 p3 (upd G2 D (.dT [])) p3.heap.objs.size (cellsFrom (p3.heap.objs.size + 1) sc.names (cloFrom X.env.cells sc.names [])) fp
  have pG1 := hg1 p3 (upd G2 D (.dT [])) p3.heap.objs.size (cellsFrom (p3.heap.objs.size + 1) sc.names (cloFrom X.env.cells sc.names [])) fp
  have pT1 := ht1 p3 (upd G2 D (.dT [])) p3.heap.objs.size (cellsFrom (p3.heap.objs.size + 1) sc.names (cloFrom X.env.cells sc.names [])) fp
  have pV := hv p3 (upd G2 D (.dT [])) p3.heap.objs.size (cellsFrom (p3.heap.objs.size + 1) sc.names (cloFrom X.env.cells sc.names [])) fp
  show codeAny _ _ (.compStart (.DictComp kx vx [⟨tg, it, ifs, 0⟩, ⟨tg1, it1, ifs1, 0⟩] sc pos) 0 (.ref ia) (.ref D) (compEnvC sc (cellsFrom (p3.heap.objs.size + 1) sc.names (cloFrom X.env.cells sc.names [])) p3.heap.objs.size X.env))
    (compPost (model X.prog X.w) X.A X.xe use Qf (.ref D) p3.heap.objs.size) { p3 with heap := pushCells (p3.heap.push { cls := .type "dict", data := .dict #[] }) sc.names }
  have none3 : ∀ b ∈ fp, (upd G2 D (.dT [])) b = none := fun b hb => (f3 b hb).1.1
  generalize ece : compEnvC sc (cellsFrom (p3.heap.objs.size + 1) sc.names (cloFrom X.env.cells sc.names [])) p3.heap.objs.size X.env = ce at J4 pG pT pK pV pI1 pG1 pT1 ⊢
  have locs : ce.locals = p3.heap.objs.size := by subst ece; rfl
  generalize eG3 : upd G2 D (.dT []) = G3 at J3 J4 pG pT pK pV pI1 pG1 pT1 w0 none3 f3
  generalize ep4 : ({ p3 with heap := pushCells (p3.heap.push { cls := .type "dict", data := .dict #[] }) sc.names } : Shared) = p4 at J4 ⊢
  have st4 : tn 0 p4.heap := T.keep _ _ _ st3 fun b _ o e => by rw [← ep4]; exact pushCells_keeps _ _ _ _ (Heap.get?_push_of_some _ e)
  have here : ∀ {σ' : L2.St} {H' : Hp} {s' : Shared}, L2.Inv (X.blk p3 G3 sc ce fp) [] σ' H' s' → (∀ b ∈ fp, H' b = none) → ∀ b ∈ fp, FpOk (X.blk p3 G3 sc ce fp) [] H' b := by
    intro σ' H' s' Z hn b hb
    exact ⟨hn b hb, (Z.ok.exf b hb).1, Z.ok.exfs b hb, .inl hb, fun x c e => (Z.ok.exf b hb).2 x c e, fun p hp => absurd (show p ∈ ([] : List (Addr × Obj)) ++ [] from hp) (by simp)⟩
  have loop : codeAny (model X.prog X.w) X.A (.compLoop (.DictComp kx vx [⟨tg, it, ifs, 0⟩, ⟨tg1, it1, ifs1, 0⟩] sc pos) 0 (.ref ia) (.ref D) ce) (compPost (model X.prog X.w) X.A X.xe use Qf (.ref D) p3.heap.objs.size) p4 := by
    refine loopD2_a (hs1 ce) (fun n s' => ∃ i H', L2.Inv (X.blk p3 G3 sc ce fp) [] (wipe σ (own.map (·.2))) H' s' ∧ tn i s'.heap ∧ (∀ b ∈ fp, H' b = none) ∧ W i n H') ?_ m0 ⟨0, G3, J4, st4, none3, w0⟩
    rintro n p5 ⟨i, G5, J5, st5, n5, w5⟩
    rcases turn i n G5 w5 with ⟨stop, qq⟩ | ⟨go, Nx, hNx, step⟩
    · refine thnF (T.done (X.blk p3 G3 sc ce fp) rfl rfl rfl hc i [] p5 _ G5 (fun _ _ => False) J5 (here J5 n5) st5 stop) ?_
      rintro r p6 ⟨rfl, J6⟩
      have J7 : L2.Inv X pins σ G5 p6 := J3.call' (ch := fp) J6.os J6.base J6.hok J6.bare fun b hb => ⟨(f3 b hb).1.2.2.2.1, (f3 b hb).1.2.1, (f3 b hb).1.2.2.2.2.1, (f3 b hb).1.2.2.2.2.2⟩
      have nC : G5 p3.heap.objs.size = none := by
        have z : G5 ce.locals = none := J6.free
        rwa [locs] at z
      obtain ⟨m, hn, _⟩ := J6.loc
      have hn' : p6.heap.Ns ce.locals m := hn
      rw [locs] at hn'
      exact post D p3.heap.objs.size p6 m G5 J7 qq hn' (J3.fpOk (Nat.le_refl _) nC)
    · refine thnF (T.item (X.blk p3 G3 sc ce fp) rfl rfl rfl hc i [] p5 _ G5 (fun _ _ => False) J5 (here J5 n5) st5 go) ?_
      rintro r p6 ⟨u, rfl, h6⟩
      refine thnF h6 ?_
      rintro _ p7 ⟨x, G7, J7, r7, y7, st7, n7⟩
      have K7 := J7.pinned (here J7 n7) (T.obj _ _ st7)
      refine thnF (pG.run _ p7 _ G7 x u _ K7 r7 (step x G7 y7)) ?_
      rintro _ p8 ⟨σ8, G8, J8, hw8, q8⟩
      refine thnF (pT.run _ p8 σ8 G8 _ J8 q8) ?_
      rintro b p9 ⟨G9, J9, q9⟩
      have fin : ∀ {σ9 : L2.St} {s' : Shared} {H' : Hp}, L2.Inv (X.blk p3 G3 sc ce fp) ([] ++ pinsAt fp p7.heap) σ9 H' s' → (wipe σ (own.map (·.2))).length = σ9.length → (∀ (j : Nat) v, (wipe σ (own.map (·.2)))[j]? = some (some v) → σ9[j]? = some (some v)) → Nx H' →
          ∃ m, m < n ∧ ∃ i H', L2.Inv (X.blk p3 G3 sc ce fp) [] (wipe σ (own.map (·.2))) H' s' ∧ tn i s'.heap ∧ (∀ b ∈ fp, H' b = none) ∧ W i m H' := by
        intro σ9 s' H' Z len know nx
        obtain ⟨m', hm, w'⟩ := hNx H' nx
        have pin : ∀ b ∈ fp, ∀ o, p7.heap.get? b = some o → s'.heap.get? b = some o ∧ H' b = none := fun b hb o e =>
          let z := Z.pin (b, o) (List.mem_append_right _ (List.mem_append_right _ (mem_pinsAt hb e)))
          ⟨z.1, z.2.1⟩
        exact ⟨m', hm, i + 1, H', (Z.unpinned (pins := [])).weak len know, T.keep _ _ _ st7 fun b hb o e => (pin b hb o e).1, fun b hb => let ⟨o, e, _⟩ := T.obj _ _ st7 b hb; (pin b hb o e).2, w'⟩
      have len8 : (wipe σ (own.map (·.2))).length = σ8.length := by rw [← hw8]; exact wipe_length _ _
      have know8 : ∀ (j : Nat) v, (wipe σ (own.map (·.2)))[j]? = some (some v) → σ8[j]? = some (some v) := by
        intro j v e
        rw [← hw8] at e
        exact (wipe_some e).1
      have know9 : ∀ (j : Nat) v, (wipe σ (own.map (·.2)))[j]? = some (some v) → (wipe σ8 vs1)[j]? = some (some v) := by
        intro j v e
        rw [← hw8] at e
        obtain ⟨a1, a2⟩ := wipe_some e
        rw [wipe_out (fun z => a2 (hv1 j z))]
        exact a1
      cases b with
      | false =>
        simp only [Bool.false_eq_true, if_false] at q9 ⊢
        exact fin J9 len8 know8 q9
      | true =>
        simp only [if_true] at q9 ⊢
        refine thnF (pI1.run _ p9 σ8 G9 _ J9 q9) ?_
        intro xv1 p10 hx1
        refine thnF hx1 ?_
        rintro itv1 p11 ⟨ib, fp1, tn1, K1, G11, rfl, J11, T1, st11, f11, W1, ⟨m1, w1⟩, turn1⟩
        have here1 : ∀ {H' : Hp}, (∀ b ∈ fp1, H' b = none) → ∀ b ∈ fp1, FpOk (X.blk p3 G3 sc ce fp) ([] ++ pinsAt fp p7.heap) H' b := by
          intro H' hn b hb
          exact ⟨hn b hb, (f11 b hb).2⟩
        have loop1 : codeAny (model X.prog X.w) X.A (.compLoop (.DictComp kx vx [⟨tg, it, ifs, 0⟩, ⟨tg1, it1, ifs1, 0⟩] sc pos) 1 (.ref ib) (.ref D) ce)
            (fun r s' => match r with
              | .ok _ => ∃ m, m < n ∧ ∃ i H', L2.Inv (X.blk p3 G3 sc ce fp) [] (wipe σ (own.map (·.2))) H' s' ∧ tn i s'.heap ∧ (∀ b ∈ fp, H' b = none) ∧ W i m H'
              | .error _ => False) p11 := by
          refine loopD2_b (fun k s' => ∃ j H', L2.Inv (X.blk p3 G3 sc ce fp) ([] ++ pinsAt fp p7.heap) (wipe σ8 vs1) H' s' ∧ tn1 j s'.heap ∧ (∀ b ∈ fp1, H' b = none) ∧ W1 j k H') ?_ m1 ⟨0, G11, J11.weak (wipe_length _ _) (fun j v e => (wipe_some e).1), st11, fun b hb => (f11 b hb).1, w1⟩
          rintro k p12 ⟨j, G12, J12, st12, n12, w12⟩
          rcases turn1 j k G12 w12 with ⟨stop1, nx1⟩ | ⟨go1, Nx1, hNx1, step1⟩
          · refine thnF (T1.done (X.blk p3 G3 sc ce fp) rfl rfl rfl hc j _ p12 (wipe σ8 vs1) G12 (fun _ _ => False) J12 (here1 n12) st12 stop1) ?_
            rintro r p13 ⟨rfl, J13⟩
            exact fin J13 (len8.trans (wipe_length σ8 vs1).symm) know9 nx1
          · refine thnF (T1.item (X.blk p3 G3 sc ce fp) rfl rfl rfl hc j _ p12 (wipe σ8 vs1) G12 (fun _ _ => False) J12 (here1 n12) st12 go1) ?_
            rintro r p13 ⟨u1, rfl, h13⟩
            refine thnF h13 ?_
            rintro _ p14 ⟨x1, G14, J14, r14, y14, st14, n14⟩
            have K14 := J14.pinned (here1 n14) (T1.obj _ _ st14)
            refine thnF (pG1.run _ p14 (wipe σ8 vs1) G14 x1 u1 _ K14 r14 (step1 x1 G14 y14)) ?_
            rintro _ p15 ⟨σ15, G15, J15, hw15, q15⟩
            refine thnF (pT1.run _ p15 σ15 G15 _ J15 q15) ?_
            rintro b1 p16 ⟨G16, J16, q16⟩
            have fin1 : ∀ {s' : Shared} {H' : Hp}, L2.Inv (X.blk p3 G3 sc ce fp) (([] ++ pinsAt fp p7.heap) ++ pinsAt fp1 p14.heap) σ15 H' s' → Nx1 H' →
                ∃ m, m < k ∧ ∃ j H', L2.Inv (X.blk p3 G3 sc ce fp) ([] ++ pinsAt fp p7.heap) (wipe σ8 vs1) H' s' ∧ tn1 j s'.heap ∧ (∀ b ∈ fp1, H' b = none) ∧ W1 j m H' := by
              intro s' H' Z nx
              obtain ⟨m', hm, w'⟩ := hNx1 H' nx
              have pin1 : ∀ b ∈ fp1, ∀ o, p14.heap.get? b = some o → s'.heap.get? b = some o ∧ H' b = none := fun b hb o e =>
                let z := Z.pin (b, o) (List.mem_append_right _ (List.mem_append_right _ (mem_pinsAt hb e)))
                ⟨z.1, z.2.1⟩
              have len15 : (wipe σ8 vs1).length = σ15.length := by rw [← hw15]; exact wipe_length _ _
              have know15 : ∀ (j : Nat) v, (wipe σ8 vs1)[j]? = some (some v) → σ15[j]? = some (some v) := by
                intro j v e
                rw [← hw15] at e
                exact (wipe_some e).1
              exact ⟨m', hm, j + 1, H', Z.unpinned.weak len15 know15, T1.keep _ _ _ st14 fun b hb o e => (pin1 b hb o e).1, fun b hb => let ⟨o, e, _⟩ := T1.obj _ _ st14 b hb; (pin1 b hb o e).2, w'⟩
            cases b1 with
            | false =>
              simp only [Bool.false_eq_true, if_false] at q16 ⊢
              exact fin1 J16 q16
            | true =>
              simp only [if_true] at q16 ⊢
              refine thnF (pK.run _ p16 σ15 G16 _ J16 q16) ?_
              rintro z p17 ⟨yk, G17, J17, r17, q17⟩
              refine thnF (pV.run _ p17 σ15 G17 _ J17 q17) ?_
              rintro z2 p18 ⟨yv, G18, J18, r18, kvs, k, kb, rfl, eb, eD18, lz, nx⟩
              cases (show z = Value.ref kb from r17)
              exact dictSetT (X := X.blk p3 G3 sc ce fp) hu J18 eD18 eb lz r18 fun p19 J19 => fin1 J19 nx
        exact startD2 loop1 (T1.self X.A 0 _ _ _ st11 loop1)
  exact codeAny_compStart_dict loop (T.self X.A 0 _ _ _ st4 loop)
theorem ps_setDc2T {i : Nat} {y : Str} {py : Pos} {kx vx tg it tg1 it1 : Expr} {ifs ifs1 : List Expr} {scope : Scope} {own : List (Str × Nat)} {pos sp : Pos} {wi wi1 : TI} {g g1 : TG} {tt tt1 : TT} {vs1 : List Nat} {tk tv : TE} (hu : X.A.units + 1 < cLine) (hc : X.calm = true) (hN : X.N.Nodup)
    (hy : X.N[i]? = some y) (hyl : X.env.scope.names.lookup y = some .local) (hsw : swapsWith (.DictComp kx vx [⟨tg, it, ifs, 0⟩, ⟨tg1, it1, ifs1, 0⟩] scope pos) (some (.Name y py)) sp.line X.env = pure true)
    (hi : PI X tg it wi) (ok : BlkOk X.N X.env.scope scope own)
    (hg : ∀ (s : Shared) (H : Hp) (C : Addr) (cl : List (Str × Addr)) (fp : List Addr), PG (X.blk s H scope (compEnvC scope cl C X.env) fp) tg g)
    (ht : ∀ (s : Shared) (H : Hp) (C : Addr) (cl : List (Str × Addr)) (fp : List Addr), PTs (X.blk s H scope (compEnvC scope cl C X.env) fp) ifs tt)
    (hk : ∀ (s : Shared) (H : Hp) (C : Addr) (cl : List (Str × Addr)) (fp : List Addr), PE (X.blk s H scope (compEnvC scope cl C X.env) fp) kx tk)
    (hv : ∀ (s : Shared) (H : Hp) (C : Addr) (cl : List (Str × Addr)) (fp : List Addr), PE (X.blk s H scope (compEnvC scope cl C X.env) fp) vx tv)
    (hi1 : ∀ (s : Shared) (H : Hp) (C : Addr) (cl : List (Str × Addr)) (fp : List Addr), PI (X.blk s H scope (compEnvC scope cl C X.env) fp) tg1 it1 wi1)
    (hg1 : ∀ (s : Shared) (H : Hp) (C : Addr) (cl : List (Str × Addr)) (fp : List Addr), PG (X.blk s H scope (compEnvC scope cl C X.env) fp) tg1 g1)
    (ht1 : ∀ (s : Shared) (H : Hp) (C : Addr) (cl : List (Str × Addr)) (fp : List Addr), PTs (X.blk s H scope (compEnvC scope cl C X.env) fp) ifs1 tt1)
    (hv1 : ∀ i ∈ vs1, i ∈ own.map (·.2))
    (hs1 : ∀ env x, foldedSetIterable it1 env x = pure x := by intro _ _; rfl)
    (hs : ∀ x, foldedSetIterable it X.env x = pure x := by intro _; rfl) :
    PS X (.Assign [.Name y py] (.DictComp kx vx [⟨tg, it, ifs, 0⟩, ⟨tg1, it1, ifs1, 0⟩] scope pos) sp) (tAsg (tDc2T wi g tt wi1 g1 tt1 tk tv (own.map (·.2)) vs1) (gName i)) := by
  constructor
  intro pins s σ H D I h
  rw [exec_Assign_Name_used _ _ _ _ hsw]
  refine wpAny_bind (wpAny_standAt (wpAny_bind ?_))
  show wpAny _ X.A (do let _ ← comprehension (.DictComp kx vx [⟨tg, it, ifs, 0⟩, ⟨tg1, it1, ifs1, 0⟩] scope pos) scope X.env (firstIterPos [⟨tg, it, ifs, 0⟩, ⟨tg1, it1, ifs1, 0⟩] pos) newDict false (eval it X.env) (some (assign (.Name y py) X.env))) _ _ s
  have h' : tDc2T wi g tt wi1 g1 tt1 tk tv (own.map (·.2)) vs1 σ H (fun x H1 => gName i x σ H1 D.nx) := h
  refine wpAny_bind (thn (dc2T_core (Qf := fun _ s' => SP X pins D .next s') hu hc hN I hi ok hg ht hk hv hi1 hg1 ht1 hv1 hs1 hs h' ?_) fun _ s' hq => wpAny_pure (wpAny_pure hq))
  intro L C s' m H' I' q hn f
  show wpAny _ _ (assign (.Name y py) X.env (.ref L)) _ _ _
  refine wpAny_assign_Name (store_ok2 (v := V.ref L) I' hN hy (.inl hyl) rfl ?_ (.inr hyl))
  rintro s2 I2 ⟨a, sb, ha⟩
  obtain ⟨f0, f1, f2, f3, f4, f5⟩ := f
  have ne : C ≠ a := by
    rcases ha with z | z
    · rw [z]; exact f1
    · exact fun e => f4 y a z e.symm
  exact ⟨m, hn.sameBut sb ne, fun h3 sb3 => ⟨_, H', I2.turned (t' := s2.toks) (fun b o hb e => (sb3.2 b hb).trans e) f0 f1 f3 f4 f5, q⟩⟩
end
theorem k_rng2 {ta : TA} {σ : L2.St} {H : Hp} {R : It → Hp → Prop} (h : ta σ H fun vs H1 => ∃ i j : Int, vs = [.int i, .int j] ∧ (-(2 ^ 62) ≤ i ∧ i < 2 ^ 62 ∧ -(2 ^ 62) ≤ j ∧ j < 2 ^ 62) ∧ R (Itr i (j - i).toNat) H1) : iRng2 ta σ H R := h
theorem k_dc2T {wi : TI} {g : TG} {tt : TT} {wi1 : TI} {g1 : TG} {tt1 : TT} {tk tv : TE} {vs vs1 : List Nat} {σ : L2.St} {H : Hp} {Q : VK} (h : wi σ H fun J H1 => ∀ D, H1 D = none → ∃ W : Nat → Nat → Hp → Prop, (∃ m, W 0 m (upd H1 D (.dT []))) ∧ ∀ i m H, W i m H →
  (J.stop i H ∧ Q (.ref D) H) ∨ (J.go i H ∧ ∃ Nx : Hp → Prop, (∀ H', Nx H' → ∃ m', m' < m ∧ W (i + 1) m' H') ∧ ∀ x H', J.yld i H x H' → g x (wipe σ vs) H' fun σ2 H2 => wipe σ2 vs = wipe σ vs ∧ tt σ2 H2 fun b H3 =>
    if b = true then wi1 σ2 H3 fun J1 H4 => ∃ W1 : Nat → Nat → Hp → Prop, (∃ m, W1 0 m H4) ∧ ∀ j k H, W1 j k H →
      (J1.stop j H ∧ Nx H) ∨ (J1.go j H ∧ ∃ Nx1 : Hp → Prop, (∀ H', Nx1 H' → ∃ k', k' < k ∧ W1 (j + 1) k' H') ∧ ∀ x H', J1.yld j H x H' → g1 x (wipe σ2 vs1) H' fun σ3 H5 => wipe σ3 vs1 = wipe σ2 vs1 ∧ tt1 σ3 H5 fun b H6 =>
        if b = true then tk σ3 H6 fun y H7 => tv σ3 H7 fun z H8 => ∃ kvs k b, y = .ref b ∧ H8 b = some (.tup (k.map kV)) ∧ H8 D = some (.dT kvs) ∧ kvs.length < sizeLine ∧ Nx1 (upd H8 D (.dT (putK kvs k z))) else Nx1 H6)
    else Nx H3)) : tDc2T wi g tt wi1 g1 tt1 tk tv vs vs1 σ H Q := h
/-! ### {(a, b): v}: one pair, its key a tuple -/
def tDispT (te tf : TE) : TE := fun σ H Q => ∀ p, H p = none → te σ (upd H p (.dT [])) fun y H1 => tf σ H1 fun z H2 => ∃ (k : List Key) (b : Addr), y = .ref b ∧ H2 b = some (.tup (k.map kV)) ∧ H2 p = some (.dT []) ∧ Q (.ref p) (upd H2 p (.dT [(k, z)]))
theorem k_dispT {te tf : TE} {σ : L2.St} {H : Hp} {Q : VK} (h : ∀ p, H p = none → te σ (upd H p (.dT [])) fun y H1 => tf σ H1 fun z H2 => ∃ (k : List Key) (b : Addr), y = .ref b ∧ H2 b = some (.tup (k.map kV)) ∧ H2 p = some (.dT []) ∧ Q (.ref p) (upd H2 p (.dT [(k, z)]))) : tDispT te tf σ H Q := h
open PySem.Spec PyProof.Rows in
theorem pe_dispT {X : L2.Cx} {pos : Pos} {e f : Expr} {te tf : TE} (hu : X.A.units + 1 < cLine) (he : PE X e te) (hf : PE X f tf) : PE X (.Dict [some e] [f] pos) (tDispT te tf) := by
  constructor
  intro pins s σ H Q I q
  have hn := I.hok.fresh (Nat.le_refl s.heap.objs.size)
  have I1 := I.laid (a := s.heap.objs.size) (o := .dT []) (h' := s.heap.push { cls := .type "dict", data := .dict #[] }) (t' := s.toks) (fun _ _ z => Heap.get?_push_of_some _ z) (Nat.le_refl _) (dt_empty s.heap I.big)
  refine wpAny_Dict_any rfl rfl (by simp) (by show 1 ≤ 15; decide) ?_
  have pp : PPs X pos [some e] [f] [(te, tf)] := pps_cons he hf pps_nil
  refine thn (pp.run pins _ σ _ (fun ps H2 => ∃ (y z : V) (k : List Key) (b : Addr), ps = [(y, z)] ∧ y = .ref b ∧ H2 b = some (.tup (k.map kV)) ∧ H2 s.heap.objs.size = some (.dT []) ∧ Q (.ref s.heap.objs.size) (upd H2 s.heap.objs.size (.dT [(k, z)]))) I1 ?_) ?_
  · have h1 := q _ hn
    show te σ (upd H s.heap.objs.size (.dT [])) fun y H1 => tf σ H1 fun z H2 => _
    have mono : ∀ (y : V) (H1 : Hp), (fun z H2 => ∃ (k : List Key) (b : Addr), y = .ref b ∧ H2 b = some (.tup (k.map kV)) ∧ H2 s.heap.objs.size = some (.dT []) ∧ Q (.ref s.heap.objs.size) (upd H2 s.heap.objs.size (.dT [(k, z)]))) =
        (fun (z : V) (H2 : Hp) => ∃ (y' z' : V) (k : List Key) (b : Addr), [(y, z)] = [(y', z')] ∧ y' = .ref b ∧ H2 b = some (.tup (k.map kV)) ∧ H2 s.heap.objs.size = some (.dT []) ∧ Q (.ref s.heap.objs.size) (upd H2 s.heap.objs.size (.dT [(k, z')]))) := fun y H1 => by
      funext z H2
      refine propext ⟨fun ⟨k, b, r⟩ => ⟨y, z, k, b, rfl, r⟩, ?_⟩
      rintro ⟨y', z', k, b, e1, r⟩
      cases e1
      exact ⟨k, b, r⟩
    have := h1
    simp only [mono _ H] at this
    exact this
  · rintro vs s2 ⟨ps, H2, I2, rel, y, z, k, b, rfl, rfl, eb, ep, q2⟩
    cases rel with
    | @cons p0 w0 ps0 ws0 hd tl =>
      cases tl
      obtain ⟨v1, v2⟩ := w0
      obtain ⟨h1, h2⟩ := hd
      have h1 : v1 = Value.ref b := h1
      subst h1
      show wpAny _ _ (forIn [((Value.ref b, v2) : Value × Value)] PUnit.unit _) _ _ s2
      rw [List.forIn_cons]
      refine wpAny_bind (wpAny_bind ?_)
      refine dictSetT hu I2 ep eb (by show 0 < sizeLine; decide) h2 ?_
      intro s3 I3
      refine wpAny_pure ?_
      show wpAny _ _ (forIn ([] : List (Value × Value)) PUnit.unit _) _ _ s3
      rw [List.forIn_nil]
      exact wpAny_pure ⟨.ref _, _, I3, rfl, q2⟩
/-! ### one loop of a comprehension, by what its body wants -/
theorem it_gen {J : It} {n : Nat} {G : Hp → Prop} {Y : Nat → Hp → V → Hp → Prop} (w : Walk J n G Y) {B : (Hp → Prop) → V → Hp → Prop} {F : Hp → Prop} {H0 : Hp} (Pv : Nat → Hp → Prop) (h0 : Pv 0 H0) (hG : ∀ i H, i ≤ n → Pv i H → G H)
    (hs : ∀ i x H H', i < n → Pv i H → Y i H x H' → B (Pv (i + 1)) x H') (hd : ∀ H, Pv n H → F H) :
    ∃ W : Nat → Nat → Hp → Prop, (∃ m, W 0 m H0) ∧ ∀ i m H, W i m H → (J.stop i H ∧ F H) ∨ (J.go i H ∧ ∃ Nx : Hp → Prop, (∀ H', Nx H' → ∃ m', m' < m ∧ W (i + 1) m' H') ∧ ∀ x H', J.yld i H x H' → B Nx x H') := by
  refine ⟨fun i m H => m + i = n ∧ Pv i H, ⟨n, by omega, h0⟩, ?_⟩
  rintro i m H ⟨em, hP⟩
  have q := hG i H (by omega) hP
  by_cases c : i < n
  · exact .inr ⟨w.goes i H c q, Pv (i + 1), fun H' z => ⟨m - 1, by omega, by omega, z⟩, fun x H' y => hs i x H H' c hP (w.yields i H x H' c q y)⟩
  · have e : i = n := by omega
    subst e
    exact .inl ⟨w.stops H q, hd H hP⟩
/-! ### a search, layer by layer: the shortest word that leads out -/
abbrev Pl := Int × Int
abbrev Mv := Pl → List (Nat × Option Pl)
def evs (mv : Mv) (layer : List (Pl × Wd)) : List (Wd × Option Pl) := layer.flatMap fun pw => (mv pw.1).map fun ce => (pw.2 ++ [ce.1], ce.2)
def proc : List (Wd × Option Pl) → List Pl → List (Pl × Wd) → Sum Wd (List Pl × List (Pl × Wd))
  | [], s, l => .inr (s, l)
  | (w, none) :: _, _, _ => .inl w
  | (w, some e) :: r, s, l => if e ∈ s then proc r s l else proc r (s ++ [e]) (l ++ [(e, w)])
inductive Bfs (mv : Mv) : List Pl → List (Pl × Wd) → Option Wd → Prop
  | done {s : List Pl} : Bfs mv s [] none
  | found {s : List Pl} {l : List (Pl × Wd)} {w : Wd} (ne : l ≠ []) (h : proc (evs mv l) s [] = .inl w) : Bfs mv s l (some w)
  | next {s s' : List Pl} {l l' : List (Pl × Wd)} {r : Option Wd} (ne : l ≠ []) (h : proc (evs mv l) s [] = .inr (s', l')) (n : Bfs mv s' l' r) : Bfs mv s l r
theorem Bfs.uniq {mv : Mv} {s : List Pl} {l : List (Pl × Wd)} {r r' : Option Wd} (a : Bfs mv s l r) (b : Bfs mv s l r') : r = r' := by
  induction a generalizing r' with
  | done =>
    cases b with
    | done => rfl
    | found ne _ => exact absurd rfl ne
    | next ne _ _ => exact absurd rfl ne
  | found ne h =>
    cases b with
    | done => exact absurd rfl ne
    | found _ h' => rw [h] at h'; cases h'; rfl
    | next _ h' _ => rw [h] at h'; cases h'
  | next ne h _ ih =>
    cases b with
    | done => exact absurd rfl ne
    | found _ h' => rw [h] at h'; cases h'
    | next _ h' n => rw [h] at h'; cases h'; exact ih n
theorem proc_app : ∀ (a b : List (Wd × Option Pl)) (s : List Pl) (l : List (Pl × Wd)), proc (a ++ b) s l = match proc a s l with
    | .inl w => .inl w
    | .inr (s', l') => proc b s' l'
  | [], b, s, l => rfl
  | (w, none) :: r, b, s, l => rfl
  | (w, some e) :: r, b, s, l => by
    show (if e ∈ s then proc (r ++ b) s l else proc (r ++ b) (s ++ [e]) (l ++ [(e, w)])) = _
    by_cases c : e ∈ s
    · rw [if_pos c, proc_app r b s l]
      show _ = match (if e ∈ s then proc r s l else proc r (s ++ [e]) (l ++ [(e, w)])) with | .inl w => _ | .inr (s', l') => _
      rw [if_pos c]
    · rw [if_neg c, proc_app r b]
      show _ = match (if e ∈ s then proc r s l else proc r (s ++ [e]) (l ++ [(e, w)])) with | .inl w => _ | .inr (s', l') => _
      rw [if_neg c]
/-- what a search keeps: the places seen are unlike ones of P, the layer's places are seen, words are short -/
structure Lay (P : List Pl) (s : List Pl) (l : List (Pl × Wd)) (n : Nat) : Prop where
  nd : s.Nodup
  sub : ∀ p ∈ s, p ∈ P
  lay : ∀ pw ∈ l, pw.1 ∈ P ∧ pw.2.length = n
def ClosedM (mv : Mv) (P : List Pl) : Prop := ∀ p ∈ P, ∀ c q, (c, some q) ∈ mv p → q ∈ P
theorem proc_lay {P : List Pl} {n : Nat} : ∀ {ev : List (Wd × Option Pl)} {s s' : List Pl} {l l' : List (Pl × Wd)}, (∀ w q, (w, some q) ∈ ev → q ∈ P ∧ w.length = n) → Lay P s l n → proc ev s l = .inr (s', l') →
    Lay P s' l' n ∧ s'.length + l.length = s.length + l'.length
  | [], s, s', l, l', _, L, e => by cases e; exact ⟨L, rfl⟩
  | (w, none) :: r, s, s', l, l', _, _, e => by cases e
  | (w, some q) :: r, s, s', l, l', hv, L, e => by
    have e' : (if q ∈ s then proc r s l else proc r (s ++ [q]) (l ++ [(q, w)])) = .inr (s', l') := e
    by_cases c : q ∈ s
    · rw [if_pos c] at e'
      exact proc_lay (fun w q h => hv w q (List.mem_cons_of_mem _ h)) L e'
    · rw [if_neg c] at e'
      have hq := hv w q List.mem_cons_self
      have L2 : Lay P (s ++ [q]) (l ++ [(q, w)]) n := ⟨List.nodup_append.mpr ⟨L.nd, by simp, fun a ha b hb z => c (by rw [← List.mem_singleton.mp hb, ← z]; exact ha)⟩, fun p hp => by
        rcases List.mem_append.mp hp with hp | hp
        · exact L.sub p hp
        · rw [List.mem_singleton.mp hp]; exact hq.1, fun pw hp => by
        rcases List.mem_append.mp hp with hp | hp
        · exact L.lay pw hp
        · rw [List.mem_singleton.mp hp]; exact hq⟩
      obtain ⟨a, b⟩ := proc_lay (fun w q h => hv w q (List.mem_cons_of_mem _ h)) L2 e'
      refine ⟨a, ?_⟩
      rw [List.length_append, List.length_append, List.length_singleton, List.length_singleton] at b
      omega
theorem evs_in {mv : Mv} {P : List Pl} (c : ClosedM mv P) {s : List Pl} {l : List (Pl × Wd)} {n : Nat} (L : Lay P s l n) : ∀ w q, (w, some q) ∈ evs mv l → q ∈ P ∧ w.length = n + 1 := fun w q h => by
  obtain ⟨pw, hp, h2⟩ := List.mem_flatMap.mp h
  obtain ⟨ce, hc, e⟩ := List.mem_map.mp h2
  obtain ⟨c1, c2⟩ := ce
  cases e
  have := L.lay pw hp
  exact ⟨c _ this.1 _ _ hc, by rw [List.length_append, this.2]; rfl⟩
/-- dicts of places: those of a list, each True -/
def pk (p : Pl) : List Key := [.inl p.1, .inl p.2]
theorem pk_inj {p q : Pl} (h : pk p = pk q) : p = q := by
  unfold pk at h
  injection h with h1 h2
  injection h2 with h2 h3
  injection h1 with h1
  injection h2 with h2
  exact Prod.ext h1 h2
def skv (s : List Pl) : List (List Key × V) := s.map fun p => (pk p, .bl true)
theorem valV_skv (p : Pl) : ∀ s : List Pl, valV (skv s) (pk p) = if p ∈ s then some (.bl true) else none
  | [] => rfl
  | q :: s => by
    show valV ((pk q, V.bl true) :: skv s) (pk p) = _
    by_cases c : q = p
    · rw [valV_pos (by rw [c])]
      rw [if_pos (by rw [c]; exact List.mem_cons_self)]
    · rw [valV_neg (fun z => c (pk_inj z)), valV_skv p s]
      by_cases d : p ∈ s
      · rw [if_pos d, if_pos (List.mem_cons_of_mem _ d)]
      · rw [if_neg d, if_neg (fun z => by rcases List.mem_cons.mp z with z | z; exact c z.symm; exact d z)]
theorem putK_skv {s : List Pl} {p : Pl} (h : p ∉ s) : putK (skv s) (pk p) (.bl true) = skv (s ++ [p]) := by
  rw [putK_new _ (by rw [valV_skv, if_neg h])]
  unfold skv
  rw [List.map_append]
  rfl
/-! ### for k, v in d.get(..).items(): the dict is locked when it is there, and opened behind the loop -/
def tLk (N : Addr → Prop) (te : TE) : TE := fun σ H Q => te σ H fun x H1 => ∃ (d : Addr) (kvs : List (Key × V)), x = .ref d ∧ H1 d = some (.dK kvs) ∧ ∀ od, N d → Q x (upd H1 d (.frz od (.dK kvs)))
def openD (N : Addr → Prop) (D : Ends) : Ends :=
  ⟨fun σ' H' => ∃ d od u, N d ∧ H' d = some (.frz od u) ∧ D.nx σ' (upd H' d u), fun v H' => ∃ d od u, N d ∧ H' d = some (.frz od u) ∧ D.rt v (upd H' d u), fun σ' H' => ∃ d od u, N d ∧ H' d = some (.frz od u) ∧ D.bk σ' (upd H' d u), fun σ' H' => ∃ d od u, N d ∧ H' d = some (.frz od u) ∧ D.ct σ' (upd H' d u)⟩
def tOpen (N : Addr → Prop) (t : TS) : TS := fun D σ H => t (openD N D) σ H
def NoFz (H0 : Hp) : Addr → Prop := fun d => ∀ o' u', H0 d ≠ some (.frz o' u')
section
variable {X : L2.Cx}
theorem pe_lk {e : Expr} {te : TE} (h : PE X e te) : PE X e (tLk (NoFz X.H_0) te) := by
  constructor
  intro pins s σ H Q I q
  refine thn (h.run pins s σ H _ I q) ?_
  rintro v s1 ⟨x, H1, I1, r, d, kvs, rfl, hd, k⟩
  obtain ⟨od, I2⟩ := I1.lock hd trivial
  exact ⟨_, _, I2, r, k od (I1.nofrz hd trivial)⟩
theorem ps_open {st : Stmt} {t : TS} (h : PS X st t) : PS X st (tOpen (NoFz X.H_0) t) := by
  constructor
  intro pins s σ H D I q
  refine thn (h.run pins s σ H _ I q) ?_
  intro f s1 z
  cases f with
  | next => obtain ⟨σ', H', I2, d, od, u, n, e, z⟩ := z; exact ⟨σ', _, Inv.unlock I2 e n, z⟩
  | brk => obtain ⟨σ', H', I2, d, od, u, n, e, z⟩ := z; exact ⟨σ', _, Inv.unlock I2 e n, z⟩
  | cont => obtain ⟨σ', H', I2, d, od, u, n, e, z⟩ := z; exact ⟨σ', _, Inv.unlock I2 e n, z⟩
  | ret v => obtain ⟨x, σ', H', I2, r, d, od, u, n, e, z⟩ := z; exact ⟨x, σ', _, Inv.unlock I2 e n, r, z⟩
end
theorem k_open {N : Addr → Prop} {t : TS} {D : Ends} {σ : L2.St} {H : Hp} (h : t (openD N D) σ H) : tOpen N t D σ H := h
theorem k_items {te : TE} {σ : L2.St} {H : Hp} {R : It → Hp → Prop} (h : te σ H fun x H1 => ∃ d o kvs, x = .ref d ∧ H1 d = some (.frz o (.dK kvs)) ∧ R (Iti d o kvs) H1) : iItems te σ H R := h
theorem k_lk {N : Addr → Prop} {te : TE} {σ : L2.St} {H : Hp} {Q : VK} (h : te σ H fun x H1 => ∃ (d : Addr) (kvs : List (Key × V)), x = .ref d ∧ H1 d = some (.dK kvs) ∧ ∀ od, N d → Q x (upd H1 d (.frz od (.dK kvs)))) : tLk N te σ H Q := h
theorem k_dget2 {td ty tx : TE} {σ : L2.St} {H : Hp} {Q : VK} (h : td σ H fun x H1 => ∃ a, x = .ref a ∧ IsD H1 a ∧ ty σ H1 fun y H2 => tx σ H2 fun z H3 => ∃ o, DGet H3 a y o ∧ Q (o.getD z) H3) : tDGet2 td ty tx σ H Q := h
/-! ### sum(d.values()) -/
def tSumVals (te : TE) : TE := fun σ H Q => te σ H fun x H1 => ∃ (d : Addr) (kvs : List (Key × V)) (is : List Int), x = .ref d ∧ H1 d = some (.dK kvs) ∧ kvs.map (·.2) = is.map V.int ∧ Q (.int is.sum) H1
theorem k_sumV {te : TE} {σ : L2.St} {H : Hp} {Q : VK} (h : te σ H fun x H1 => ∃ (d : Addr) (kvs : List (Key × V)) (is : List Int), x = .ref d ∧ H1 d = some (.dK kvs) ∧ kvs.map (·.2) = is.map V.int ∧ Q (.int is.sum) H1) : tSumVals te σ H Q := h
theorem preSum_list (is : List Int) : ∀ j, PySem.preSum (fun i => is.getD i 0) j = (is.take j).sum
  | 0 => by simp [PySem.preSum]
  | j + 1 => by
    show PySem.preSum _ j + is.getD j 0 = _
    rw [preSum_list is j, List.take_add_one, List.sum_append, List.getD_eq_getElem?_getD]
    cases is[j]? with
    | none => simp
    | some x => simp
open PySem.Spec PyProof.Rows in
theorem pe_sumVals {X : L2.Cx} {e : Expr} {te : TE} {p apos mpos pos : Pos} (hc : X.calm = true) (he : PE X e te) (hg : Gl X "sum") (hm : X.mg "sum" = none) (hb : attributeBase e "values" X.env (eval e X.env) = eval e X.env := by rfl) (hl : (apos.endLine == mpos.line) = true := by rfl)
    (hs : starEach [Expr.Call (.Attribute e "values" apos) [] [] mpos] X.env = [(false, eval (Expr.Call (.Attribute e "values" apos) [] [] mpos) X.env)] := by rfl) : PE X (.Call (.Name "sum" p) [.Call (.Attribute e "values" apos) [] [] mpos] [] pos) (tSumVals te) := by
  constructor
  intro pins s σ H Q I hq
  refine wpAny_Call_Name_kw (ld_blt I hg hm (u := .builtin "sum") (by decide +kernel) ?_ (by decide +kernel) (by decide +kernel))
  rw [hs]
  refine PySem.callWith_builtin1 (wpAny_Call_method0_late hb hl (thn (he.run pins s σ H _ I hq) ?_))
  rintro v s1 ⟨x, H1, I1, r1, d, kvs, is, rfl, hd, hv, q⟩
  obtain rfl : v = Value.ref d := r1
  obtain ⟨_, lo, vs, kv, hdo⟩ := dk_of I1.hok hd
  obtain ⟨ep, hat⟩ := hdo.dictAt
  obtain ⟨ob, es, ho, ex, _⟩ := id hat
  refine ⟨"dict", "dict.values", F.plainAttrs_dict, F.slot_dict_values, F.type_dict_values, ⟨ob, ho, ex.1⟩, (fun b e => by cases e; exact ⟨ob, ho, ex.2.1⟩), Calls.callWith_builtin rfl (PySem.evalArgs_none ?_)⟩
  refine call_meetsIn F.slot_dict_values ⟨ob, ho, ex.1⟩ F.entry_dict_values (F.args_dict_values_1 _) (meets_dict_values (mixKind X.prog X.w) d lo) ⟨⟨vs, hdo⟩, ?_⟩
  have lk : vs.length = is.length := by
    have a := congrArg List.length hv
    rw [List.length_map, List.length_map] at a
    exact (KV.length kv).symm.trans a
  have I2 : Inv X pins σ H1 { s1 with heap := s1.heap.push { cls := .type "dict_values", data := .fields #[.ref d] } } := I1.kept (t' := s1.toks) fun b o z => Heap.get?_push_of_some _ z
  have src : PySem.W.KdlSrc X.prog X.w "dict_values" s1.heap.objs.size d vs.length (fun i v => ∃ k, vs[i]? = some (k, v)) (fun h => h.IsValuesView s1.heap.objs.size d ∧ h.DictAt (mixKind X.prog X.w) d vs ep) := PySem.W.kdl_values
  refine PySem.call_sum_walkAnyS ?_
  have ok1 : (s1.heap.push { cls := .type "dict_values", data := .fields #[.ref d] }).IsValuesView s1.heap.objs.size d ∧ (s1.heap.push { cls := .type "dict_values", data := .fields #[.ref d] }).DictAt (mixKind X.prog X.w) d vs ep := ⟨⟨_, Heap.get?_push_size _ rfl, rfl, rfl⟩, hat.push _⟩
  obtain ⟨o1, St1, hi1, w1, st1⟩ := src.iter X.A.in1 { s1 with heap := s1.heap.push { cls := .type "dict_values", data := .fields #[.ref d] } } (I1.ok.hd hc) ok1
  have th := src.there _ ok1
  refine hi1 _ _ ⟨_, _, _, _, vs.length, _, _, fun i => is.getD i 0, rfl, w1.toS, by exact st1, ?_, ?_, ?_⟩
  · intro b hb
    show b < ((Heap.push _ o1).objs.size)
    rw [Heap.size_push]
    rcases List.mem_cons.mp hb with z | z
    · rw [z]; exact Nat.lt_succ_self _
    · rw [List.mem_singleton.mp z]; exact Nat.lt_succ_of_lt th.2
  · rintro i v ⟨k, hk⟩
    obtain ⟨y, h1, h2⟩ := KV.at' kv hk
    have a : (kvs.map (·.2))[i]? = some y := by rw [List.getElem?_map, h1]; rfl
    rw [hv, List.getElem?_map] at a
    obtain ⟨j, hj, rfl⟩ := Option.map_eq_some_iff.mp a
    obtain ⟨t, e3⟩ := h2
    refine ⟨t, ?_⟩
    show v = Value.int (is.getD i 0) t
    rw [e3, List.getD_eq_getElem?_getD, hj]
    rfl
  · intro s' t' hm
    rw [Moved.eq_with hm, preSum_list, lk, List.take_length]
    refine ⟨.int _, H1, ?_, ⟨t', rfl⟩, q⟩
    refine I2.kept fun b o z => hm.heap b o (fun c => ?_) (Heap.get?_push_of_some _ z)
    exact absurd (Heap.lt_size z) (by rw [List.mem_singleton.mp c]; exact Nat.lt_irrefl _)
/-! ### where a row leads -/
def mkey (b c : Nat) : List Key := [.inl (b : Int), .inr ⟨#[c]⟩]
theorem mkey_inj {b c b' c' : Nat} : mkey b c = mkey b' c' ↔ b = b' ∧ c = c' := by
  constructor
  · intro h
    unfold mkey at h
    injection h with h1 h2
    injection h2 with h2 _
    injection h1 with h1
    injection h2 with h2
    injection h2 with h2
    exact ⟨by omega, by simpa using h2⟩
  · rintro ⟨rfl, rfl⟩
    rfl
def MvOk (K : PySem.W.Frag) (H : Hp) (kvs : List (List Key × V)) (ss : List Stp) : Prop := ∀ b c : Nat, ((∀ s ∈ ss, ¬ (s.b = b ∧ s.c = c)) → valV kvs (mkey b c) = none) ∧
  ∀ s ∈ ss, s.b = b → s.c = c → ∃ p, valV kvs (mkey b c) = some (.ref p) ∧ SqT K H p [.int (s.e : Nat), .int s.g]
theorem MvOk.tups {K : PySem.W.Frag} {H H' : Hp} {kvs : List (List Key × V)} {ss : List Stp} (h : MvOk K H kvs ss) (t : Tups H H') : MvOk K H' kvs ss := fun b c => ⟨(h b c).1, fun s hs e1 e2 => let ⟨p, q, z⟩ := (h b c).2 s hs e1 e2; ⟨p, q, t.sq z⟩⟩
theorem MvOk.snoc {K : PySem.W.Frag} {H : Hp} {kvs : List (List Key × V)} {ss : List Stp} {s : Stp} {p : Addr} (h : MvOk K H kvs ss) (hp : SqT K H p [.int (s.e : Nat), .int s.g]) (new : ∀ t ∈ ss, ¬ (t.b = s.b ∧ t.c = s.c)) : MvOk K H (putK kvs (mkey s.b s.c) (.ref p)) (ss ++ [s]) := by
  intro b c
  rw [valV_put]
  by_cases e : mkey b c = mkey s.b s.c
  · rw [if_pos e]
    obtain ⟨rfl, rfl⟩ := mkey_inj.mp e
    refine ⟨fun q => absurd ⟨rfl, rfl⟩ (q s (by simp)), fun t ht e1 e2 => ?_⟩
    rcases List.mem_append.mp ht with ht | ht
    · exact absurd ⟨e1, e2⟩ (new t ht)
    · rw [List.mem_singleton.mp ht]
      exact ⟨p, rfl, hp⟩
  · rw [if_neg e]
    refine ⟨fun q => (h b c).1 fun t ht => q t (List.mem_append_left _ ht), fun t ht e1 e2 => ?_⟩
    rcases List.mem_append.mp ht with ht | ht
    · exact (h b c).2 t ht e1 e2
    · rw [List.mem_singleton.mp ht] at e1 e2
      exact absurd (mkey_inj.mpr ⟨e1.symm, e2.symm⟩) e
/-- what is known of a value that is no text -/
def NotStr (K : PySem.W.Frag) (H : Hp) (v : V) : Prop := ∃ t, TyX K H v t ∧ PySem.W.kitOne K t (.type "str") = some false
def sp_moves (K : PySem.W.Frag) (C : Addr) : Sp := fun vs H Q _ => ∃ (x : Addr) (m : MD), vs = [.ref x] ∧ MAt K C H x m ∧ m.Ok ∧
  ∀ p kvs H', Same H H' → H p = none → H' p = some (.dT kvs) → MvOk K H' kvs m.ss → Q (.ref p) H'
section
variable {P : Program} {w : World} {K : PySem.W.Frag} {mg : Str → Option Value} {base : Heap}
theorem ok_moves_of (T : Txt K mg) : FnOk P w K mg base (L2.CX P w) 3 T.a_moves_of T.fd_moves_of ["machine"] (sp_moves K T.c_Machine) := by
  refine T.F_moves_of.okX sc_moves_of (fun vs H Q E h => ?_) (fun cdv A outer s H vs Q E hr h => ?_)
  · obtain ⟨x, m, rfl, _⟩ := h
    rfl
  · obtain ⟨x, m, rfl, ⟨dx, t, u, hx, ⟨us, ht, hs⟩, hu⟩, o, k⟩ := h
    refine ⟨_, (PSs.nox (pss_one (ps_ret (pe_dcT (own := [("begun", 1), ("letter", 2), ("end", 3), ("gain", 4)]) (g := (gTup K 4 (gCons (gName 1) (gCons (gName 2) (gCons (gName 3) (gCons (gName 4) gNil)))))) (tt := tYes) (hu_of hr) rfl sc_moves_of.nd (pi_tup (pe_prop (pv 0) T.cl_Machine T.p_steps (ok_Machine_steps T) (hr.mono (by decide)) T.b_Machine_steps .nil passL rfl)) (blkOk_by (own := [("begun", 1), ("letter", 2), ("end", 3), ("gain", 4)]) (N := ["machine", "begun", "letter", "end", "gain"]) (sc := defScope s_moves_of) (by decide +kernel)) (fun _ _ _ _ _ => (pg_tup rfl (pgs_cons (pg_name (i := 1) sc_moves_of.nd rfl (Or.inl rfl)) (pgs_cons (pg_name (i := 2) sc_moves_of.nd rfl (Or.inl rfl)) (pgs_cons (pg_name (i := 3) sc_moves_of.nd rfl (Or.inl rfl)) (pgs_cons (pg_name (i := 4) sc_moves_of.nd rfl (Or.inl rfl)) pgs_nil)))))) (fun _ _ _ _ _ => pts_nil) (fun _ _ _ _ _ => (pe_tup (pa_cons (pv 1) (pa_cons (pv 2) pa_nil)))) (fun _ _ _ _ _ => (pe_tup (pa_cons (pv 3) (pa_cons (pv 4) pa_nil)))))))), ?_⟩
    walk_at "begin"
    refine k_ret ?_
    refine k_dcT ?_
    walk_at "go"
    refine ⟨x, dx, _, rfl, hx, x, dx, _, .ref t, rfl, hx, rfl, t, rfl, ⟨us, ht⟩, fun D hD => ?_⟩
    refine dcT_tup (xs := us) (fun i H' => Same H H' ∧ ∃ kvs, H' D = some (.dT kvs) ∧ MvOk K H' kvs (m.ss.take i) ∧ kvs.length ≤ i) ⟨Same.new hD, [], upd_same, fun b c => ⟨fun _ => rfl, fun s hs => by simp at hs⟩, Nat.le_refl _⟩
      (fun i H' _ ⟨z, _⟩ => (same_tups z).sq ht) ?_ ?_
    · rintro i y H1 hy ⟨z1, kvs, eD, mv, len⟩
      have il : i < m.ss.length := by rw [← hs.1]; exact (List.getElem?_eq_some_iff.mp hy).1
      have ei : m.ss[i]? = some (m.ss[i]'il) := List.getElem?_eq_getElem il
      obtain ⟨q, eq, hq⟩ := hs.2 i _ ei
      rw [hy] at eq
      cases eq
      have new : ∀ s ∈ m.ss.take i, ¬ (s.b = (m.ss[i]'il).b ∧ s.c = (m.ss[i]'il).c) := fun s h e => by
        obtain ⟨j, hj, ej⟩ := List.getElem_of_mem h
        rw [List.length_take] at hj
        rw [List.getElem_take] at ej
        have := List.pairwise_iff_getElem.mp o.up j i (by omega) il (by omega)
        rw [ej] at this
        rcases this with q | q <;> omega
      have tk : m.ss.take (i + 1) = m.ss.take i ++ [m.ss[i]'il] := by rw [List.take_add_one, ei]; rfl
      have l32 := o.len
      rw [tk]
      generalize m.ss[i]'il = s0 at hq new
      refine k_gt ((same_tups z1).sq hq) rfl ?_
      unfold stpV
      walk_at "go"
      refine ⟨rfl, ?_⟩
      walk_at "go"
      refine iteT ?_
      walk_at "go"
      refine ⟨(by decide : 2 ≤ sizeLine), fun pk hpk => ?_⟩
      walk_at "go"
      refine ⟨(by decide : 2 ≤ sizeLine), fun pv hpv => ?_⟩
      have zk := z1.trans (Same.new (o := .tup [.int (s0.b : Nat), .str ⟨#[s0.c]⟩]) hpk)
      have zv := zk.trans (Same.new (o := .tup [.int (s0.e : Nat), .int s0.g]) hpv)
      have npk : D ≠ pk := ne_of_none eD hpk
      have eDk : (upd H1 pk (.tup [.int (s0.b : Nat), .str ⟨#[s0.c]⟩])) D = some (.dT kvs) := by rw [upd_ne npk]; exact eD
      have npv : D ≠ pv := ne_of_none eDk hpv
      have eDv : (upd (upd H1 pk (.tup [.int (s0.b : Nat), .str ⟨#[s0.c]⟩])) pv (.tup [.int (s0.e : Nat), .int s0.g])) D = some (.dT kvs) := by rw [upd_ne npv]; exact eDk
      refine ⟨kvs, mkey s0.b s0.c, pk, rfl, Same.new hpv _ _ upd_same, eDv, Nat.lt_of_le_of_lt len (Nat.lt_trans (show i < 100 by omega) (by decide)), Same.mut zv hD, _, upd_same, ?_, ?_⟩
      · exact ((mv.tups ((Tups.new hpk).trans (Tups.new hpv))).snoc (SqT.of upd_same) new).tups (Tups.dT eDv)
      · have := length_putK kvs (mkey s0.b s0.c) (V.ref pv)
        omega
    · rintro H1 ⟨z1, kvs, eD, mv, len⟩
      rw [hs.1, List.take_length] at mv
      exact k D kvs H1 z1 hD eD mv
end
/-! ### first_row_out -/
def PlAt (H : Hp) (t : Addr) (p : Pl) : Prop := H t = some (.tup ((pk p).map kV))
def EndAt (H : Hp) (v : V) : Option Pl → Prop
  | none => v = .non
  | some q => ∃ t, v = .ref t ∧ PlAt H t q
def LayAt (H : Hp) (us : List V) (l : List (Pl × Wd)) : Prop := us.length = l.length ∧ ∀ (i : Nat) (pw : Pl × Wd), l[i]? = some pw → ∃ x t, us[i]? = some (V.ref x) ∧ H x = some (.tup [.ref t, .str (sOf pw.2)]) ∧ PlAt H t pw.1
def EvAt (H : Hp) (us : List V) (l : List (Nat × Option Pl)) : Prop := us.length = l.length ∧ ∀ (i : Nat) (ce : Nat × Option Pl), l[i]? = some ce → ∃ x v, us[i]? = some (V.ref x) ∧ H x = some (.tup [.str ⟨#[ce.1]⟩, v]) ∧ EndAt H v ce.2
def MvAt (H : Hp) (D : Addr) (mv : Mv) (P : List Pl) : Prop := ∃ kvs, H D = some (.dT kvs) ∧ ∀ p ∈ P, ∃ q us, valV kvs (pk p) = some (.ref q) ∧ H q = some (.lst us) ∧ EvAt H us (mv p)
theorem EndAt.same {H H' : Hp} {v : V} {e : Option Pl} (h : EndAt H v e) (z : Same H H') : EndAt H' v e := by
  cases e with
  | none => exact h
  | some q => obtain ⟨t, a, b⟩ := h; exact ⟨t, a, z _ _ b⟩
theorem LayAt.same {H H' : Hp} {us : List V} {l : List (Pl × Wd)} (h : LayAt H us l) (z : Same H H') : LayAt H' us l := ⟨h.1, fun i pw e => let ⟨x, t, a, b, c⟩ := h.2 i pw e; ⟨x, t, a, z _ _ b, z _ _ c⟩⟩
theorem EvAt.same {H H' : Hp} {us : List V} {l : List (Nat × Option Pl)} (h : EvAt H us l) (z : Same H H') : EvAt H' us l := ⟨h.1, fun i ce e => let ⟨x, v, a, b, c⟩ := h.2 i ce e; ⟨x, v, a, z _ _ b, c.same z⟩⟩
theorem MvAt.same {H H' : Hp} {D : Addr} {mv : Mv} {P : List Pl} (h : MvAt H D mv P) (z : Same H H') : MvAt H' D mv P := let ⟨kvs, a, b⟩ := h; ⟨kvs, z _ _ a, fun p hp => let ⟨q, us, c, d, e⟩ := b p hp; ⟨q, us, c, z _ _ d, e.same z⟩⟩
/-- changes at a list or a dict -/
theorem LayAt.put {H : Hp} {us : List V} {l : List (Pl × Wd)} {F : Addr} {o : HO} (h : LayAt H us l) (hF : ∀ xs, H F ≠ some (.tup xs)) : LayAt (upd H F o) us l := ⟨h.1, fun i pw e => let ⟨x, t, a, b, c⟩ := h.2 i pw e; ⟨x, t, a, tupl_upd hF b, tupl_upd hF c⟩⟩
theorem LayAt.nil {H : Hp} : LayAt H [] [] := ⟨rfl, fun i pw e => by simp at e⟩
theorem LayAt.snoc {H : Hp} {us : List V} {l : List (Pl × Wd)} {x t : Addr} {pw : Pl × Wd} (h : LayAt H us l) (hx : H x = some (.tup [.ref t, .str (sOf pw.2)])) (ht : PlAt H t pw.1) : LayAt H (us ++ [V.ref x]) (l ++ [pw]) := by
  refine ⟨by rw [List.length_append, List.length_append, h.1]; rfl, fun i q e => ?_⟩
  by_cases c : i < l.length
  · rw [List.getElem?_append_left c] at e
    obtain ⟨a, b, e1, q1⟩ := h.2 i q e
    exact ⟨a, b, by rw [List.getElem?_append_left (by rw [h.1]; exact c)]; exact e1, q1⟩
  · rw [List.getElem?_append_right (by omega)] at e
    have z : i - l.length = 0 := by
      have := (List.getElem?_eq_some_iff.mp e).1
      simp at this
      omega
    rw [z] at e
    cases e
    exact ⟨x, t, by rw [List.getElem?_append_right (by rw [h.1]; omega), h.1, z]; rfl, hx, ht⟩
theorem EvAt.nil {H : Hp} : EvAt H [] [] := ⟨rfl, fun i ce e => by simp at e⟩
theorem EvAt.snoc {H : Hp} {us : List V} {l : List (Nat × Option Pl)} {x : Addr} {v : V} {ce : Nat × Option Pl} (h : EvAt H us l) (hx : H x = some (.tup [.str ⟨#[ce.1]⟩, v])) (hv : EndAt H v ce.2) : EvAt H (us ++ [V.ref x]) (l ++ [ce]) := by
  refine ⟨by rw [List.length_append, List.length_append, h.1]; rfl, fun i q e => ?_⟩
  by_cases c : i < l.length
  · rw [List.getElem?_append_left c] at e
    obtain ⟨a, b, e1, q1⟩ := h.2 i q e
    exact ⟨a, b, by rw [List.getElem?_append_left (by rw [h.1]; exact c)]; exact e1, q1⟩
  · rw [List.getElem?_append_right (by omega)] at e
    have z : i - l.length = 0 := by
      have := (List.getElem?_eq_some_iff.mp e).1
      simp at this
      omega
    rw [z] at e
    cases e
    exact ⟨x, v, by rw [List.getElem?_append_right (by rw [h.1]; omega), h.1, z]; rfl, hx, hv⟩
theorem EndAt.put {H : Hp} {v : V} {e : Option Pl} {F : Addr} {o : HO} (h : EndAt H v e) (hF : ∀ xs, H F ≠ some (.tup xs)) : EndAt (upd H F o) v e := by
  cases e with
  | none => exact h
  | some q => obtain ⟨t, a, b⟩ := h; exact ⟨t, a, tupl_upd hF b⟩
theorem EvAt.put {H : Hp} {us : List V} {l : List (Nat × Option Pl)} {F : Addr} {o : HO} (h : EvAt H us l) (hF : ∀ xs, H F ≠ some (.tup xs)) : EvAt (upd H F o) us l := ⟨h.1, fun i ce e => let ⟨x, v, a, b, c⟩ := h.2 i ce e; ⟨x, v, a, tupl_upd hF b, c.put hF⟩⟩
def resV : Option Wd → V
  | none => .non
  | some w => .str (sOf w)
def sp_fro : Sp := fun vs H Q _ => ∃ (D t : Addr) (mv : Mv) (P : List Pl) (b : Pl), vs = [.ref D, .ref t] ∧ MvAt H D mv P ∧ PlAt H t b ∧ b ∈ P ∧ ClosedM mv P ∧ P.length ≤ 1000 ∧ (∀ p, (mv p).length ≤ 100) ∧
  ∀ r H', Same H H' → Bfs mv [b] [(b, [])] r → Q (resV r) H'
theorem evs_take {mv : Mv} {l : List (Pl × Wd)} {i : Nat} {pw : Pl × Wd} (h : l[i]? = some pw) : evs mv (l.take (i + 1)) = evs mv (l.take i) ++ (mv pw.1).map fun ce => (pw.2 ++ [ce.1], ce.2) := by
  unfold evs
  rw [List.take_add_one, h, List.flatMap_append]
  simp
theorem ev_take {mv : List (Nat × Option Pl)} {w : Wd} {j : Nat} {ce : Nat × Option Pl} (h : mv[j]? = some ce) : (mv.take (j + 1)).map (fun ce => (w ++ [ce.1], ce.2)) = (mv.take j).map (fun ce => (w ++ [ce.1], ce.2)) ++ [(w ++ [ce.1], ce.2)] := by
  rw [List.take_add_one, h, List.map_append]
  rfl
theorem evs_split (mv : Mv) (l : List (Pl × Wd)) (i : Nat) : evs mv l = evs mv (l.take i) ++ evs mv (l.drop i) := by
  unfold evs
  conv => lhs; rw [← List.take_append_drop i l]
  rw [List.flatMap_append]
section
variable {P : Program} {w : World} {K : PySem.W.Frag} {mg : Str → Option Value} {base : Heap}
theorem ok_first_row_out (T : Txt K mg) : FnOk P w K mg base (L2.CX P w) 1 T.a_first_row_out T.fd_first_row_out ["moves", "begin"] sp_fro := by
  refine T.F_first_row_out.okX sc_first_row_out (fun vs H Q E h => ?_) (fun cdv A outer s H vs Q E hr h => ?_)
  · obtain ⟨D, t, mv, Ps, b, rfl, _⟩ := h
    rfl
  · obtain ⟨D, t, mv, Ps, b, rfl, hmv, hb, bP, cl, lP, l100, k⟩ := h
    refine ⟨_, (PSs.nox (pss_cons (ps_set (i := 2) sc_first_row_out.nd rfl (Or.inl rfl) (pe_dispT (hu_of hr) (pv 1) pe_bl))
  (pss_cons (ps_set (i := 3) sc_first_row_out.nd rfl (Or.inl rfl) (pe_lst (pa_cons (pe_tup (pa_cons (pv 1) (pa_cons pe_str pa_nil))) pa_nil)))
  (pss_cons (ps_while PassesOwn.never (pt_truth (pv 3) (fun _ => rfl))
  (pss_cons (ps_set (i := 4) sc_first_row_out.nd rfl (Or.inl rfl) (pe_lst pa_nil))
  (pss_cons (ps_for PassesOwn.never rfl (pi_list (pv 3)) (pg_tup rfl (pgs_cons (pg_name (i := 5) sc_first_row_out.nd rfl (Or.inl rfl)) (pgs_cons (pg_name (i := 6) sc_first_row_out.nd rfl (Or.inl rfl)) pgs_nil)))
  (pss_one (ps_for PassesOwn.never rfl (pi_list (pe_dget (hu_of hr) (pv 0) (pv 5) (fun _ _ => rfl))) (pg_tup rfl (pgs_cons (pg_name (i := 7) sc_first_row_out.nd rfl (Or.inl rfl)) (pgs_cons (pg_name (i := 8) sc_first_row_out.nd rfl (Or.inl rfl)) pgs_nil)))
  (pss_cons (ps_if (pt_cmp (pc_isN (pv 8)))
  (pss_one (ps_ret (pe_op op_add_str (pv 6) (pv 7))))
  pss_nil)
  (pss_one (ps_if (pt_cmp (pc_dnotin (hu_of hr) (pv 8) (pv 2)) (by rfl))
  (pss_cons (ps_dput (hu_of hr) (pv 2) (pv 8) pe_bl rfl)
  (pss_one (ps_expr (pe_bm PySem.F.plainAttrs_list PySem.F.slot_list_append PySem.F.type_list_append mt_append (pv 4) (pa_cons (pe_tup (pa_cons (pv 8) (pa_cons (pe_op op_add_str (pv 6) (pv 7)) pa_nil))) pa_nil)))))
  pss_nil))))))
  (pss_one (ps_set (i := 3) sc_first_row_out.nd rfl (Or.inl rfl) (pv 4))))))
  (pss_one (ps_ret pe_non)))))), ?_⟩
    walk_at "begin"
    walk_at "go"
    refine k_dispT fun S hS => ?_
    walk_at "go"
    have zS := Same.new (o := .dT []) hS
    refine ⟨pk b, t, rfl, zS _ _ hb, upd_same, ?_⟩
    have hH1 : Same H (upd (upd H S (.dT [])) S (.dT [(pk b, .bl true)])) := Same.mut zS hS
    have eS1 : (upd (upd H S (.dT [])) S (.dT [(pk b, .bl true)])) S = some (.dT (skv [b])) := upd_same
    generalize upd (upd H S (.dT [])) S (.dT [(pk b, .bl true)]) = H1 at hH1 eS1 ⊢
    walk_at "go"
    refine ⟨(by decide : 2 ≤ sizeLine), fun x hx => ?_⟩
    have zx := Same.new (o := .tup [.ref t, .str ""]) hx
    walk_at "go"
    refine ⟨(by decide : 1 ≤ sizeLine), fun L hL => ?_⟩
    have zL := Same.new (o := .lst [.ref x]) hL
    have z12 := zx.trans zL
    have lay0 : LayAt (upd (upd H1 x (.tup [.ref t, .str ""])) L (.lst [.ref x])) [.ref x] [(b, [])] := LayAt.nil.snoc (pw := (b, [])) (zL _ _ upd_same) (z12 _ _ (hH1 _ _ hb))
    have hS0 := hS
    have hL0 : H L = none := free_of (hH1.trans zx) hL
    have nLS : L ≠ S := fun e => by
      rw [e, zx _ _ eS1] at hL; cases hL
    have eL : (upd (upd H1 x (.tup [.ref t, .str ""])) L (.lst [.ref x])) L = some (.lst [.ref x]) := upd_same
    have zz := hH1.trans z12
    have eS := z12 _ _ eS1
    generalize upd (upd H1 x (.tup [.ref t, .str ""])) L (.lst [.ref x]) = H2 at lay0 eL zz eS ⊢
    clear z12 zx zL eS1 hH1 zS hS hL hx
    walk_at "go"
    refine k_whl (fun q σ H' => ∃ s l n L us a4 a5 a6 a7 a8, q = 2 * (1000 - s.length) + (if l = [] then 0 else 1) ∧ Same H H' ∧ H' S = some (.dT (skv s)) ∧ H' L = some (.lst us) ∧ H L = none ∧ L ≠ S ∧ LayAt H' us l ∧ Lay Ps s l n ∧ n + 1 ≤ s.length + (if l = [] then 1 else 0) ∧
        (∀ r, Bfs mv s l r → Bfs mv [b] [(b, [])] r) ∧ σ = [some (.ref D), some (.ref t), some (.ref S), some (.ref L), a4, a5, a6, a7, a8])
      ⟨_, [b], [(b, [])], 0, L, _, none, none, none, none, none, rfl, zz, eS, eL, hL0, nLS, lay0, ⟨by simp, fun p hp => by rw [List.mem_singleton.mp hp]; exact bP, fun pw hp => by rw [List.mem_singleton.mp hp]; exact ⟨bP, rfl⟩⟩, by simp, fun r h => h, rfl⟩ ?_
      (fun σ H R R' h ⟨v, e, c, t, q⟩ => ⟨v, e, c, t, h _ _ q⟩)
    clear zz eS eL hL0 nLS lay0 H1 H2 L x
    rintro q σ H2 ⟨s, l, n, L, us, a4, a5, a6, a7, a8, rfl, z, eS, eL, hL0, nLS, lay, LY, hn, pre, rfl⟩
    refine k_var rfl ⟨_, .inl ⟨_, SqL.of eL, rfl⟩, ?_⟩
    have sP : s.length ≤ Ps.length := nodup_sub LY.nd LY.sub
    by_cases c : l = []
    · subst c
      have : us = [] := List.length_eq_zero_iff.mp lay.1
      subst this
      refine iteF ?_
      walk_at "go"
      exact k none H2 z (pre _ .done)
    · have une : us ≠ [] := fun e => c (List.length_eq_zero_iff.mp (by rw [← lay.1, e]; rfl))
      refine k_yes (by cases us with | nil => exact absurd rfl une | cons a r => rfl) ?_
      rw [if_neg c] at hn
      have n1000 : n < 1000 := by omega
      walk_at "go"
      refine ⟨(by decide : 0 ≤ sizeLine), fun M hM => ?_⟩
      have hM0 := free_of z hM
      have nMS : M ≠ S := (ne_of_none eS hM).symm
      have nML : M ≠ L := (ne_of_none eL hM).symm
      have zM := Same.new (o := .lst []) hM
      walk_at "go"
      refine ⟨L, rfl, ⟨_, SqL.of (zM _ _ eL)⟩, for_list (xs := us) (fun i σ H' => ∃ s2 l2 us2 a5 a6 a7 a8, Same H H' ∧ H' S = some (.dT (skv s2)) ∧ H' M = some (.lst us2) ∧ LayAt H' us2 l2 ∧ H' L = some (.lst us) ∧ LayAt H' us l ∧ proc (evs mv (l.take i)) s [] = .inr (s2, l2) ∧
          σ = [some (.ref D), some (.ref t), some (.ref S), some (.ref L), some (.ref M), a5, a6, a7, a8])
        ⟨s, [], [], _, _, _, _, z.trans zM, zM _ _ eS, upd_same, LayAt.nil, zM _ _ eL, lay.same zM, rfl, rfl⟩ (fun i σ H' _ ⟨_, _, _, _, _, _, _, _, _, _, _, e, _⟩ => SqL.of e) ?_ ?_⟩
      · clear zM
        rintro i y σ H3 hy ⟨s2, l2, us2, a5, a6, a7, a8, z3, eS3, eM3, lay2, eL3, layL, pr, rfl⟩
        have il : i < l.length := by rw [← lay.1]; exact (List.getElem?_eq_some_iff.mp hy).1
        have ei : l[i]? = some (l[i]'il) := List.getElem?_eq_getElem il
        obtain ⟨x, tp, ex, hx, htp⟩ := layL.2 i _ ei
        rw [hy] at ex
        cases ex
        have lyi := LY.lay _ (List.getElem_mem il)
        have ev1 := evs_take (mv := mv) ei
        have sub1 : ∀ w q, (w, some q) ∈ evs mv (l.take (i + 1)) → q ∈ Ps ∧ w.length = n + 1 := fun w q h => evs_in cl LY w q (by rw [evs_split mv l (i + 1)]; exact List.mem_append_left _ h)
        have fnd : ∀ w, proc (evs mv (l.take (i + 1))) s [] = .inl w → Bfs mv [b] [(b, [])] (some w) := fun w h => pre _ (.found c (by rw [evs_split mv l (i + 1), proc_app, h]))
        rw [ev1] at sub1 fnd ⊢
        generalize l[i]'il = pw at hx htp lyi sub1 fnd ⊢
        obtain ⟨p, wd⟩ := pw
        obtain ⟨kvs, eD, mvs⟩ := id hmv
        obtain ⟨qm, um, vm, em, evm⟩ := mvs p lyi.1
        refine k_gt (SqT.of hx) rfl ?_
        walk_at "go"
        have dg := DGet.t (z3 _ _ eD) htp
        rw [vm] at dg
        refine ⟨D, _, rfl, dg, qm, rfl, ⟨_, SqL.of (z3 _ _ em)⟩, ?_⟩
        refine for_list (xs := um) (fun j σ H' => ∃ s2 l2 us2 a7 a8, Same H H' ∧ H' S = some (.dT (skv s2)) ∧ H' M = some (.lst us2) ∧ LayAt H' us2 l2 ∧ H' L = some (.lst us) ∧ LayAt H' us l ∧
            proc (evs mv (l.take i) ++ ((mv p).take j).map fun ce => (wd ++ [ce.1], ce.2)) s [] = .inr (s2, l2) ∧
            σ = [some (.ref D), some (.ref t), some (.ref S), some (.ref L), some (.ref M), some (.ref tp), some (.str (sOf wd)), a7, a8])
          ⟨s2, l2, us2, _, _, z3, eS3, eM3, lay2, eL3, layL, by rw [List.take_zero, List.map_nil, List.append_nil]; exact pr, rfl⟩ (fun j σ H' _ ⟨_, _, _, _, _, zj, _⟩ => SqL.of (zj _ _ em)) ?_ ?_
        · clear z3 eS3 eM3 lay2 eL3 layL pr eD mvs vm dg hx htp
          rintro j y σ H4 hy ⟨s2, l2, us2, a7, a8, z4, eS4, eM4, lay2, eL4, layL, pr, rfl⟩
          have jl : j < (mv p).length := by rw [← evm.1]; exact (List.getElem?_eq_some_iff.mp hy).1
          have ej : (mv p)[j]? = some ((mv p)[j]'jl) := List.getElem?_eq_getElem jl
          obtain ⟨x2, v2, ex, hx2, hv2⟩ := (evm.same z4).2 j _ ej
          rw [hy] at ex
          cases ex
          have tk := ev_take (w := wd) ej
          have cut : ∀ r, (((mv p).take (j + 1)).map fun ce => (wd ++ [ce.1], ce.2)) ++ r = (((mv p).take j).map fun ce => (wd ++ [ce.1], ce.2)) ++ ((wd ++ [((mv p)[j]'jl).1], ((mv p)[j]'jl).2) :: r) := fun r => by rw [tk, List.append_assoc]; rfl
          have full : (mv p).map (fun ce => (wd ++ [ce.1], ce.2)) = (((mv p).take j).map fun ce => (wd ++ [ce.1], ce.2)) ++ ((wd ++ [((mv p)[j]'jl).1], ((mv p)[j]'jl).2) :: ((mv p).drop (j + 1)).map fun ce => (wd ++ [ce.1], ce.2)) := by
            rw [← cut, ← List.map_append, List.take_append_drop]
          rw [full] at sub1 fnd
          have lw : wd.length = n := lyi.2
          rw [tk, ← List.append_assoc]
          generalize (mv p)[j]'jl = ce at hx2 hv2 sub1 fnd
          obtain ⟨lt, en⟩ := ce
          generalize ((mv p).drop (j + 1)).map (fun ce => (wd ++ [ce.1], ce.2)) = rest at sub1 fnd
          generalize ((mv p).take j).map (fun ce => (wd ++ [ce.1], ce.2)) = done at pr sub1 fnd
          have joined : ∀ {α : Type} (a : List α) (b : List α) (x : α) (r : List α), a ++ (b ++ x :: r) = (a ++ b) ++ (x :: r) := fun a b x r => by simp
          rw [joined] at sub1 fnd
          generalize evs mv (l.take i) ++ done = before at pr sub1 fnd ⊢
          have LY2 := proc_lay (P := Ps) (n := n + 1) (fun w q h => sub1 w q (List.mem_append_left _ h)) ⟨LY.nd, LY.sub, fun pw h => by cases h⟩ pr
          have s2P : s2.length ≤ Ps.length := nodup_sub LY2.1.nd LY2.1.sub
          refine k_gt (SqT.of hx2) rfl ?_
          walk_at "go"
          have cat : (sOf wd).length + (⟨#[lt]⟩ : Str).length ≤ sizeLine := by
            rw [sOf_len, lw]
            exact Nat.le_trans (show n + 1 ≤ 1000 by omega) (by decide)
          cases en with
          | none =>
            have : v2 = .non := hv2
            subst this
            refine iteT ?_
            walk_at "go"
            refine ⟨_, _, rfl, rfl, cat, ?_⟩
            rw [sOf_snoc]
            exact k (some (wd ++ [lt])) H4 z4 (fnd _ (by rw [proc_app, pr]; rfl))
          | some q =>
            obtain ⟨tq, ev2, hq⟩ := hv2
            subst ev2
            refine iteF ?_
            walk_at "go"
            have dg := DGet.t eS4 hq
            rw [valV_skv] at dg
            refine ⟨S, _, rfl, dg, ?_⟩
            walk_at "go"
            have step : proc (before ++ [(wd ++ [lt], some q)]) s [] = if q ∈ s2 then .inr (s2, l2) else .inr (s2 ++ [q], l2 ++ [(q, wd ++ [lt])]) := by
              rw [proc_app, pr]
              rfl
            by_cases d : q ∈ s2
            · rw [if_pos d] at step ⊢
              refine iteF ?_
              walk_at "go"
              exact ⟨s2, l2, us2, _, _, z4, eS4, eM4, lay2, eL4, layL, step, rfl⟩
            · rw [if_neg d] at step ⊢
              refine iteT ?_
              walk_at "go"
              have small : (skv s2).length < sizeLine := by
                unfold skv
                rw [List.length_map]
                exact Nat.lt_of_le_of_lt (show _ ≤ 1000 by omega) (by decide)
              refine ⟨S, _, rfl, DPut.t eS4 hq small, ?_⟩
              rw [putK_skv d]
              have nS : ∀ xs, H4 S ≠ some (.tup xs) := fun xs e => by rw [eS4] at e; cases e
              have nM : ∀ xs, H4 M ≠ some (.tup xs) := fun xs e => by rw [eM4] at e; cases e
              have eM5 : (upd H4 S (.dT (skv (s2 ++ [q])))) M = some (.lst us2) := by rw [upd_ne nMS]; exact eM4
              have eL5 : (upd H4 S (.dT (skv (s2 ++ [q])))) L = some (.lst us) := by rw [upd_ne nLS]; exact eL4
              have hq5 : PlAt (upd H4 S (.dT (skv (s2 ++ [q])))) tq q := tupl_upd nS hq
              have lay5 := lay2.put (o := .dT (skv (s2 ++ [q]))) nS
              have layL5 := layL.put (o := .dT (skv (s2 ++ [q]))) nS
              have z5 : Same H (upd H4 S (.dT (skv (s2 ++ [q])))) := Same.mut z4 hS0
              have eS5 : (upd H4 S (.dT (skv (s2 ++ [q])))) S = some (.dT (skv (s2 ++ [q]))) := upd_same
              generalize upd H4 S (.dT (skv (s2 ++ [q]))) = H5 at eM5 eL5 hq5 lay5 layL5 z5 eS5 ⊢
              clear lay2 layL eS4 eM4 eL4 z4 hx2 hq dg nS nM
              walk_at "go"
              refine ⟨.inl ⟨rfl, _, SqL.of eM5⟩, ?_⟩
              walk_at "go"
              refine ⟨_, _, rfl, rfl, cat, ?_⟩
              rw [sOf_snoc]
              walk_at "go"
              refine ⟨(by decide : 2 ≤ sizeLine), fun y2 hy2 => ?_⟩
              have zy := Same.new (o := .tup [V.ref tq, .str (sOf (wd ++ [lt]))]) hy2
              have ey : (upd H5 y2 (.tup [V.ref tq, .str (sOf (wd ++ [lt]))])) y2 = some (.tup [V.ref tq, .str (sOf (wd ++ [lt]))]) := upd_same
              have eM6 := zy _ _ eM5
              have eL6 := zy _ _ eL5
              have eS6 := zy _ _ eS5
              have hq6 : PlAt _ tq q := zy _ _ hq5
              have lay6 := (lay5.same zy).snoc (pw := (q, wd ++ [lt])) ey hq6
              have layL6 := layL5.same zy
              have z6 := z5.trans zy
              generalize upd H5 y2 (.tup [V.ref tq, .str (sOf (wd ++ [lt]))]) = H6 at eM6 eL6 eS6 lay6 layL6 z6 ⊢
              clear zy ey hq6 hq5 lay5 layL5 z5 eS5 eM5 eL5
              walk_at "go"
              have nM6 : ∀ xs, H6 M ≠ some (.tup xs) := fun xs e => by rw [eM6] at e; cases e
              refine k_append eM6 ?_ ?_
              · have := lay6.1
                rw [List.length_append, List.length_append] at this
                have := LY2.2
                rw [List.length_nil] at this
                simp only [List.length_singleton] at *
                exact Nat.lt_of_le_of_lt (show us2.length ≤ 1000 by omega) (by decide)
              exact ⟨s2 ++ [q], l2 ++ [(q, wd ++ [lt])], us2 ++ [.ref y2], _, _, Same.mut z6 hM0, by rw [upd_ne nMS.symm]; exact eS6, upd_same, lay6.put nM6, by rw [upd_ne nML.symm]; exact eL6, layL6.put nM6, step, rfl⟩
        · rintro σ H4 ⟨s2, l2, us2, a7, a8, z4, eS4, eM4, lay2, eL4, layL, pr, rfl⟩
          rw [evm.1, List.take_length] at pr
          exact ⟨s2, l2, us2, _, _, _, _, z4, eS4, eM4, lay2, eL4, layL, pr, rfl⟩
      · rintro σ H3 ⟨s2, l2, us2, a5, a6, a7, a8, z3, eS3, eM3, lay2, eL3, layL, pr, rfl⟩
        rw [lay.1, List.take_length] at pr
        have LY2 := proc_lay (P := Ps) (n := n + 1) (evs_in cl LY) ⟨LY.nd, LY.sub, fun pw h => by cases h⟩ pr
        have s2P : s2.length ≤ Ps.length := nodup_sub LY2.1.nd LY2.1.sub
        have ll := LY2.2
        rw [List.length_nil] at ll
        have key : (l2 = [] ∧ s2.length = s.length) ∨ (l2 ≠ [] ∧ s.length + 1 ≤ s2.length) := by
          by_cases d : l2 = []
          · rw [d] at ll; exact .inl ⟨d, by simpa using ll⟩
          · have := List.length_pos_iff.mpr d
            exact .inr ⟨d, by omega⟩
        walk_at "go"
        refine ⟨2 * (1000 - s2.length) + (if l2 = [] then 0 else 1), ?_, s2, l2, n + 1, M, us2, _, _, _, _, _, rfl, z3, eS3, eM3, hM0, nMS, lay2, LY2.1, ?_, fun r h => pre r (.next c pr h), rfl⟩
        · rw [if_neg c]
          rcases key with ⟨d, e⟩ | ⟨d, e⟩
          · rw [if_pos d]; omega
          · rw [if_neg d]; omega
        · rcases key with ⟨d, e⟩ | ⟨d, e⟩
          · rw [if_pos d]; omega
          · rw [if_neg d]; omega
end
/-! ### first_apart -/
def stpAt (m : MD) (b : Int) (c : Nat) : Option Stp := m.ss.find? fun s => decide ((s.b : Int) = b) && decide (s.c = c)
/-- what a letter does in both -/
def mvBoth (a b : Option Stp) : Option (Option Pl) := match a, b with
  | none, none => none
  | some s, some t => some (if s.g = t.g then some ((s.e : Int), (t.e : Int)) else none)
  | _, _ => some none
def mvP (m1 m2 : MD) : Mv := fun p => [97, 98, 99, 100].filterMap fun c => (mvBoth (stpAt m1 p.1 c) (stpAt m2 p.2 c)).map fun q => (c, q)
/-- what a dict of moves holds for a stand and a letter -/
def Look (o : Option Stp) (v g : V) : Prop := (o = none ∧ v = .non ∧ g = .non) ∨ ∃ s, o = some s ∧ v = .int (s.e : Nat) ∧ g = .int s.g
theorem MvOk.look {K : PySem.W.Frag} {H : Hp} {kvs : List (List Key × V)} {m : MD} (h : MvOk K H kvs m.ss) (b c : Nat) : (stpAt m b c = none ∧ valV kvs (mkey b c) = none) ∨ ∃ s, s ∈ m.ss ∧ stpAt m b c = some s ∧ ∃ p, valV kvs (mkey b c) = some (.ref p) ∧ SqT K H p [.int (s.e : Nat), .int s.g] := by
  cases e : stpAt m b c with
  | none =>
    refine .inl ⟨rfl, (h b c).1 fun s hs w => ?_⟩
    have := List.find?_eq_none.mp e s hs
    rw [w.1, w.2] at this
    simp at this
  | some s =>
    have hp := List.find?_some e
    rw [Bool.and_eq_true, decide_eq_true_iff, decide_eq_true_iff] at hp
    obtain ⟨p, h1, h2⟩ := (h b c).2 s (List.mem_of_find?_eq_some e) (by omega) hp.2
    exact .inr ⟨s, List.mem_of_find?_eq_some e, rfl, p, h1, h2⟩
theorem MvOk.get {K : PySem.W.Frag} {H : Hp} {kvs : List (List Key × V)} {m : MD} (h : MvOk K H kvs m.ss) (b c : Nat) {q : Addr} (hq : H q = some (.tup [.non, .non])) : ∃ p v g, (valV kvs (mkey b c)).getD (.ref q) = .ref p ∧ SqT K H p [v, g] ∧ Look (stpAt m b c) v g := by
  rcases h.look b c with ⟨e, z⟩ | ⟨s, _, e, p, z, sp⟩
  · rw [z, e]
    exact ⟨q, .non, .non, rfl, SqT.of hq, .inl ⟨rfl, rfl, rfl⟩⟩
  · rw [z, e]
    exact ⟨p, _, _, rfl, sp, .inr ⟨s, rfl, rfl, rfl⟩⟩
def sp_mfromP (K : PySem.W.Frag) : Sp := fun vs H Q _ => ∃ (d1 d2 : Addr) (kv1 kv2 : List (List Key × V)) (m1 m2 : MD) (b s : Nat), vs = [.ref d1, .ref d2, .int (b : Nat), .int (s : Nat)] ∧ H d1 = some (.dT kv1) ∧ MvOk K H kv1 m1.ss ∧ H d2 = some (.dT kv2) ∧ MvOk K H kv2 m2.ss ∧
  ∀ q us H', Same H H' → H q = none → H' q = some (.lst us) → EvAt H' us (mvP m1 m2 ((b : Int), (s : Int))) → Q (.ref q) H'
def letV : List V := [.str "a", .str "b", .str "c", .str "d"]
theorem letV_at {i : Nat} {y : V} (h : letV[i]? = some y) : i < 4 ∧ y = .str ⟨#[97 + i]⟩ ∧ ([97, 98, 99, 100] : List Nat)[i]? = some (97 + i) := by
  have il := (List.getElem?_eq_some_iff.mp h).1
  have : i < 4 := il
  have z : i = 0 ∨ i = 1 ∨ i = 2 ∨ i = 3 := by omega
  rcases z with rfl | rfl | rfl | rfl <;> (cases h; exact ⟨by decide, rfl, rfl⟩)
def sp_fa (K : PySem.W.Frag) (C : Addr) : Sp := fun vs H Q _ => ∃ (x1 x2 : Addr) (m1 m2 : MD), vs = [.ref x1, .ref x2] ∧ MAt K C H x1 m1 ∧ m1.Ok ∧ MAt K C H x2 m2 ∧ m2.Ok ∧
  ∀ r H', Same H H' → Bfs (mvP m1 m2) [(0, 0)] [((0, 0), [])] r → Q (resV r) H'
def allQ (n1 n2 : Nat) : List Pl := (List.range n1).flatMap fun a : Nat => (List.range n2).map fun b : Nat => (((a : Nat) : Int), ((b : Nat) : Int))
theorem allQ_mem {n1 n2 : Nat} {p : Pl} : p ∈ allQ n1 n2 ↔ ∃ a b : Nat, a < n1 ∧ b < n2 ∧ p = ((a : Int), (b : Int)) := by
  unfold allQ
  rw [List.mem_flatMap]
  constructor
  · rintro ⟨a, ha, h⟩
    obtain ⟨j, hj, rfl⟩ := List.mem_map.mp h
    exact ⟨a, j, List.mem_range.mp ha, List.mem_range.mp hj, rfl⟩
  · rintro ⟨a, b, ha, hb, rfl⟩
    exact ⟨a, List.mem_range.mpr ha, List.mem_map.mpr ⟨b, List.mem_range.mpr hb, rfl⟩⟩
theorem allQ_len (n1 n2 : Nat) : (allQ n1 n2).length = n1 * n2 := by
  unfold allQ
  induction n1 with
  | zero => simp
  | succ n ih =>
    rw [List.range_succ, List.flatMap_append, List.length_append, ih]
    simp [Nat.succ_mul]
theorem mvBoth_end {m1 m2 : MD} {p : Pl} {c : Nat} {q : Pl} (h : mvBoth (stpAt m1 p.1 c) (stpAt m2 p.2 c) = some (some q)) : ∃ s ∈ m1.ss, ∃ t ∈ m2.ss, q = ((s.e : Int), (t.e : Int)) := by
  cases e1 : stpAt m1 p.1 c with
  | none =>
    cases e2 : stpAt m2 p.2 c with
    | none => rw [e1, e2] at h; cases h
    | some t => rw [e1, e2] at h; cases h
  | some s =>
    cases e2 : stpAt m2 p.2 c with
    | none => rw [e1, e2] at h; cases h
    | some t =>
      rw [e1, e2] at h
      have h : some (if s.g = t.g then some ((s.e : Int), (t.e : Int)) else none) = some (some q) := h
      split at h
      · cases h
        exact ⟨s, List.mem_of_find?_eq_some e1, t, List.mem_of_find?_eq_some e2, rfl⟩
      · cases h
theorem mvP_closed {m1 m2 : MD} (o1 : m1.Ok) (o2 : m2.Ok) : ClosedM (mvP m1 m2) (allQ m1.n m2.n) := fun p _ c q h => by
  obtain ⟨c', _, e⟩ := List.mem_filterMap.mp h
  obtain ⟨v, hv, e2⟩ := Option.map_eq_some_iff.mp e
  cases e2
  obtain ⟨s, hs, t, ht, rfl⟩ := mvBoth_end hv
  exact allQ_mem.mpr ⟨s.e, t.e, (o1.ok s hs).e, (o2.ok t ht).e, rfl⟩
theorem mvP_len (m1 m2 : MD) (p : Pl) : (mvP m1 m2 p).length ≤ 100 := by
  unfold mvP
  exact Nat.le_trans (List.length_filterMap_le _ _) (by decide)
section
variable {P : Program} {w : World} {K : PySem.W.Frag} {mg : Str → Option Value} {base : Heap}
theorem ok_moves_from (T : Txt K mg) : FnOk P w K mg base (L2.CX P w) 3 T.a_moves_from T.fd_moves_from ["one_moves", "other_moves", "begun", "start"] (sp_mfromP K) := by
  refine T.F_moves_from.okX sc_moves_from (fun vs H Q E h => ?_) (fun cdv A outer s H vs Q E hr h => ?_)
  · obtain ⟨d1, d2, kv1, kv2, m1, m2, b, s, rfl, _⟩ := h
    rfl
  · obtain ⟨d1, d2, kv1, kv2, m1, m2, b, st, rfl, e1, h1, e2, h2, k⟩ := h
    refine ⟨_, (PSs.nox (pss_cons (ps_set (i := 4) sc_moves_from.nd rfl (Or.inl rfl) (pe_lst pa_nil))
  (pss_cons (ps_for PassesOwn.never rfl (pi_tup (pe_glob (by rfl) T.m_LETTERS T.r_LETTERS)) (pg_name (i := 5) sc_moves_from.nd rfl (Or.inl rfl))
  (pss_cons (ps_asg (pe_dget2 (hu_of hr) (pv 0) (pe_tup (pa_cons (pv 2) (pa_cons (pv 5) pa_nil))) (pe_tup (pa_cons pe_non (pa_cons pe_non pa_nil))) ⟨by rfl, by rfl, by rfl, by rfl⟩) (pg_tup rfl (pgs_cons (pg_name (i := 6) sc_moves_from.nd rfl (Or.inl rfl)) (pgs_cons (pg_name (i := 7) sc_moves_from.nd rfl (Or.inl rfl)) pgs_nil))))
  (pss_cons (ps_asg (pe_dget2 (hu_of hr) (pv 1) (pe_tup (pa_cons (pv 3) (pa_cons (pv 5) pa_nil))) (pe_tup (pa_cons pe_non (pa_cons pe_non pa_nil))) ⟨by rfl, by rfl, by rfl, by rfl⟩) (pg_tup rfl (pgs_cons (pg_name (i := 8) sc_moves_from.nd rfl (Or.inl rfl)) (pgs_cons (pg_name (i := 9) sc_moves_from.nd rfl (Or.inl rfl)) pgs_nil))))
  (pss_one (ps_if (PW.pt (pw_or (pt_cmp (pc_notN (pv 6))) (pw_or1 (pt_cmp (pc_notN (pv 8))))))
  (pss_one (ps_expr (pe_bm PySem.F.plainAttrs_list PySem.F.slot_list_append PySem.F.type_list_append mt_append (pv 4) (pa_cons (pe_tup (pa_cons (pv 5) (pa_cons (pe_ifExp (pt_cmpR op_eq (pv 7) (pv 9) (nomark _)) (pe_tup (pa_cons (pv 6) (pa_cons (pv 8) pa_nil))) pe_non) pa_nil))) pa_nil))))
  pss_nil)))))
  (pss_one (ps_ret (pv 4)))))), ?_⟩
    walk_at "begin"
    walk_at "go"
    refine ⟨(by decide : 0 ≤ sizeLine), fun L hL => ?_⟩
    have zL := Same.new (o := .lst []) hL
    walk_at "go"
    refine ⟨T.a_LETTERS, rfl, ⟨_, T.s_LETTERS _⟩, for_tup (xs := letV) (fun i σ H' => ∃ vs a5 a6 a7 a8 a9, Same H H' ∧ H' L = some (.lst vs) ∧ vs.length ≤ i ∧ EvAt H' vs ((([97, 98, 99, 100] : List Nat).take i).filterMap fun c => (mvBoth (stpAt m1 (b : Int) c) (stpAt m2 (st : Int) c)).map fun q => (c, q)) ∧
      σ = [some (.ref d1), some (.ref d2), some (.int (b : Nat)), some (.int (st : Nat)), some (.ref L), a5, a6, a7, a8, a9]) ⟨[], _, _, _, _, _, zL, upd_same, Nat.le_refl _, EvAt.nil, rfl⟩ (fun _ _ _ _ _ => T.s_LETTERS _) ?_ ?_⟩
    · rintro i y σ H1 hy ⟨vs, a5, a6, a7, a8, a9, z, eL, lv, ev, rfl⟩
      obtain ⟨i4, rfl, ci⟩ := letV_at hy
      have tk : (([97, 98, 99, 100] : List Nat).take (i + 1)).filterMap (fun c => (mvBoth (stpAt m1 (b : Int) c) (stpAt m2 (st : Int) c)).map fun q => (c, q)) =
          (([97, 98, 99, 100] : List Nat).take i).filterMap (fun c => (mvBoth (stpAt m1 (b : Int) c) (stpAt m2 (st : Int) c)).map fun q => (c, q)) ++ ([97 + i].filterMap fun c => (mvBoth (stpAt m1 (b : Int) c) (stpAt m2 (st : Int) c)).map fun q => (c, q)) := by
        rw [List.take_add_one, ci, List.filterMap_append]
        rfl
      rw [tk]
      generalize 97 + i = c
      generalize (([97, 98, 99, 100] : List Nat).take i).filterMap (fun c => (mvBoth (stpAt m1 (b : Int) c) (stpAt m2 (st : Int) c)).map fun q => (c, q)) = ls at ev
      walk_at "go"
      refine k_dget2 ?_
      walk_at "go"
      refine ⟨d1, rfl, .inr ⟨kv1, .inl (z _ _ e1)⟩, ?_⟩
      walk_at "go"
      refine ⟨(by decide : 2 ≤ sizeLine), fun q1 hq1 => ?_⟩
      walk_at "go"
      refine ⟨(by decide : 2 ≤ sizeLine), fun q2 hq2 => ?_⟩
      have z1 := Same.new (o := .tup [V.int (b : Nat), .str ⟨#[c]⟩]) hq1
      have z2 := Same.new (o := .tup [V.non, .non]) hq2
      obtain ⟨p1, v1, g1, ep1, sp1, lk1⟩ := (h1.tups (same_tups (z.trans (z1.trans z2)))).get b c upd_same
      refine ⟨_, DGet.t (k := mkey b c) ((z.trans (z1.trans z2)) _ _ e1) (z2 _ _ upd_same), ?_⟩
      rw [ep1]
      have z3 := z.trans (z1.trans z2)
      have eL3 := (z1.trans z2) _ _ eL
      have ev3 := ev.same (z1.trans z2)
      generalize upd (upd H1 q1 (.tup [V.int (b : Nat), .str ⟨#[c]⟩])) q2 (.tup [V.non, .non]) = H2 at sp1 z3 eL3 ev3 ⊢
      clear z1 z2 hq1 hq2 z eL ev ep1
      refine k_gt sp1 rfl ?_
      walk_at "go"
      refine k_dget2 ?_
      walk_at "go"
      refine ⟨d2, rfl, .inr ⟨kv2, .inl (z3 _ _ e2)⟩, ?_⟩
      walk_at "go"
      refine ⟨(by decide : 2 ≤ sizeLine), fun q1 hq1 => ?_⟩
      walk_at "go"
      refine ⟨(by decide : 2 ≤ sizeLine), fun q2 hq2 => ?_⟩
      have z1 := Same.new (o := .tup [V.int (st : Nat), .str ⟨#[c]⟩]) hq1
      have z2 := Same.new (o := .tup [V.non, .non]) hq2
      obtain ⟨p2, v2, g2, ep2, sp2, lk2⟩ := (h2.tups (same_tups (z3.trans (z1.trans z2)))).get st c upd_same
      refine ⟨_, DGet.t (k := mkey st c) ((z3.trans (z1.trans z2)) _ _ e2) (z2 _ _ upd_same), ?_⟩
      rw [ep2]
      have z4 := z3.trans (z1.trans z2)
      have eL4 := (z1.trans z2) _ _ eL3
      have ev4 := ev3.same (z1.trans z2)
      generalize upd (upd H2 q1 (.tup [V.int (st : Nat), .str ⟨#[c]⟩])) q2 (.tup [V.non, .non]) = H3 at sp2 z4 eL4 ev4 ⊢
      clear z1 z2 hq1 hq2 z3 eL3 ev3 ep2 sp1
      refine k_gt sp2 rfl ?_
      walk_at "go"
      have small : vs.length < sizeLine := Nat.lt_of_le_of_lt (show _ ≤ 4 by omega) (by decide)
      have fin : ∀ (ov : Option Pl) (vv : V) (H4 : Hp), mvBoth (stpAt m1 (b : Int) c) (stpAt m2 (st : Int) c) = some ov → Same H3 H4 → EndAt H4 vv ov → ∀ pn, H4 pn = none → ∃ xs, (upd H4 pn (.tup [.str ⟨#[c]⟩, vv])) L = some (.lst xs) ∧ xs.length < sizeLine ∧ ∃ vs', Same H (upd (upd H4 pn (.tup [.str ⟨#[c]⟩, vv])) L (.lst (xs ++ [.ref pn]))) ∧ (upd (upd H4 pn (.tup [.str ⟨#[c]⟩, vv])) L (.lst (xs ++ [.ref pn]))) L = some (.lst vs') ∧ vs'.length ≤ i + 1 ∧
          EvAt (upd (upd H4 pn (.tup [.str ⟨#[c]⟩, vv])) L (.lst (xs ++ [.ref pn]))) vs' (ls ++ [c].filterMap fun c => (mvBoth (stpAt m1 (b : Int) c) (stpAt m2 (st : Int) c)).map fun q => (c, q)) := fun ov vv H4 eo z5 hv pn hpn => by
        have zp := Same.new (o := .tup [V.str ⟨#[c]⟩, vv]) hpn
        have eL5 := zp _ _ (z5 _ _ eL4)
        have nT : ∀ xs, (upd H4 pn (.tup [V.str ⟨#[c]⟩, vv])) L ≠ some (.tup xs) := fun xs e => by rw [eL5] at e; cases e
        refine ⟨vs, eL5, small, vs ++ [.ref pn], Same.mut (z4.trans (z5.trans zp)) hL, upd_same, by rw [List.length_append, List.length_singleton]; omega, ?_⟩
        rw [List.filterMap_cons, eo]
        exact (((ev4.same z5).same zp).snoc (ce := (c, ov)) upd_same (hv.same zp)).put nT
      have none : mvBoth (stpAt m1 (b : Int) c) (stpAt m2 (st : Int) c) = none → ([c].filterMap fun c => (mvBoth (stpAt m1 (b : Int) c) (stpAt m2 (st : Int) c)).map fun q => (c, q)) = [] := fun e => by rw [List.filterMap_cons, e]; rfl
      rcases lk1 with ⟨o1, rfl, rfl⟩ | ⟨s1, o1, rfl, rfl⟩
      · rcases lk2 with ⟨o2, rfl, rfl⟩ | ⟨s2, o2, rfl, rfl⟩
        · refine k_no (by rfl) ?_
          walk_at "go"
          refine k_no (by rfl) ?_
          walk_at "go"
          refine ⟨vs, _, _, _, _, _, z4, eL4, by omega, ?_, rfl⟩
          rw [none (by rw [o1, o2]; rfl), List.append_nil]
          exact ev4
        · refine k_no (by rfl) ?_
          walk_at "go"
          refine k_yes (by rfl) ?_
          walk_at "go"
          refine ⟨.inl ⟨rfl, _, SqL.of eL4⟩, ?_⟩
          walk_at "go"
          refine k_no (by rfl) ?_
          walk_at "go"
          refine ⟨(by decide : 2 ≤ sizeLine), fun pn hpn => ?_⟩
          walk_at "go"
          obtain ⟨xs, ex, lx, vs', r1, r2, r3, r4⟩ := fin Option.none .non H3 (by rw [o1, o2]; rfl) (fun _ _ e => e) rfl pn hpn
          refine k_append ex lx ?_
          exact ⟨vs', _, _, _, _, _, r1, r2, r3, r4, rfl⟩
      · rcases lk2 with ⟨o2, rfl, rfl⟩ | ⟨s2, o2, rfl, rfl⟩
        · refine k_yes (by rfl) ?_
          refine iteT ?_
          walk_at "go"
          refine ⟨.inl ⟨rfl, _, SqL.of eL4⟩, ?_⟩
          walk_at "go"
          refine k_no (by rfl) ?_
          walk_at "go"
          refine ⟨(by decide : 2 ≤ sizeLine), fun pn hpn => ?_⟩
          walk_at "go"
          obtain ⟨xs, ex, lx, vs', r1, r2, r3, r4⟩ := fin Option.none .non H3 (by rw [o1, o2]; rfl) (fun _ _ e => e) rfl pn hpn
          refine k_append ex lx ?_
          exact ⟨vs', _, _, _, _, _, r1, r2, r3, r4, rfl⟩
        · refine k_yes (by rfl) ?_
          refine iteT ?_
          walk_at "go"
          refine ⟨.inl ⟨rfl, _, SqL.of eL4⟩, ?_⟩
          walk_at "go"
          have eg : decide (V.int s1.g = V.int s2.g) = decide (s1.g = s2.g) := by
            rw [dec_int, Bool.eq_iff_iff, decide_eq_true_iff]
          rw [eg]
          refine k_ite (fun cg => ?_) (fun cg => ?_)
          · walk_at "go"
            refine ⟨(by decide : 2 ≤ sizeLine), fun pt hpt => ?_⟩
            walk_at "go"
            refine ⟨(by decide : 2 ≤ sizeLine), fun pn hpn => ?_⟩
            walk_at "go"
            obtain ⟨xs, ex, lx, vs', r1, r2, r3, r4⟩ := fin (some ((s1.e : Int), (s2.e : Int))) (.ref pt) _ (by rw [o1, o2]; show some (if s1.g = s2.g then _ else _) = _; rw [if_pos cg]) (Same.new hpt) ⟨pt, rfl, upd_same⟩ pn hpn
            refine k_append ex lx ?_
            exact ⟨vs', _, _, _, _, _, r1, r2, r3, r4, rfl⟩
          · walk_at "go"
            refine ⟨(by decide : 2 ≤ sizeLine), fun pn hpn => ?_⟩
            walk_at "go"
            obtain ⟨xs, ex, lx, vs', r1, r2, r3, r4⟩ := fin Option.none .non H3 (by rw [o1, o2]; show some (if s1.g = s2.g then _ else _) = _; rw [if_neg cg]) (fun _ _ e => e) rfl pn hpn
            refine k_append ex lx ?_
            exact ⟨vs', _, _, _, _, _, r1, r2, r3, r4, rfl⟩
    · rintro σ H1 ⟨vs, a5, a6, a7, a8, a9, z, eL, lv, ev, rfl⟩
      walk_at "go"
      exact k L vs H1 z hL eL ev
theorem ok_first_apart (T : Txt K mg) : FnOk P w K mg base (L2.CX P w) 5 T.a_first_apart T.fd_first_apart ["one", "other"] (sp_fa K T.c_Machine) := by
  refine T.F_first_apart.okX sc_first_apart (fun vs H Q E h => ?_) (fun cdv A outer s H vs Q E hr h => ?_)
  · obtain ⟨x1, x2, m1, m2, rfl, _⟩ := h
    rfl
  · obtain ⟨x1, x2, m1, m2, rfl, hm1, o1, hm2, o2, k⟩ := h
    obtain ⟨dx1, tt1, u1, hx1, _⟩ := id hm1
    obtain ⟨dx2, tt2, u2, hx2, _⟩ := id hm2
    have a8 := o1.n8
    have b8 := o2.n8
    refine ⟨_, (PSs.nox (pss_cons (ps_expr (pe_call (ok_check_machine T) (hr.mono (by decide)) (by rfl) T.m_check_machine T.k_check_machine T.b_check_machine .nil passL (pa_cons (pv 0) pa_nil)))
  (pss_cons (ps_expr (pe_call (ok_check_machine T) (hr.mono (by decide)) (by rfl) T.m_check_machine T.k_check_machine T.b_check_machine .nil passL (pa_cons (pv 1) pa_nil)))
  (pss_cons (ps_set (i := 2) sc_first_apart.nd rfl (Or.inr rfl) (pe_call (ok_moves_of T) (hr.mono (by decide)) (by rfl) T.m_moves_of T.k_moves_of T.b_moves_of .nil passL (pa_cons (pv 0) pa_nil)))
  (pss_cons (ps_set (i := 3) sc_first_apart.nd rfl (Or.inr rfl) (pe_call (ok_moves_of T) (hr.mono (by decide)) (by rfl) T.m_moves_of T.k_moves_of T.b_moves_of .nil passL (pa_cons (pv 1) pa_nil)))
  (pss_cons (ps_setDc2T (i := 4) (own := [("begun", 5), ("start", 6)]) (g := (gName 5)) (tt := tYes) (g1 := (gName 6)) (tt1 := tYes) (vs1 := [6]) (hu_of hr) rfl sc_first_apart.nd rfl rfl (sw_trueD rfl rfl rfl (by decide +kernel)) (pi_range1 (by rfl) T.z_range (pa_cons (pe_prop (pv 0) T.cl_Machine T.p_stands (ok_Machine_stands T) (hr.mono (by decide)) T.b_Machine_stands .nil passL rfl) pa_nil)) (blkOk_by (own := [("begun", 5), ("start", 6)]) (N := ["one", "other", "one_moves", "other_moves", "moves", "begun", "start"]) (sc := defScope s_first_apart) (by decide +kernel)) (fun _ _ _ _ _ => (pg_name (i := 5) sc_first_apart.nd rfl (Or.inl rfl))) (fun _ _ _ _ _ => pts_nil) (fun _ _ _ _ _ => (pe_tup (pa_cons (pv 5) (pa_cons (pv 6) pa_nil)))) (fun _ _ _ _ _ => (pe_call (ok_moves_from T) (hr.mono (by decide)) (by rfl) T.m_moves_from T.k_moves_from T.b_moves_from .nil passL (pa_cons (pv 2) (pa_cons (pv 3) (pa_cons (pv 5) (pa_cons (pv 6) pa_nil)))))) (fun _ _ _ _ _ => (pi_range1 (by rfl) T.z_range (pa_cons (pe_prop (pv 1) T.cl_Machine T.p_stands (ok_Machine_stands T) (hr.mono (by decide)) T.b_Machine_stands .nil passL rfl) pa_nil))) (fun _ _ _ _ _ => (pg_name (i := 6) sc_first_apart.nd rfl (Or.inl rfl))) (fun _ _ _ _ _ => pts_nil) (by decide))
  (pss_one (ps_ret (pe_call (ok_first_row_out T) (hr.mono (by decide)) (by rfl) T.m_first_row_out T.k_first_row_out T.b_first_row_out .nil passL (pa_cons (pv 4) (pa_cons (pe_tup (pa_cons pe_int (pa_cons pe_int pa_nil))) pa_nil))))))))))), ?_⟩
    walk_at "begin"
    walk_at "go"
    refine ⟨x1, dx1, _, rfl, hx1, ?_⟩
    walk_at "go"
    refine ⟨x2, dx2, _, rfl, hx2, ?_⟩
    walk_at "go"
    refine ⟨x1, m1, rfl, hm1, o1, fun d1 kv1 H1 z1 hd1 e1 mv1 => ?_⟩
    walk_at "go"
    refine ⟨x2, m2, rfl, hm2.same z1, o2, fun d2 kv2 H2 z2 hd2 e2 mv2 => ?_⟩
    replace mv1 := mv1.tups (same_tups z2)
    replace e1 := z2 _ _ e1
    replace z2 := z1.trans z2
    clear z1 hd1 hd2
    walk_at "go"
    refine k_dc2T ?_
    walk_at "go"
    refine ⟨x1, dx1, _, rfl, z2 _ _ hx1, x1, dx1, _, .int (m1.n : Nat), rfl, z2 _ _ hx1, rfl, ?_⟩
    walk_at "go"
    refine k_rg (by omega) (by omega) fun D hD => ?_
    refine it_gen walk_range (fun i H' => Same H2 H' ∧ ∃ kvs, H' D = some (.dT kvs) ∧ kvs.length ≤ i * m2.n ∧ ∀ a t : Nat, t < m2.n → a < i → ∃ q us, valV kvs (pk ((a : Int), (t : Int))) = some (.ref q) ∧ H' q = some (.lst us) ∧ EvAt H' us (mvP m1 m2 ((a : Int), (t : Int))))
      ⟨Same.new hD, [], upd_same, Nat.zero_le _, fun a t _ h => absurd h (Nat.not_lt_zero _)⟩ (fun _ _ _ _ => trivial) ?_ ?_
    · rintro i y H3 H3' hi1 ⟨z3, kvs, eD, lk, ents⟩ ⟨rfl, hy⟩
      have iN : i < m1.n := hi1
      have hy : y = V.int ((i : Nat) : Int) := by
        rw [hy]
        show V.int (0 + ((i : Nat) : Int)) = _
        congr 1
        omega
      subst hy
      walk_at "go"
      refine ⟨rfl, ?_⟩
      walk_at "go"
      refine iteT ?_
      walk_at "go"
      refine ⟨x2, dx2, _, rfl, (z2.trans z3) _ _ hx2, x2, dx2, _, .int (m2.n : Nat), rfl, (z2.trans z3) _ _ hx2, rfl, ?_⟩
      walk_at "go"
      refine k_rg (by omega) (by omega) ?_
      refine it_gen walk_range (fun j H' => Same H2 H' ∧ ∃ kvs, H' D = some (.dT kvs) ∧ kvs.length ≤ i * m2.n + j ∧ ∀ a t : Nat, t < m2.n → (a < i ∨ (a = i ∧ t < j)) → ∃ q us, valV kvs (pk ((a : Int), (t : Int))) = some (.ref q) ∧ H' q = some (.lst us) ∧ EvAt H' us (mvP m1 m2 ((a : Int), (t : Int))))
        ⟨z3, kvs, eD, lk, fun a t ht h => ents a t ht (h.elim id fun w => absurd w.2 (Nat.not_lt_zero _))⟩ (fun _ _ _ _ => trivial) ?_ ?_
      · clear ents lk eD z3
        rintro j y H4 H4' hj ⟨z4, kvs, eD, lk, ents⟩ ⟨rfl, hy⟩
        have jN : j < m2.n := hj
        have hy : y = V.int ((j : Nat) : Int) := by
          rw [hy]
          show V.int (0 + ((j : Nat) : Int)) = _
          congr 1
          omega
        subst hy
        walk_at "go"
        refine ⟨rfl, ?_⟩
        walk_at "go"
        refine iteT ?_
        walk_at "go"
        refine ⟨(by decide : 2 ≤ sizeLine), fun b hb => ?_⟩
        have zb := Same.new (o := .tup [V.int ((i : Nat) : Int), .int ((j : Nat) : Int)]) hb
        have zz := z4.trans zb
        walk_at "go"
        refine ⟨d1, d2, kv1, kv2, m1, m2, i, j, rfl, zz _ _ e1, mv1.tups (same_tups zz), zz _ _ e2, mv2.tups (same_tups zz), fun q us H5 z5 hq eq ev => ?_⟩
        have small : kvs.length < sizeLine := by
          have : i * m2.n ≤ 8 * 8 := Nat.mul_le_mul (by omega) (by omega)
          exact Nat.lt_of_le_of_lt (show _ ≤ 1000 by omega) (by decide)
        have eD3 := z5 _ _ (zb _ _ eD)
        refine ⟨kvs, pk (((i : Nat) : Int), ((j : Nat) : Int)), b, rfl, z5 _ _ upd_same, eD3, small, Same.mut (zz.trans z5) hD, _, upd_same, Nat.le_trans (length_putK _ _ _) (by omega), fun a t ht h => ?_⟩
        have nD : ∀ xs, H5 D ≠ some (.tup xs) := fun xs e => by rw [eD3] at e; cases e
        by_cases c : a = i ∧ t = j
        · obtain ⟨rfl, rfl⟩ := c
          have nq : q ≠ D := fun e => by rw [e, zb _ _ eD] at hq; cases hq
          exact ⟨q, us, by rw [valV_put, if_pos rfl], by rw [upd_ne nq]; exact eq, ev.put nD⟩
        · obtain ⟨q', us', v1, v2, v3⟩ := ents a t ht (by omega)
          have v2' := z5 _ _ (zb _ _ v2)
          have nq : q' ≠ D := fun e => by rw [e, eD] at v2; cases v2
          refine ⟨q', us', ?_, by rw [upd_ne nq]; exact v2', ((v3.same zb).same z5).put nD⟩
          rw [valV_put, if_neg (fun w => c ?_)]
          · exact v1
          · have := pk_inj w
            injection this with w1 w2
            exact ⟨by omega, by omega⟩
      · rintro H4 ⟨z4, kvs, eD, lk, ents⟩
        exact ⟨z4, kvs, eD, by rw [Nat.succ_mul]; exact lk, fun a t ht h => ents a t ht (by rw [Int.toNat_natCast]; omega)⟩
    · rintro H3 ⟨z3, kvs, eD, lk, ents⟩
      walk_at "go"
      refine ⟨(by decide : 2 ≤ sizeLine), fun b hb => ?_⟩
      have zb := Same.new (o := .tup [V.int 0, .int 0]) hb
      walk_at "go"
      refine ⟨D, b, mvP m1 m2, allQ m1.n m2.n, (0, 0), rfl, ⟨kvs, zb _ _ eD, fun p hp => ?_⟩, upd_same, allQ_mem.mpr ⟨0, 0, o1.n1, o2.n1, rfl⟩, mvP_closed o1 o2, ?_, mvP_len m1 m2, fun r H4 z4 B => ?_⟩
      · obtain ⟨a, t, ha, ht, rfl⟩ := allQ_mem.mp hp
        obtain ⟨q, us, v1, v2, v3⟩ := ents a t ht (by rw [Int.toNat_natCast]; omega)
        exact ⟨q, us, v1, zb _ _ v2, v3.same zb⟩
      · rw [allQ_len]
        exact Nat.le_trans (Nat.mul_le_mul a8 b8) (by decide)
      · walk_at "go"
        exact k r H4 (z2.trans ((z3.trans zb).trans z4)) B
end
/-! ### sorted(steps): tuples (int, text, int, int), no two of which begin alike -/
def ltS (s t : Stp) : Bool := decide (s.b < t.b ∨ (s.b = t.b ∧ s.c < t.c))
def prS (H : Hp) : Value → Stp
  | .ref b => match H b with
    | some (.tup [.int x, .str z, .int e, .int g]) => ⟨x.toNat, z.cps.toList.headD 0, e.toNat, g⟩
    | _ => ⟨0, 0, 0, 0⟩
  | _ => ⟨0, 0, 0, 0⟩
theorem prS_at {H : Hp} {b : Addr} {s : Stp} (h : H b = some (.tup (stpV s))) : prS H (.ref b) = s := by
  unfold prS
  simp only [h]
  rfl
def IsQ (h : Heap) (v : Value) (s : Stp) : Prop := ∃ a o t1 t2 t3 t4 n, v = .ref a ∧ h.get? a = some o ∧ o.cls = .type "tuple" ∧ o.data = .seq #[.int (s.b : Nat) t1, .str ⟨#[s.c]⟩ t2, .int (s.e : Nat) t3, .int s.g t4] n
theorem IsQ.keeps {h h' : Heap} {v : Value} {s : Stp} (p : IsQ h v s) (k : ∀ b o, h.get? b = some o → o.cls = .type "tuple" → h'.get? b = some o) : IsQ h' v s := by
  obtain ⟨a, o, t1, t2, t3, t4, n, e, ho, hc, hd⟩ := p
  exact ⟨a, o, t1, t2, t3, t4, n, e, k _ _ ho hc, hc, hd⟩
theorem swo_S (k : Value → Stp) : SrtO.Swo fun v u => ltS (k v) (k u) := by
  refine ⟨fun x y h => ?_, fun x y z h1 h2 => ?_⟩
  · have a := of_decide_eq_true (p := _ ∨ _) h
    exact decide_eq_false (by omega)
  · have a := of_decide_eq_false (p := _ ∨ _) h1
    have b := of_decide_eq_false (p := _ ∨ _) h2
    exact decide_eq_false (by omega)
section
open PySem.Spec PyProof.Rows SrtO Srt
variable {prog : Program} {w : World} {A : Around} {E : Value → Shared → Prop} {s : Shared}
theorem quad_cmp {vs : List Value} {k : Value → Stp} (hp : ∀ v ∈ vs, IsQ s.heap v (k v)) (un : ∀ v ∈ vs, ∀ u ∈ vs, (k v).b = (k u).b → (k v).c = (k u).c → k v = k u) : Cmp prog w A s (tuples' true) (fun p => p.1 ∈ vs) (lt2 fun v u => ltS (k v) (k u)) := by
  intro p q hm hm'
  have h1 := hp _ hm
  have h2 := hp _ hm'
  have u12 := un _ hm _ hm'
  show wpAny (model prog w) A (keyLt' (tuples' true) p.1 q.1) (fun r s' => s' = s ∧ r = ltS (k p.1) (k q.1)) (fun _ _ => False) s
  generalize k p.1 = x at h1 u12 ⊢
  generalize k q.1 = y at h2 u12 ⊢
  obtain ⟨a, o, t1, t2, t3, t4, n, e, ho, hc, hd⟩ := h1
  obtain ⟨a', o', r1, r2, r3, r4, n', e', ho', hc', hd'⟩ := h2
  rw [e, e']
  refine PySem.W.kat_lt ho hd ho' hd' ?_
  show PySem.W.KatLex prog w A true (decide (4 < 4)) _ [(.int (x.b : Nat) t1, .int (y.b : Nat) r1), (.str ⟨#[x.c]⟩ t2, .str ⟨#[y.c]⟩ r2), (.int (x.e : Nat) t3, .int (y.e : Nat) r3), (.int x.g t4, .int y.g r4)] 0 s
  refine PySem.W.kat_cons (SeqAt.EqAt.int_int (x.b : Nat) t1 (y.b : Nat) r1 prog w _ _ ?_)
  refine PySem.W.kat_go (fun e1 => ?_) (fun e1 => ?_)
  · have eb : x.b = y.b := by
      have : (x.b : Int) = (y.b : Int) := by simpa using e1
      omega
    refine PySem.W.kat_yes (PySem.W.kat_cons (SeqAt.EqAt.str_str ⟨#[x.c]⟩ t2 ⟨#[y.c]⟩ r2 prog w _ _ ?_))
    refine PySem.W.kat_go (fun e2 => ?_) (fun e2 => ?_)
    · have ec : x.c = y.c := by simpa using e2
      have exy := u12 eb ec
      subst exy
      have e3 : ltS x x = false := decide_eq_false (by omega)
      refine PySem.W.kat_yes (PySem.W.kat_cons (SeqAt.EqAt.int_int (x.e : Nat) t3 (x.e : Nat) r3 prog w _ _ ?_))
      refine PySem.W.kat_go (fun _ => ?_) (fun e4 => absurd e4 (by simp))
      refine PySem.W.kat_yes (PySem.W.kat_cons (SeqAt.EqAt.int_int x.g t4 x.g r4 prog w _ _ ?_))
      refine PySem.W.kat_go (fun _ => ?_) (fun e4 => absurd e4 (by simp))
      exact PySem.W.kat_yes (PySem.W.kat_nil ⟨rfl, e3.symm⟩)
    · have ec : ¬ x.c = y.c := by simpa using e2
      have e3 : decide (((⟨#[x.c]⟩ : Str).cps.toList) < ((⟨#[y.c]⟩ : Str).cps.toList)) = ltS x y := by
        unfold ltS
        rw [Bool.eq_iff_iff, decide_eq_true_iff, decide_eq_true_iff]
        constructor
        · intro h
          have h : [x.c] < [y.c] := h
          rcases List.cons_lt_cons_iff.mp h with h | ⟨_, h⟩
          · exact .inr ⟨eb, h⟩
          · exact absurd h (List.not_lt_nil _)
        · intro h
          exact (show [x.c] < [y.c] from List.cons_lt_cons_iff.mpr (.inl (by omega)))
      refine PySem.W.kat_no (PySem.W.kat_one _ _ (PyProof.Rows.lt_str ?_))
      exact (show s = s ∧ decide (((⟨#[x.c]⟩ : Str).cps.toList) < ((⟨#[y.c]⟩ : Str).cps.toList)) = ltS x y from ⟨rfl, e3⟩)
  · have eb : ¬ x.b = y.b := by
      have : ¬ (x.b : Int) = (y.b : Int) := by simpa using e1
      omega
    have e3 : decide ((x.b : Int) < (y.b : Int)) = ltS x y := by
      unfold ltS
      rw [Bool.eq_iff_iff, decide_eq_true_iff, decide_eq_true_iff]
      omega
    exact PySem.W.kat_no (oneLt_int ⟨rfl, e3⟩)
end
def StpsL (H : Hp) (us : List V) (ss : List Stp) : Prop := us.length = ss.length ∧ ∀ (i : Nat) (s : Stp), ss[i]? = some s → ∃ t, us[i]? = some (V.ref t) ∧ H t = some (.tup (stpV s))
open PySem.Spec PyProof.Rows Srt in
theorem cr_sortQ {X : L2.Cx} : CallR X (.builtin "sorted") (fun vs H Q => ∃ (a : Addr) (xs : List V) (ss : List Stp), vs = [V.ref a] ∧ SqL X.K H a xs ∧ StpsL H xs ss ∧ (∀ s ∈ ss, ∀ t ∈ ss, s.b = t.b → s.c = t.c → s = t) ∧
    ∀ (ys : List V) (zs : List Stp) (p : Addr), zs.Perm ss → zs.Pairwise (fun s t => ltS t s = false) → StpsL H ys zs → H p = none → Q (.ref p) (upd H p (.lst ys))) := by
  intro pins s σ H vs us Q I r h
  obtain ⟨a, xs, ss, rfl, hs, st, un, q⟩ := h
  obtain ⟨its, rv, hl, hz⟩ := I.list hs
  rw [Vals.ref1 r]
  have at' : ∀ (i : Nat) (x : V), xs[i]? = some x → ∃ t s, x = .ref t ∧ ss[i]? = some s ∧ H t = some (.tup (stpV s)) := fun i x hx => by
    have il : i < ss.length := by rw [← st.1]; exact (List.getElem?_eq_some_iff.mp hx).1
    have es : ss[i]? = some ss[i] := List.getElem?_eq_getElem il
    obtain ⟨t, e, ht⟩ := st.2 i _ es
    rw [hx] at e
    exact ⟨t, _, Option.some.inj e, es, ht⟩
  obtain ⟨e1, e2⟩ := refs_back rv fun x m => by
    obtain ⟨i, hi⟩ := List.getElem?_of_mem m
    obtain ⟨t, s, e, _⟩ := at' i x hi
    exact ⟨t, e⟩
  have each : ∀ (i : Nat) (v : Value), its[i]? = some v → ∃ t, v = .ref t ∧ ss[i]? = some (prS H v) ∧ H t = some (.tup (stpV (prS H v))) := fun i v hv => by
    obtain ⟨t, rfl⟩ := e2 v (List.mem_of_getElem? hv)
    obtain ⟨t', s, e, es, ht⟩ := at' i (.ref t) (by rw [e1, List.getElem?_map, hv]; rfl)
    cases e
    rw [prS_at ht]
    exact ⟨t, rfl, es, ht⟩
  have pair : ∀ v ∈ its, ∃ t, v = .ref t ∧ prS H v ∈ ss ∧ H t = some (.tup (stpV (prS H v))) := fun v hv => by
    obtain ⟨i, hi⟩ := List.getElem?_of_mem hv
    obtain ⟨t, e, es, ht⟩ := each i v hi
    exact ⟨t, e, List.mem_of_getElem? es, ht⟩
  have hmap : its.map (prS H) = ss := by
    apply List.ext_getElem?
    intro j
    rw [List.getElem?_map]
    cases hj : its[j]? with
    | none =>
      have l1 := congrArg List.length e1
      rw [List.length_map, st.1] at l1
      rw [List.getElem?_eq_none (by have := List.getElem?_eq_none_iff.mp hj; omega)]
      rfl
    | some v =>
      obtain ⟨t, _, es, _⟩ := each j v hj
      rw [es]
      rfl
  have isQ : ∀ v ∈ its, IsQ s.heap v (prS H v) := fun v hv => by
    obtain ⟨t, rfl, _, ht⟩ := pair v hv
    obtain ⟨_, its2, r2, o2, ho2, hc2, n2, hd2⟩ := I.hok _ _ ht
    generalize prS H (.ref t) = st' at r2 hd2 ⊢
    unfold stpV at r2
    cases r2 with
    | cons a1 r2 => cases r2 with
      | cons a2 r2 => cases r2 with
        | cons a3 r2 => cases r2 with
          | cons a4 r2 =>
            cases r2
            obtain ⟨t1, rfl⟩ := a1
            obtain ⟨t2, rfl⟩ := a2
            obtain ⟨t3, rfl⟩ := a3
            obtain ⟨t4, rfl⟩ := a4
            exact ⟨t, o2, t1, t2, t3, t4, n2, rfl, ho2, hc2, hd2⟩
  have un' : ∀ v ∈ its, ∀ u ∈ its, (prS H v).b = (prS H u).b → (prS H v).c = (prS H u).c → prS H v = prS H u := fun v hv u hu => by
    obtain ⟨_, _, m1, _⟩ := pair v hv
    obtain ⟨_, _, m2, _⟩ := pair u hu
    exact un _ m1 _ m2
  refine SrtO.sorted_ord (swo_S (prS H)) hl.isList (by rw [← rv.length]; exact hz) (fun h2 h₁ a' ha' kk h' keep => ?_) fun out h1 h2 => ?_
  · have isQ' : ∀ v ∈ its, IsQ h' v (prS H v) := fun v hv => (isQ v hv).keeps fun b o e c => keep b o (fun z => by
      subst z
      have := (kk _ _ e).1
      exact this rfl) (kk b o e).2
    obtain ⟨fs, f1, f2, f3⟩ : ∃ fs : List Value, PySem.W.KatTups h' its fs ∧ fs.length = its.length ∧ ∀ f ∈ fs, ∃ x t, f = Value.int x t := by
      clear h2 e1 e2 each pair hmap isQ un' rv hl keep kk ha'
      induction its with
      | nil => exact ⟨[], PySem.W.KatTups.nil, rfl, fun _ hm => by simp at hm⟩
      | cons v vs ih =>
        obtain ⟨fs, h1, h2, h3⟩ := ih fun v' hm => isQ' v' (List.mem_cons_of_mem _ hm)
        obtain ⟨a, o, t1, t2, t3, t4, n, e, ho, hc, hd⟩ := isQ' v List.mem_cons_self
        subst e
        refine ⟨.int _ t1 :: fs, PySem.W.KatTups.cons ho hc hd rfl h1, by rw [List.length_cons, List.length_cons, h2], fun f hm => ?_⟩
        rcases List.mem_cons.mp hm with rfl | hm
        · exact ⟨_, t1, rfl⟩
        · exact h3 f hm
    refine ⟨tuples' true, fun Q E hq => ?_, quad_cmp isQ' un'⟩
    refine PySem.W.kat_kind (T := .type "int") f1 (by omega) (fun f hm => ?_) (by rfl) ?_
    · obtain ⟨x, t, rfl⟩ := f3 f hm
      exact PySem.W.Looks.now
    · have e : (Value.type "int" != Value.type "tuple") = true := by first | decide +kernel | rfl | decide
      rw [e]
      exact hq
  · have h3 : ∀ u ∈ out, ∃ a, u = Value.ref a := fun u hu => e2 u (h2.perm.mem_iff.mp hu)
    obtain ⟨ep, he'⟩ := PyProof.Rows.sortedAll_at s.heap its out.toArray
    have hlen : (out.map backV).length ≤ sizeLine := by
      have e3 := congrArg List.length e1
      rw [List.length_map] at e3
      rw [List.length_map, h2.perm.length_eq, ← e3]
      exact hz
    refine ⟨.ref _, upd H (s.heap.objs.size + 1) (.lst (out.map backV)), I.laid (t' := s.toks) (fun _ _ => PyProof.Rows.sortedAll_old) (Nat.le_succ _) ⟨hlen, out, ep, vals_back h3, he'⟩, rfl, q _ (out.map (prS H)) _ ?_ ?_ ⟨by rw [List.length_map, List.length_map], fun i t ht => ?_⟩ (I.hok.fresh (Nat.le_succ _))⟩
    · have := h2.perm.map (prS H)
      rw [hmap] at this
      exact this
    · exact List.pairwise_map.mpr h1
    · rw [List.getElem?_map] at ht
      obtain ⟨v, hv, rfl⟩ := Option.map_eq_some_iff.mp ht
      obtain ⟨b, rfl, _, e⟩ := pair v (h2.perm.mem_iff.mp (List.mem_of_getElem? hv))
      exact ⟨b, by rw [List.getElem?_map, hv]; rfl, e⟩
/-! ### a machine that is often like another one -/
def sp_like (K : PySem.W.Frag) : Sp := fun vs H Q _ => ∃ (a d : Addr) (m : MD), vs = [.ref a, .ref d] ∧ RowOk K H a ∧ DAt K H d m ∧ m.Ok ∧ (∀ s ∈ m.ss, -3 ≤ s.g ∧ s.g ≤ 3) ∧
  ∀ (d' : Addr) (m' : MD) (H' : Hp), m'.Ok → DAt K H' d' m' → RowOk K H' a → Keep a H H' → Q (.ref d') H'
def turnN (n k : Nat) : Nat := if k = 0 then 0 else n - k
def turnS (n : Nat) (s : Stp) : Stp := ⟨turnN n s.b, s.c, turnN n s.e, s.g⟩
theorem turn_inj {n a b : Nat} (ha : a < n) (hb : b < n) (h : turnN n a = turnN n b) : a = b := by
  unfold turnN at h
  split at h <;> split at h <;> omega
theorem turn_lt {n a : Nat} (ha : a < n) : turnN n a < n := by
  unfold turnN
  split <;> omega
/-- no two begin alike -/
theorem MD.Ok.begins {m : MD} (o : m.Ok) : ∀ s ∈ m.ss, ∀ t ∈ m.ss, s.b = t.b → s.c = t.c → s = t := fun s hs t ht e1 e2 => by
  obtain ⟨i, hi⟩ := List.getElem?_of_mem hs
  obtain ⟨j, hj⟩ := List.getElem?_of_mem ht
  obtain ⟨il, ei⟩ := List.getElem?_eq_some_iff.mp hi
  obtain ⟨jl, ej⟩ := List.getElem?_eq_some_iff.mp hj
  rcases Nat.lt_trichotomy i j with h | h | h
  · have := List.pairwise_iff_getElem.mp o.up i j il jl h
    rw [ei, ej] at this
    rcases this with this | this <;> omega
  · subst h
    rw [ei] at ej
    exact ej
  · have := List.pairwise_iff_getElem.mp o.up j i jl il h
    rw [ei, ej] at this
    rcases this with this | this <;> omega
theorem turned_ok {m : MD} (o : m.Ok) {zs : List Stp} (hz : zs.Perm (m.ss.map (turnS m.n))) (hs : zs.Pairwise fun s t => ltS t s = false) : MD.Ok ⟨m.n, zs, []⟩ := by
  have mem : ∀ s ∈ zs, ∃ t ∈ m.ss, s = turnS m.n t := fun s hs => by
    obtain ⟨t, ht, e⟩ := List.mem_map.mp (hz.mem_iff.mp hs)
    exact ⟨t, ht, e.symm⟩
  have dis : zs.Pairwise fun s t => ¬ (s.b = t.b ∧ s.c = t.c) := by
    refine (List.Perm.pairwise_iff (fun {x y} h w => h ⟨w.1.symm, w.2.symm⟩) hz).mpr ?_
    rw [List.pairwise_map]
    refine o.up.imp_of_mem fun {s t} h1 h2 h w => ?_
    have e := turn_inj (o.ok s h1).b (o.ok t h2).b w.1
    have e2 : s.c = t.c := w.2
    rcases h with h | h <;> omega
  refine ⟨o.n1, o.n8, fun s hs => ?_, (hs.and dis).imp fun {s t} ⟨h1, h2⟩ => ?_, by show zs.length ≤ 32; rw [hz.length_eq, List.length_map]; exact o.len, fun e he => absurd he (by simp), .nil, Nat.zero_le _⟩
  · obtain ⟨t, ht, rfl⟩ := mem s hs
    have k := o.ok t ht
    exact ⟨turn_lt k.b, k.c, k.c', turn_lt k.e, k.g, k.g'⟩
  · have := of_decide_eq_false h1
    unfold Stp.lt
    omega
theorem one_ok {m : MD} (o : m.Ok) {ss : List Stp} (l : ss.length ≤ 32) (up : ss.Pairwise Stp.lt) (ok : ∀ s ∈ ss, s.Ok m.n) : MD.Ok ⟨m.n, ss, []⟩ := ⟨o.n1, o.n8, ok, up, l, fun e he => absurd he (by simp), .nil, Nat.zero_le _⟩
theorem set_up {ss : List Stp} {i : Nat} {s : Stp} (h : ss[i]? = some s) {e : Nat} {g : Int} (up : ss.Pairwise Stp.lt) : (ss.set i ⟨s.b, s.c, e, g⟩).Pairwise Stp.lt := by
  have e1 : (ss.set i ⟨s.b, s.c, e, g⟩).map (fun s => (s.b, s.c)) = ss.map fun s => (s.b, s.c) := by
    rw [List.map_set]
    apply List.ext_getElem?
    intro j
    rw [List.getElem?_set]
    split
    · rename_i hj
      subst hj
      obtain ⟨il, ei⟩ := List.getElem?_eq_some_iff.mp h
      rw [if_pos (by rw [List.length_map]; exact il), List.getElem?_map, h]
      rfl
    · rfl
  have gen : ∀ l : List Stp, l.Pairwise Stp.lt ↔ (l.map fun s => (s.b, s.c)).Pairwise fun x y => x.1 < y.1 ∨ (x.1 = y.1 ∧ x.2 < y.2) := fun l => by
    rw [List.pairwise_map]
    rfl
  rw [gen, e1, ← gen]
  exact up
def stD (s : Stp) : PyData := .tuple [.int (s.b : Nat), .str ⟨#[s.c]⟩, .int (s.e : Nat), .int s.g]
theorem dp_stps {K : PySem.W.Frag} {H : Hp} : ∀ {us : List V} {l : List Stp}, StpsAt K H us l → DpAll K H us (l.map stD)
  | [], [], _ => .nil
  | [], _ :: _, h => by have := h.1; simp at this
  | _ :: _, [], h => by have := h.1; simp at this
  | v :: us, s :: l, h => by
    obtain ⟨p, e, q⟩ := h.2 0 s rfl
    have ev : v = .ref p := Option.some.inj e
    subst ev
    exact .cons (.tup q (.cons (.int _) (.cons (.str _) (.cons (.int _) (.cons (.int _) .nil))))) (dp_stps (l := l) ⟨by have := h.1; simpa using this, fun i t et => h.2 (i + 1) t et⟩)
theorem st_shaped : ∀ {l : List Stp}, (∀ s ∈ l, s.c ≤ 100) → PyData.canLayAll0 (l.map stD) = true ∧ PyData.depthAll (l.map stD) ≤ 3
  | [], _ => ⟨rfl, Nat.zero_le _⟩
  | s :: l, h => by
    obtain ⟨h1, h2⟩ := st_shaped (l := l) fun t ht => h t (List.mem_cons_of_mem _ ht)
    have hc := h s List.mem_cons_self
    constructor
    · show (PyData.canLay0 (stD s) && PyData.canLayAll0 (l.map stD)) = true
      rw [h1, Bool.and_true]
      show (true && (((⟨#[s.c]⟩ : Str).cps.all (· < 0x110000)) && (true && (true && true)))) = true
      simp
      omega
    · show max (PyData.depth (stD s)) (PyData.depthAll (l.map stD)) ≤ 3
      have : PyData.depth (stD s) ≤ 3 := by
        show max _ (max _ (max _ _)) + 1 ≤ 3
        simp [PyData.depth, PyData.depthAll]
      omega
theorem st_sh {l : List Stp} (h : ∀ s ∈ l, s.c ≤ 100) : SeqAt.shaped (.list (l.map stD)) = true := by
  obtain ⟨h1, h2⟩ := st_shaped h
  show (PyData.canLayAll0 (l.map stD) && decide (PyData.depthAll (l.map stD) + 1 ≤ 64)) = true
  rw [h1, Bool.true_and]
  exact decide_eq_true (by omega)
theorem st_eqv (l : List Stp) : PyData.eqv (.list (l.map stD)) (.list []) = l.isEmpty := by
  cases l with
  | nil => rfl
  | cons s l => rfl
theorem stps_set {K : PySem.W.Frag} {H : Hp} {us : List V} {l : List Stp} {j : Nat} {p : Addr} {s : Stp} (h : StpsAt K H us l) (hp : SqT K H p (stpV s)) : StpsAt K H (us.set j (.ref p)) (l.set j s) := by
  refine ⟨by rw [List.length_set, List.length_set, h.1], fun i t e => ?_⟩
  rw [List.getElem?_set] at e
  split at e
  · rename_i c
    split at e
    · cases e
      exact ⟨p, by rw [List.getElem?_set, if_pos c, if_pos (by rw [h.1]; assumption)], hp⟩
    · cases e
  · rename_i c
    obtain ⟨q, a, b⟩ := h.2 i t e
    exact ⟨q, by rw [List.getElem?_set, if_neg c]; exact a, b⟩
theorem stps_erase {K : PySem.W.Frag} {H : Hp} {us : List V} {l : List Stp} (h : StpsAt K H us l) (j : Nat) : StpsAt K H (us.eraseIdx j) (l.eraseIdx j) := by
  refine ⟨by rw [List.length_eraseIdx, List.length_eraseIdx, h.1], fun i t e => ?_⟩
  rw [List.getElem?_eraseIdx] at e
  split at e
  · rename_i c
    obtain ⟨q, a, b⟩ := h.2 i t e
    exact ⟨q, by rw [List.getElem?_eraseIdx, if_pos c]; exact a, b⟩
  · rename_i c
    obtain ⟨q, a, b⟩ := h.2 (i + 1) t e
    exact ⟨q, by rw [List.getElem?_eraseIdx, if_neg c]; exact a, b⟩
theorem StpsL.nil {H : Hp} : StpsL H [] [] := ⟨rfl, fun i s e => by simp at e⟩
theorem StpsL.same {H H' : Hp} {us : List V} {l : List Stp} (h : StpsL H us l) (z : Same H H') : StpsL H' us l := ⟨h.1, fun i q e => let ⟨x, a, b⟩ := h.2 i q e; ⟨x, a, z _ _ b⟩⟩
theorem StpsL.put {H : Hp} {us : List V} {l : List Stp} {F : Addr} {o : HO} (h : StpsL H us l) (hF : ∀ xs, H F ≠ some (.tup xs)) : StpsL (upd H F o) us l := ⟨h.1, fun i q e => let ⟨x, a, b⟩ := h.2 i q e; ⟨x, a, tupl_upd hF b⟩⟩
theorem StpsL.snoc {H : Hp} {us : List V} {l : List Stp} {x : Addr} {q : Stp} (h : StpsL H us l) (hx : H x = some (.tup (stpV q))) : StpsL H (us ++ [V.ref x]) (l ++ [q]) := by
  refine ⟨by rw [List.length_append, List.length_append, h.1]; rfl, fun i t e => ?_⟩
  by_cases c : i < l.length
  · rw [List.getElem?_append_left c] at e
    obtain ⟨a, e1, q1⟩ := h.2 i t e
    exact ⟨a, by rw [List.getElem?_append_left (by rw [h.1]; exact c)]; exact e1, q1⟩
  · rw [List.getElem?_append_right (by omega)] at e
    have z : i - l.length = 0 := by
      have := (List.getElem?_eq_some_iff.mp e).1
      simp at this
      omega
    rw [z] at e
    cases e
    exact ⟨x, by rw [List.getElem?_append_right (by rw [h.1]; omega), h.1, z]; rfl, hx⟩
theorem StpsL.at_ {K : PySem.W.Frag} {H : Hp} {us : List V} {l : List Stp} (h : StpsL H us l) : StpsAt K H us l := ⟨h.1, fun i q e => let ⟨x, a, b⟩ := h.2 i q e; ⟨x, a, SqT.of b⟩⟩
def trnL (n : Nat) : List V := [V.int 0] ++ (List.range (n - 1)).map fun j : Nat => V.int ((n : Int) - (1 + (j : Int)))
theorem trnL_at {n k : Nat} (h : k < n) : (trnL n)[k]? = some (.int (turnN n k : Nat)) := by
  unfold trnL turnN
  cases k with
  | zero => rfl
  | succ k =>
    rw [List.getElem?_append_right (by simp)]
    simp only [List.length_singleton, Nat.add_sub_cancel]
    rw [List.getElem?_map, List.getElem?_range (by omega), if_neg (by omega)]
    show some (V.int ((n : Int) - (1 + (k : Int)))) = _
    congr 2
    omega
section
variable {P : Program} {w : World} {K : PySem.W.Frag} {mg : Str → Option Value} {base : Heap}
theorem ok_law_like (T : Txt K mg) : FnOk P w K mg base (L2.CX P w) 4 T.a_law_like T.fd_law_like ["_law_row", "_law_d"] (sp_like K) := by
  refine T.F_law_like.okX sc_law_like (fun vs H Q E h => ?_) (fun cdv A outer s H vs Q E hr h => ?_)
  · obtain ⟨a, d, m, rfl, _⟩ := h
    rfl
  · obtain ⟨a, d, m, rfl, R0, hd, o, hg, k⟩ := h
    have n8 := o.n8
    have n1 := o.n1
    refine ⟨_, (PSs.nox (pss_cons (ps_set (i := 2) sc_law_like.nd rfl (Or.inl rfl) (pe_call (ok_law_taken T) (hr.mono (by decide)) (by rfl) T.m_law_taken T.k_law_taken T.b_law_taken .nil passL (pa_cons (pv 0) (pa_cons pe_int pa_nil))))
  (pss_cons (ps_if (pt_cmpR op_eq (pv 2) pe_int (nomark _))
  (pss_one (ps_ret (pe_call (ok_law_parts T) (hr.mono (by decide)) (by rfl) T.m_law_parts T.k_law_parts T.b_law_parts .nil passL (pa_cons (pv 0) (pa_cons pe_int (pa_cons pe_int pa_nil))))))
  pss_nil)
  (pss_cons (ps_if (pt_cmpR op_eq (pv 2) pe_int (nomark _))
  (pss_cons (ps_set (i := 3) sc_law_like.nd rfl (Or.inr rfl) (pe_op op_cat (pe_lst (pa_cons pe_int pa_nil)) (pe_lc (own := [("_law_stand", 10)]) (g := (gName 10)) (tt := tYes) rfl sc_law_like.nd (pi_range2 (by rfl) T.z_range (pa_cons pe_int (pa_cons (pe_dget (hu_of hr) (pv 1) pe_str (fun _ _ => rfl)) pa_nil))) (blkOk_by (own := [("_law_stand", 10)]) (N := ["_law_row", "_law_d", "_law_kind", "_law_turned", "_law_steps", "_law_at", "_law_begun", "_law_letter", "_law_end", "_law_gain", "_law_stand"]) (sc := defScope s_law_like) (by decide +kernel)) (fun _ _ _ _ _ => (pg_name (i := 10) sc_law_like.nd rfl (Or.inl rfl))) (fun _ _ _ _ _ => pts_nil) (fun _ _ _ _ _ => (pe_op op_sub (pe_dget (hu_of hr) (pv 1) pe_str (fun _ _ => rfl)) (pv 10))))))
  (pss_cons (ps_set (i := 4) sc_law_like.nd rfl (Or.inl rfl) (pe_callB cr_sortQ (by rfl) T.z_sorted (by decide +kernel) (pa_cons (pe_lc (own := [("_law_begun", 6), ("_law_letter", 7), ("_law_end", 8), ("_law_gain", 9)]) (g := (gTup K 4 (gCons (gName 6) (gCons (gName 7) (gCons (gName 8) (gCons (gName 9) gNil)))))) (tt := tYes) rfl sc_law_like.nd (pi_tup (pe_dget (hu_of hr) (pv 1) pe_str (fun _ _ => rfl))) (blkOk_by (own := [("_law_begun", 6), ("_law_letter", 7), ("_law_end", 8), ("_law_gain", 9)]) (N := ["_law_row", "_law_d", "_law_kind", "_law_turned", "_law_steps", "_law_at", "_law_begun", "_law_letter", "_law_end", "_law_gain", "_law_stand"]) (sc := defScope s_law_like) (by decide +kernel)) (fun _ _ _ _ _ => (pg_tup rfl (pgs_cons (pg_name (i := 6) sc_law_like.nd rfl (Or.inl rfl)) (pgs_cons (pg_name (i := 7) sc_law_like.nd rfl (Or.inl rfl)) (pgs_cons (pg_name (i := 8) sc_law_like.nd rfl (Or.inl rfl)) (pgs_cons (pg_name (i := 9) sc_law_like.nd rfl (Or.inl rfl)) pgs_nil)))))) (fun _ _ _ _ _ => pts_nil) (fun _ _ _ _ _ => (pe_tup (pa_cons (pe_ix (show IxR _ (rIxL K) from ix_list) (pv 3) (pv 6) (fun _ _ => rfl)) (pa_cons (pv 7) (pa_cons (pe_ix (show IxR _ (rIxL K) from ix_list) (pv 3) (pv 8) (fun _ _ => rfl)) (pa_cons (pv 9) pa_nil))))))) pa_nil)))
  (pss_one (ps_ret (pe_disp (pps_cons pe_str (pe_dget (hu_of hr) (pv 1) pe_str (fun _ _ => rfl)) (pps_cons pe_str (pe_callTy call_tuple_of (by rfl) T.z_tuple PySem.Pv.boot_tuple (pa_cons (pv 4) pa_nil)) (pps_cons pe_str (pe_tup pa_nil) pps_nil))) (by rfl) (by rfl) (fun z => by cases z) (by decide))))))
  pss_nil)
  (pss_cons (ps_set (i := 4) sc_law_like.nd rfl (Or.inl rfl) (pe_callTy call_list_of (by rfl) T.z_list PySem.Pv.boot_list (pa_cons (pe_dget (hu_of hr) (pv 1) pe_str (fun _ _ => rfl)) pa_nil)))
  (pss_cons (ps_if (pt_cmpR (op_neD hr.units) (pv 4) (pe_lst pa_nil) (nomark _))
  (pss_cons (ps_set (i := 5) sc_law_like.nd rfl (Or.inl rfl) (pe_call (ok_law_taken T) (hr.mono (by decide)) (by rfl) T.m_law_taken T.k_law_taken T.b_law_taken .nil passL (pa_cons (pv 0) (pa_cons (pe_callB call_len_seq (by rfl) T.z_len PySem.boot_len (pa_cons (pv 4) pa_nil)) pa_nil))))
  (pss_cons (ps_asg (pe_ix ix_list (pv 4) (pv 5) (fun _ _ => rfl)) (pg_tup rfl (pgs_cons (pg_name (i := 6) sc_law_like.nd rfl (Or.inl rfl)) (pgs_cons (pg_name (i := 7) sc_law_like.nd rfl (Or.inl rfl)) (pgs_cons (pg_name (i := 8) sc_law_like.nd rfl (Or.inl rfl)) (pgs_cons (pg_name (i := 9) sc_law_like.nd rfl (Or.inl rfl)) pgs_nil))))))
  (pss_cons (ps_asg (pe_tup (pa_cons (pv 6) (pa_cons (pv 7) (pa_cons (pe_ix ix_list (pe_lst (pa_cons (pv 8) (pa_cons (pe_call (ok_law_taken T) (hr.mono (by decide)) (by rfl) T.m_law_taken T.k_law_taken T.b_law_taken .nil passL (pa_cons (pv 0) (pa_cons (pe_dget (hu_of hr) (pv 1) pe_str (fun _ _ => rfl)) pa_nil))) pa_nil))) (pe_call (ok_law_taken T) (hr.mono (by decide)) (by rfl) T.m_law_taken T.k_law_taken T.b_law_taken .nil passL (pa_cons (pv 0) (pa_cons pe_int pa_nil))) (fun _ _ => rfl)) (pa_cons (pe_op op_add (pv 9) (pe_call (ok_law_taken T) (hr.mono (by decide)) (by rfl) T.m_law_taken T.k_law_taken T.b_law_taken .nil passL (pa_cons (pv 0) (pa_cons pe_int pa_nil)))) pa_nil))))) (pg_sub (pv 4) (pv 5) set_list))
  (pss_one (ps_if (pt_cmpR op_eq (pv 2) pe_int (nomark _))
  (pss_one (ps_expr (pe_bm PySem.F.plainAttrs_list PySem.F.slot_list_pop PySem.F.type_list_pop mt_popAt (pv 4) (pa_cons (pe_call (ok_law_taken T) (hr.mono (by decide)) (by rfl) T.m_law_taken T.k_law_taken T.b_law_taken .nil passL (pa_cons (pv 0) (pa_cons (pe_callB call_len_seq (by rfl) T.z_len PySem.boot_len (pa_cons (pv 4) pa_nil)) pa_nil))) pa_nil))))
  pss_nil)))))
  pss_nil)
  (pss_one (ps_ret (pe_disp (pps_cons pe_str (pe_dget (hu_of hr) (pv 1) pe_str (fun _ _ => rfl)) (pps_cons pe_str (pe_callTy call_tuple_of (by rfl) T.z_tuple PySem.Pv.boot_tuple (pa_cons (pv 4) pa_nil)) (pps_cons pe_str (pe_tup pa_nil) pps_nil))) (by rfl) (by rfl) (fun z => by cases z) (by decide)))))))))), ?_⟩
    walk_at "begin"
    walk_at "go"
    refine ⟨a, 4, rfl, by decide, by decide, R0, fun kd H1 k0 k4 R1 K1 => ?_⟩
    obtain ⟨lr0, er0⟩ := R0.lst
    have hd1 := hd.keep K1 er0
    walk_at "go"
    refine k_ite (fun c0 => ?_) (fun c0 => ?_)
    · walk_at "go"
      refine ⟨a, 4, 1, rfl, by decide, by decide, by decide, by decide, R1, fun d' m' H2 o' hst hg' hd' R2 K2 hd0 => ?_⟩
      walk_at "go"
      exact k d' m' H2 o' hd' R2 (K1.trans K2)
    · obtain ⟨tt, u, ed, ⟨us, hs, hu⟩, hes⟩ := id hd1
      walk_at "go"
      refine k_ite (fun c1 => ?_) (fun c1 => ?_)
      · walk_at "go"
        refine ⟨(by decide : 1 ≤ sizeLine), fun p0 hp0 => ?_⟩
        have z0 := Same.new (o := .lst [V.int 0]) hp0
        have e0 := upd_same (H := H1) (a := p0) (o := .lst [V.int 0])
        generalize upd H1 p0 (.lst [V.int 0]) = H2 at z0 e0 ⊢
        walk_at "go"
        refine k_rng2 ?_
        walk_at "go"
        refine ⟨d, .int (m.n : Nat), rfl, DGet.k (k := .inr "stands") (z0 _ _ ed), ?_⟩
        walk_at "go"
        refine ⟨1, (m.n : Nat), rfl, ⟨by omega, by omega, by omega, by omega⟩, fun Lq hLq => ?_⟩
        refine lc_range (lo := 1) (n := (((m.n : Nat) : Int) - 1).toNat) (fun i H' => Same H2 H' ∧ H' Lq = some (.lst ((List.range i).map fun j : Nat => V.int (((m.n : Nat) : Int) - (1 + (j : Int)))))) ⟨Same.new hLq, upd_same⟩ ?_ ?_
        · rintro i H3 hi ⟨z3, e3⟩
          walk_at "go"
          refine ⟨rfl, ?_⟩
          walk_at "go"
          refine iteT ?_
          walk_at "go"
          refine ⟨d, .int (m.n : Nat), rfl, DGet.k (k := .inr "stands") ((z0.trans z3) _ _ ed), ?_⟩
          walk_at "go"
          refine ⟨_, e3, by rw [List.length_map, List.length_range]; exact Nat.lt_trans (show i < 8 by omega) (by decide), Same.mut z3 hLq, ?_⟩
          rw [upd_same, List.range_succ, List.map_append]
          rfl
        · rintro H3 ⟨z3, e3⟩
          have en : (((m.n : Nat) : Int) - 1).toNat = m.n - 1 := by omega
          rw [en] at e3
          walk_at "go"
          refine ⟨p0, Lq, _, _, rfl, rfl, z3 _ _ e0, e3, ?_, fun p3 hp3 => ?_⟩
          · rw [List.length_map, List.length_range]
            exact Nat.le_trans (show 1 + (m.n - 1) ≤ 8 by omega) (by decide)
          have z4 := Same.new (o := .lst (trnL m.n)) hp3
          have e4 := upd_same (H := H3) (a := p3) (o := .lst (trnL m.n))
          have zz := (z0.trans z3).trans z4
          show ({ nx := _, rt := _, bk := _, ct := _ } : Ends).nx _ (upd H3 p3 (.lst (trnL m.n)))
          generalize upd H3 p3 (.lst (trnL m.n)) = H4 at e4 zz ⊢
          clear z4 hp3 z3 e3 e0 z0 hLq hp0
          walk_at "go"
          refine ⟨d, .ref tt, rfl, DGet.k (k := .inr "steps") (zz _ _ ed), ?_⟩
          have lus := hu.1
          have l32 := o.len
          refine ⟨tt, rfl, ⟨us, (same_tups zz).sq hs⟩, fun L hL => ?_⟩
          refine lc_tup (xs := us) (fun i H' => ∃ vs, Same H4 H' ∧ H' L = some (.lst vs) ∧ StpsL H' vs ((m.ss.take i).map (turnS m.n))) ⟨[], Same.new hL, upd_same, StpsL.nil⟩ (fun _ H' _ ⟨_, z, _⟩ => (same_tups z).sq ((same_tups zz).sq hs)) ?_ ?_
          · rintro i y H5 hy ⟨vs, z5, eL, sl⟩
            have il : i < m.ss.length := by rw [← lus]; exact (List.getElem?_eq_some_iff.mp hy).1
            have es : m.ss[i]? = some (m.ss[i]'il) := List.getElem?_eq_getElem il
            have ok0 := o.ok _ (List.getElem_mem il)
            obtain ⟨q, eq, hq⟩ := hu.2 i _ es
            rw [hy] at eq
            cases eq
            have lv : vs.length < sizeLine := by
              rw [sl.1, List.length_map, List.length_take]
              exact Nat.lt_of_le_of_lt (show _ ≤ 32 by omega) (by decide)
            rw [show (m.ss.take (i + 1)).map (turnS m.n) = (m.ss.take i).map (turnS m.n) ++ [turnS m.n (m.ss[i]'il)] by rw [List.take_add_one, es, List.map_append]; rfl]
            generalize m.ss[i]'il = s0 at hq ok0
            refine k_gt ((same_tups (zz.trans z5)).sq hq) rfl ?_
            unfold stpV
            walk_at "go"
            refine ⟨by rfl, ?_⟩
            walk_at "go"
            refine k_yes rfl ?_
            walk_at "go"
            refine k_ixL (SqL.of (z5 _ _ e4)) (v := .int (turnN m.n s0.b : Nat)) (at_of (j := s0.b) rfl (trnL_at ok0.b)) ?_
            walk_at "go"
            refine k_ixL (SqL.of (z5 _ _ e4)) (v := .int (turnN m.n s0.e : Nat)) (at_of (j := s0.e) rfl (trnL_at ok0.e)) ?_
            walk_at "go"
            refine ⟨(by decide : 4 ≤ sizeLine), fun pn hpn => ?_⟩
            have z6 := Same.new (o := .tup [V.int (turnN m.n s0.b : Nat), .str ⟨#[s0.c]⟩, .int (turnN m.n s0.e : Nat), .int s0.g]) hpn
            have eL6 := z6 _ _ eL
            refine ⟨vs, eL6, lv, _, Same.mut (z5.trans z6) hL, upd_same, ?_⟩
            exact ((sl.same z6).snoc (q := turnS m.n s0) upd_same).put fun xs e => by rw [eL6] at e; cases e
          · rintro H5 ⟨vs, z5, eL, sl⟩
            rw [lus, List.take_length] at sl
            walk_at "go"
            refine ⟨L, vs, m.ss.map (turnS m.n), rfl, SqL.of eL, sl, ?_, fun ys zs p4 hz hso hst hp4 => ?_⟩
            · intro s1 h1 t1 h2 eb ec
              obtain ⟨s2, hs2, rfl⟩ := List.mem_map.mp h1
              obtain ⟨t2, ht2, rfl⟩ := List.mem_map.mp h2
              have := o.begins s2 hs2 t2 ht2 (turn_inj (o.ok s2 hs2).b (o.ok t2 ht2).b eb) ec
              rw [this]
            · have ok' := turned_ok o hz hso
              have z6 := Same.new (o := .lst ys) hp4
              have e6 := upd_same (H := H5) (a := p4) (o := .lst ys)
              have K6 : Keep a H1 (upd H5 p4 (.lst ys)) := Keep.of_same ((zz.trans z5).trans z6)
              have R6 : RowOk K (upd H5 p4 (.lst ys)) a := R1.same ((zz.trans z5).trans z6)
              have hd6 := hd1.same ((zz.trans z5).trans z6)
              have st6 : StpsAt K (upd H5 p4 (.lst ys)) ys zs := (hst.same z6).at_
              generalize upd H5 p4 (.lst ys) = H6 at e6 K6 R6 hd6 st6 ⊢
              replace K6 := K1.trans K6
              walk_at "go"
              intro d2 hd2
              have nad : a ≠ d2 := R6.ne hd2
              have hd20 : H d2 = none := K6.free nad.symm hd2
              obtain ⟨t6, u6, ed6, _⟩ := id hd6
              have z7 := Same.new (o := .dK []) hd2
              walk_at "go"
              refine ⟨d, .int (m.n : Nat), rfl, DGet.k (k := .inr "stands") (z7 _ _ ed6), ?_⟩
              walk_at "go"
              refine ⟨p4, ys, rfl, .inl ⟨SqL.of (z7 _ _ e6), fun t ht => ?_⟩⟩
              have z8 := Same.new (o := .tup ys) ht
              walk_at "go"
              refine ⟨Nat.zero_le _, fun u hu9 => ?_⟩
              have z9 := Same.new (o := .tup []) hu9
              have e9 := z9 _ _ (z8 _ _ (upd_same (H := H6) (a := d2) (o := .dK [])))
              have et := z9 _ _ (upd_same (a := t) (o := .tup ys) (H := upd H6 d2 (.dK [])))
              have eu := upd_same (a := u) (o := .tup []) (H := upd (upd H6 d2 (.dK [])) t (.tup ys))
              have zz9 := (z7.trans z8).trans z9
              generalize upd (upd (upd H6 d2 (.dK [])) t (.tup ys)) u (.tup []) = H9 at e9 et eu zz9 ⊢
              walk_at "go"
              refine ⟨e9, [(.inr "stands", .int (m.n : Nat)), (.inr "steps", .ref t), (.inr "ends", .ref u)], rfl, (by decide : 3 ≤ 15), ?_⟩
              rw [show mergeK [] [((.inr "stands" : Key), V.int (m.n : Nat)), (.inr "steps", .ref t), (.inr "ends", .ref u)] = [(.inr "stands", .int (m.n : Nat)), (.inr "steps", .ref t), (.inr "ends", .ref u)] from rfl]
              have t10 : Tups H9 (upd H9 d2 (.dK [(.inr "stands", .int (m.n : Nat)), (.inr "steps", .ref t), (.inr "ends", .ref u)])) := Tups.dk e9
              refine k d2 ⟨m.n, zs, []⟩ _ ok' ⟨t, u, upd_same, ⟨ys, t10.sq (SqT.of et), t10.steps ((same_tups zz9).steps st6)⟩, t10.sq (SqT.of eu)⟩ ?_ ((K6.trans (Keep.of_same zz9)).mut hd20)
              obtain ⟨sc, ns, i, z, r, e, q, rest⟩ := R6.same zz9
              refine ⟨sc, ns, i, z, r, by rw [upd_ne nad]; exact e, ?_, rest⟩
              rcases q with ⟨o, q⟩ | q
              · exact .inl ⟨o, by rw [upd_ne (fun z => by rw [z, e9] at q; cases q)]; exact q⟩
              · exact .inr q
      · walk_at "go"
        refine ⟨d, .ref tt, rfl, DGet.k (k := .inr "steps") ed, ?_⟩
        walk_at "go"
        refine ⟨tt, us, rfl, .inr hs, fun p4 hp4 => ?_⟩
        have nap := R1.ne hp4
        have z2 := Same.new (o := .lst us) hp4
        have e4 := upd_same (H := H1) (a := p4) (o := .lst us)
        have R2 := R1.same z2
        have hd2 := hd1.same z2
        have st2 := (same_tups z2).steps hu
        have K2 := K1.trans (Keep.of_same z2)
        generalize upd H1 p4 (.lst us) = H2 at z2 e4 R2 hd2 st2 K2 ⊢
        walk_at "go"
        refine ⟨Nat.zero_le _, fun p0 hp0 => ?_⟩
        have z3 := Same.new (o := .lst []) hp0
        have nap0 : a ≠ p4 := nap
        replace hd2 := hd2.same z3
        replace R2 := R2.same z3
        have e4' := z3 _ _ e4
        replace st2 := (same_tups z3).steps st2
        replace K2 := K2.trans (Keep.of_same z3)
        refine k_neD (.lst (SqL.of e4') (dp_stps st2)) (.lst (SqL.of upd_same) .nil) (st_sh fun s hs => (o.ok s hs).c') (by decide) ?_
        rw [st_eqv]
        generalize upd H2 p0 (.lst []) = H3 at e4' hd2 R2 st2 K2 ⊢
        clear z3 hp0 e4 z2
        walk_at "go"
        refine k_bool (fun c2 => ?_) (fun c2 => ?_)
        · have l1 : 1 ≤ m.ss.length := by
            cases q : m.ss with
            | nil => rw [q] at c2; cases c2
            | cons x l => simp
          have l2 := o.len
          have lus := st2.1
          walk_at "go"
          refine ⟨p4, us, rfl, .inl (SqL.of e4'), ?_⟩
          walk_at "go"
          refine ⟨a, _, rfl, by omega, by omega, R2, fun at_ H4 at0 atl R4 K4 => ?_⟩
          obtain ⟨j, rfl⟩ := Int.eq_ofNat_of_zero_le at0
          have jl : j < m.ss.length := by omega
          obtain ⟨lr2, er2⟩ := R2.lst
          have hd4 := hd2.keep K4 er2
          have e5 := K4 _ _ nap.symm e4'
          have st4 := (K4.tups er2).steps st2
          have K04 := K2.trans K4
          have es : m.ss[j]? = some (m.ss[j]'jl) := List.getElem?_eq_getElem jl
          have ok0 := o.ok _ (List.getElem_mem jl)
          have g0 := hg _ (List.getElem_mem jl)
          generalize m.ss[j]'jl = s0 at es ok0 g0
          obtain ⟨q, eq, hq⟩ := st4.2 j _ es
          clear K4 er2 lr2 R2 K2 st2 hd2 e4' H3
          walk_at "go"
          refine k_ixL (SqL.of e5) (v := .ref q) (at_of (j := j) rfl eq) ?_
          walk_at "go"
          refine k_gt hq rfl ?_
          unfold stpV
          walk_at "go"
          obtain ⟨t4, u4, ed4, _⟩ := id hd4
          refine ⟨d, .int (m.n : Nat), rfl, DGet.k (k := .inr "stands") ed4, ?_⟩
          walk_at "go"
          refine ⟨a, _, rfl, by omega, by omega, R4, fun x H5 x0 xn R5 K5 => ?_⟩
          obtain ⟨x, rfl⟩ := Int.eq_ofNat_of_zero_le x0
          obtain ⟨lr4, er4⟩ := R4.lst
          replace hd4 := hd4.keep K5 er4
          replace e5 := K5 _ _ nap.symm e5
          replace st4 := (K5.tups er4).steps st4
          replace K04 := K04.trans K5
          clear K5 er4 R4 ed4 hq
          walk_at "go"
          refine ⟨(by decide : 2 ≤ sizeLine), fun p5 hp5 => ?_⟩
          have n5 := R5.ne hp5
          have z5 := Same.new (o := .lst [V.int (s0.e : Nat), .int (x : Nat)]) hp5
          have el := upd_same (H := H5) (a := p5) (o := .lst [V.int (s0.e : Nat), .int (x : Nat)])
          replace hd4 := hd4.same z5
          replace e5 := z5 _ _ e5
          replace st4 := (same_tups z5).steps st4
          replace K04 := K04.trans (Keep.of_same z5)
          replace R5 := R5.same z5
          generalize upd H5 p5 (.lst [V.int (s0.e : Nat), .int (x : Nat)]) = H6 at el hd4 e5 st4 K04 R5 ⊢
          walk_at "go"
          refine ⟨a, 2, rfl, by decide, by decide, R5, fun y H7 y0 y2 R7 K7 => ?_⟩
          obtain ⟨lr4, er4⟩ := R5.lst
          replace hd4 := hd4.keep K7 er4
          replace e5 := K7 _ _ nap.symm e5
          replace st4 := (K7.tups er4).steps st4
          replace K04 := K04.trans K7
          replace el := K7 _ _ n5.symm el
          obtain ⟨e', he', elt⟩ : ∃ e' : Nat, atI [V.int (s0.e : Nat), .int (x : Nat)] y = some (.int (e' : Nat)) ∧ e' < m.n := by
            have : y = 0 ∨ y = 1 := by omega
            rcases this with rfl | rfl
            · exact ⟨s0.e, rfl, ok0.e⟩
            · exact ⟨x, rfl, by omega⟩
          refine k_ixL (SqL.of el) he' ?_
          clear el K7 er4 R5
          walk_at "go"
          refine ⟨a, 2, rfl, by decide, by decide, R7, fun v H8 v0 v2 R8 K8 => ?_⟩
          obtain ⟨lr4, er4⟩ := R7.lst
          replace hd4 := hd4.keep K8 er4
          replace e5 := K8 _ _ nap.symm e5
          replace st4 := (K8.tups er4).steps st4
          replace K04 := K04.trans K8
          clear K8 er4 R7
          walk_at "go"
          refine ⟨(by decide : 4 ≤ sizeLine), fun pn hpn => ?_⟩
          have z9 := Same.new (o := .tup [V.int (s0.b : Nat), .str ⟨#[s0.c]⟩, .int (e' : Nat), .int (s0.g + v)]) hpn
          have en := upd_same (H := H8) (a := pn) (o := .tup [V.int (s0.b : Nat), .str ⟨#[s0.c]⟩, .int (e' : Nat), .int (s0.g + v)])
          replace hd4 := hd4.same z9
          replace e5 := z9 _ _ e5
          replace st4 := (same_tups z9).steps st4
          replace K04 := K04.trans (Keep.of_same z9)
          replace R8 := R8.same z9
          generalize upd H8 pn (.tup [V.int (s0.b : Nat), .str ⟨#[s0.c]⟩, .int (e' : Nat), .int (s0.g + v)]) = H9 at en hd4 e5 st4 K04 R8 ⊢
          walk_at "go"
          refine k_setL e5 (j := j) (by unfold ixN; simp; omega) ?_
          have hp40 : H p4 = none := K1.free nap.symm hp4
          have R10 := R8.keep nap e5 (Keep.at_ (o := .lst (us.set j (.ref pn))))
          have hd10 := hd4.keep (Keep.at_ (o := .lst (us.set j (.ref pn)))) e5
          have K010 := K04.mut (o := .lst (us.set j (.ref pn))) hp40
          have st10 : StpsAt K (upd H9 p4 (.lst (us.set j (.ref pn)))) (us.set j (.ref pn)) (m.ss.set j ⟨s0.b, s0.c, e', s0.g + v⟩) := (Tups.lst e5).steps (stps_set st4 (SqT.of en))
          have e10 := upd_same (H := H9) (a := p4) (o := .lst (us.set j (.ref pn)))
          have ok1 : MD.Ok ⟨m.n, m.ss.set j ⟨s0.b, s0.c, e', s0.g + v⟩, []⟩ := one_ok o (by rw [List.length_set]; exact o.len) (set_up es o.up) fun s hs => by
            rcases List.mem_or_eq_of_mem_set hs with hs | rfl
            · exact o.ok s hs
            · exact ⟨ok0.b, ok0.c, ok0.c', elt, by show -(10 ^ 30) ≤ s0.g + v; omega, by show s0.g + v ≤ 10 ^ 30; omega⟩
          have lz : (m.ss.set j ⟨s0.b, s0.c, e', s0.g + v⟩).length = m.ss.length := List.length_set
          generalize m.ss.set j ⟨s0.b, s0.c, e', s0.g + v⟩ = zs1 at st10 ok1 lz
          have lu : (us.set j (.ref pn)).length = m.ss.length := by rw [List.length_set]; exact lus
          generalize us.set j (.ref pn) = us1 at R10 hd10 K010 st10 e10 lu ⊢
          generalize upd H9 p4 (.lst us1) = H10 at R10 hd10 K010 st10 e10 ⊢
          walk_at "go"
          refine k_ite (fun c3 => ?_) (fun c3 => ?_)
          · walk_at "go"
            refine ⟨.inl ⟨rfl, _, SqL.of e10⟩, ?_⟩
            walk_at "go"
            refine ⟨p4, us1, rfl, .inl (SqL.of e10), ?_⟩
            walk_at "go"
            refine ⟨a, _, rfl, by omega, by omega, R10, fun i H11 i0 i1 R11 K11 => ?_⟩
            obtain ⟨i, rfl⟩ := Int.eq_ofNat_of_zero_le i0
            have il : i < us1.length := by omega
            obtain ⟨lr4, er4⟩ := R10.lst
            have hd11 := hd10.keep K11 er4
            have e11 := K11 _ _ nap.symm e10
            have st11 := (K11.tups er4).steps st10
            have K011 := K010.trans K11
            walk_at "go"
            refine ⟨p4, us1, (i : Int), i, us1[i]'il, rfl, rfl, e11, by omega, by omega, (ixN_seq (n := us1.length) (i := (i : Int)) (j := i) (by unfold ixN; simp; omega)).1, List.getElem?_eq_getElem il, ?_⟩
            have e6 := upd_same (H := H11) (a := p4) (o := .lst (us1.eraseIdx i))
            have R6 := R11.keep nap e11 (Keep.at_ (o := .lst (us1.eraseIdx i)))
            have hd6 := hd11.keep (Keep.at_ (o := .lst (us1.eraseIdx i))) e11
            have K6 := K011.mut (o := .lst (us1.eraseIdx i)) hp40
            have st6 : StpsAt K (upd H11 p4 (.lst (us1.eraseIdx i))) (us1.eraseIdx i) (zs1.eraseIdx i) := (Tups.lst e11).steps (stps_erase st11 i)
            have ok' : MD.Ok ⟨m.n, zs1.eraseIdx i, []⟩ := one_ok ok1 (Nat.le_trans (List.length_eraseIdx_le _ _) ok1.len) (ok1.up.sublist (List.eraseIdx_sublist _ _)) fun s hs => ok1.ok s (List.mem_of_mem_eraseIdx hs)
            generalize us1.eraseIdx i = ys at e6 R6 hd6 K6 st6 ⊢
            generalize zs1.eraseIdx i = zs at st6 ok'
            generalize upd H11 p4 (.lst ys) = H6 at e6 R6 hd6 K6 st6 ⊢
            walk_at "go"
            intro d2 hd2
            have nad : a ≠ d2 := R6.ne hd2
            have hd20 : H d2 = none := K6.free nad.symm hd2
            obtain ⟨t6, u6, ed6, _⟩ := id hd6
            have z7 := Same.new (o := .dK []) hd2
            walk_at "go"
            refine ⟨d, .int (m.n : Nat), rfl, DGet.k (k := .inr "stands") (z7 _ _ ed6), ?_⟩
            walk_at "go"
            refine ⟨p4, ys, rfl, .inl ⟨SqL.of (z7 _ _ e6), fun t ht => ?_⟩⟩
            have z8 := Same.new (o := .tup ys) ht
            walk_at "go"
            refine ⟨Nat.zero_le _, fun u hu9 => ?_⟩
            have z9 := Same.new (o := .tup []) hu9
            have e9 := z9 _ _ (z8 _ _ (upd_same (H := H6) (a := d2) (o := .dK [])))
            have et := z9 _ _ (upd_same (a := t) (o := .tup ys) (H := upd H6 d2 (.dK [])))
            have eu := upd_same (a := u) (o := .tup []) (H := upd (upd H6 d2 (.dK [])) t (.tup ys))
            have zz9 := (z7.trans z8).trans z9
            generalize upd (upd (upd H6 d2 (.dK [])) t (.tup ys)) u (.tup []) = H9 at e9 et eu zz9 ⊢
            walk_at "go"
            refine ⟨e9, [(.inr "stands", .int (m.n : Nat)), (.inr "steps", .ref t), (.inr "ends", .ref u)], rfl, (by decide : 3 ≤ 15), ?_⟩
            rw [show mergeK [] [((.inr "stands" : Key), V.int (m.n : Nat)), (.inr "steps", .ref t), (.inr "ends", .ref u)] = [(.inr "stands", .int (m.n : Nat)), (.inr "steps", .ref t), (.inr "ends", .ref u)] from rfl]
            have t10 : Tups H9 (upd H9 d2 (.dK [(.inr "stands", .int (m.n : Nat)), (.inr "steps", .ref t), (.inr "ends", .ref u)])) := Tups.dk e9
            refine k d2 ⟨m.n, zs, []⟩ _ ok' ⟨t, u, upd_same, ⟨ys, t10.sq (SqT.of et), t10.steps ((same_tups zz9).steps st6)⟩, t10.sq (SqT.of eu)⟩ ?_ ((K6.trans (Keep.of_same zz9)).mut hd20)
            obtain ⟨sc, ns, i, z, r, e, q, rest⟩ := R6.same zz9
            refine ⟨sc, ns, i, z, r, by rw [upd_ne nad]; exact e, ?_, rest⟩
            rcases q with ⟨o, q⟩ | q
            · exact .inl ⟨o, by rw [upd_ne (fun z => by rw [z, e9] at q; cases q)]; exact q⟩
            · exact .inr q
          · walk_at "go"
            obtain ⟨ys, eys⟩ : ∃ z, z = us1 := ⟨_, rfl⟩
            obtain ⟨zs, ezs⟩ : ∃ z, z = zs1 := ⟨_, rfl⟩
            have ok' : MD.Ok ⟨m.n, zs, []⟩ := by rw [ezs]; exact ok1
            have e6 : H10 p4 = some (.lst ys) := by rw [eys]; exact e10
            have st6 : StpsAt K H10 ys zs := by rw [eys, ezs]; exact st10
            have K6 := K010
            have R6 := R10
            have hd6 := hd10
            generalize H10 = H6 at e6 st6 K6 R6 hd6 ⊢
            intro d2 hd2
            have nad : a ≠ d2 := R6.ne hd2
            have hd20 : H d2 = none := K6.free nad.symm hd2
            obtain ⟨t6, u6, ed6, _⟩ := id hd6
            have z7 := Same.new (o := .dK []) hd2
            walk_at "go"
            refine ⟨d, .int (m.n : Nat), rfl, DGet.k (k := .inr "stands") (z7 _ _ ed6), ?_⟩
            walk_at "go"
            refine ⟨p4, ys, rfl, .inl ⟨SqL.of (z7 _ _ e6), fun t ht => ?_⟩⟩
            have z8 := Same.new (o := .tup ys) ht
            walk_at "go"
            refine ⟨Nat.zero_le _, fun u hu9 => ?_⟩
            have z9 := Same.new (o := .tup []) hu9
            have e9 := z9 _ _ (z8 _ _ (upd_same (H := H6) (a := d2) (o := .dK [])))
            have et := z9 _ _ (upd_same (a := t) (o := .tup ys) (H := upd H6 d2 (.dK [])))
            have eu := upd_same (a := u) (o := .tup []) (H := upd (upd H6 d2 (.dK [])) t (.tup ys))
            have zz9 := (z7.trans z8).trans z9
            generalize upd (upd (upd H6 d2 (.dK [])) t (.tup ys)) u (.tup []) = H9 at e9 et eu zz9 ⊢
            walk_at "go"
            refine ⟨e9, [(.inr "stands", .int (m.n : Nat)), (.inr "steps", .ref t), (.inr "ends", .ref u)], rfl, (by decide : 3 ≤ 15), ?_⟩
            rw [show mergeK [] [((.inr "stands" : Key), V.int (m.n : Nat)), (.inr "steps", .ref t), (.inr "ends", .ref u)] = [(.inr "stands", .int (m.n : Nat)), (.inr "steps", .ref t), (.inr "ends", .ref u)] from rfl]
            have t10 : Tups H9 (upd H9 d2 (.dK [(.inr "stands", .int (m.n : Nat)), (.inr "steps", .ref t), (.inr "ends", .ref u)])) := Tups.dk e9
            refine k d2 ⟨m.n, zs, []⟩ _ ok' ⟨t, u, upd_same, ⟨ys, t10.sq (SqT.of et), t10.steps ((same_tups zz9).steps st6)⟩, t10.sq (SqT.of eu)⟩ ?_ ((K6.trans (Keep.of_same zz9)).mut hd20)
            obtain ⟨sc, ns, i, z, r, e, q, rest⟩ := R6.same zz9
            refine ⟨sc, ns, i, z, r, by rw [upd_ne nad]; exact e, ?_, rest⟩
            rcases q with ⟨o, q⟩ | q
            · exact .inl ⟨o, by rw [upd_ne (fun z => by rw [z, e9] at q; cases q)]; exact q⟩
            · exact .inr q
        · walk_at "go"
          obtain ⟨ys, eys⟩ : ∃ z, z = us := ⟨_, rfl⟩
          obtain ⟨zs, ezs⟩ : ∃ z, z = m.ss := ⟨_, rfl⟩
          have ok' : MD.Ok ⟨m.n, zs, []⟩ := by rw [ezs]; exact one_ok o o.len o.up o.ok
          have e6 : H3 p4 = some (.lst ys) := by rw [eys]; exact e4'
          have st6 : StpsAt K H3 ys zs := by rw [eys, ezs]; exact st2
          have K6 := K2
          have R6 := R2
          have hd6 := hd2
          generalize H3 = H6 at e6 st6 K6 R6 hd6 ⊢
          intro d2 hd2
          have nad : a ≠ d2 := R6.ne hd2
          have hd20 : H d2 = none := K6.free nad.symm hd2
          obtain ⟨t6, u6, ed6, _⟩ := id hd6
          have z7 := Same.new (o := .dK []) hd2
          walk_at "go"
          refine ⟨d, .int (m.n : Nat), rfl, DGet.k (k := .inr "stands") (z7 _ _ ed6), ?_⟩
          walk_at "go"
          refine ⟨p4, ys, rfl, .inl ⟨SqL.of (z7 _ _ e6), fun t ht => ?_⟩⟩
          have z8 := Same.new (o := .tup ys) ht
          walk_at "go"
          refine ⟨Nat.zero_le _, fun u hu9 => ?_⟩
          have z9 := Same.new (o := .tup []) hu9
          have e9 := z9 _ _ (z8 _ _ (upd_same (H := H6) (a := d2) (o := .dK [])))
          have et := z9 _ _ (upd_same (a := t) (o := .tup ys) (H := upd H6 d2 (.dK [])))
          have eu := upd_same (a := u) (o := .tup []) (H := upd (upd H6 d2 (.dK [])) t (.tup ys))
          have zz9 := (z7.trans z8).trans z9
          generalize upd (upd (upd H6 d2 (.dK [])) t (.tup ys)) u (.tup []) = H9 at e9 et eu zz9 ⊢
          walk_at "go"
          refine ⟨e9, [(.inr "stands", .int (m.n : Nat)), (.inr "steps", .ref t), (.inr "ends", .ref u)], rfl, (by decide : 3 ≤ 15), ?_⟩
          rw [show mergeK [] [((.inr "stands" : Key), V.int (m.n : Nat)), (.inr "steps", .ref t), (.inr "ends", .ref u)] = [(.inr "stands", .int (m.n : Nat)), (.inr "steps", .ref t), (.inr "ends", .ref u)] from rfl]
          have t10 : Tups H9 (upd H9 d2 (.dK [(.inr "stands", .int (m.n : Nat)), (.inr "steps", .ref t), (.inr "ends", .ref u)])) := Tups.dk e9
          refine k d2 ⟨m.n, zs, []⟩ _ ok' ⟨t, u, upd_same, ⟨ys, t10.sq (SqT.of et), t10.steps ((same_tups zz9).steps st6)⟩, t10.sq (SqT.of eu)⟩ ?_ ((K6.trans (Keep.of_same zz9)).mut hd20)
          obtain ⟨sc, ns, i, z, r, e, q, rest⟩ := R6.same zz9
          refine ⟨sc, ns, i, z, r, by rw [upd_ne nad]; exact e, ?_, rest⟩
          rcases q with ⟨o, q⟩ | q
          · exact .inl ⟨o, by rw [upd_ne (fun z => by rw [z, e9] at q; cases q)]; exact q⟩
          · exact .inr q
end
/-! ### both in the other order; one beside itself -/
def sw (p : Pl) : Pl := (p.2, p.1)
theorem sw_inj {p q : Pl} (h : sw p = sw q) : p = q := by
  unfold sw at h
  exact Prod.ext (Prod.mk.inj h).2 (Prod.mk.inj h).1
theorem mvBoth_sw (a b : Option Stp) : mvBoth b a = (mvBoth a b).map fun q => q.map sw := by
  cases a with
  | none => cases b <;> rfl
  | some s =>
    cases b with
    | none => rfl
    | some t =>
      show some (if t.g = s.g then some ((t.e : Int), (s.e : Int)) else none) = some ((if s.g = t.g then some ((s.e : Int), (t.e : Int)) else none).map sw)
      by_cases c : s.g = t.g
      · rw [if_pos c, if_pos c.symm]; rfl
      · rw [if_neg c, if_neg (fun w => c w.symm)]; rfl
def swE (e : Wd × Option Pl) : Wd × Option Pl := (e.1, e.2.map sw)
def swL (e : Pl × Wd) : Pl × Wd := (sw e.1, e.2)
theorem mvP_sw (m1 m2 : MD) (p : Pl) : mvP m2 m1 (sw p) = (mvP m1 m2 p).map fun ce => (ce.1, ce.2.map sw) := by
  unfold mvP
  generalize ([97, 98, 99, 100] : List Nat) = cs
  induction cs with
  | nil => rfl
  | cons c cs ih =>
    rw [List.filterMap_cons, List.filterMap_cons]
    rw [show mvBoth (stpAt m2 (sw p).1 c) (stpAt m1 (sw p).2 c) = (mvBoth (stpAt m1 p.1 c) (stpAt m2 p.2 c)).map fun q => q.map sw from mvBoth_sw _ _]
    cases h : mvBoth (stpAt m1 p.1 c) (stpAt m2 p.2 c) with
    | none => exact ih
    | some q =>
      show (c, q.map sw) :: _ = _
      rw [ih]
      rfl
theorem evs_sw (m1 m2 : MD) (l : List (Pl × Wd)) : evs (mvP m2 m1) (l.map swL) = (evs (mvP m1 m2) l).map swE := by
  induction l with
  | nil => rfl
  | cons a l ih =>
    unfold evs at ih ⊢
    rw [List.map_cons, List.flatMap_cons, List.flatMap_cons, List.map_append, ih]
    show (mvP m2 m1 (sw a.1)).map _ ++ _ = _
    rw [mvP_sw, List.map_map, List.map_map]
    rfl
theorem proc_sw : ∀ (ev : List (Wd × Option Pl)) (s : List Pl) (l : List (Pl × Wd)), proc (ev.map swE) (s.map sw) (l.map swL) = match proc ev s l with
    | .inl w => .inl w
    | .inr (s', l') => .inr (s'.map sw, l'.map swL)
  | [], s, l => rfl
  | (w, none) :: r, s, l => rfl
  | (w, some e) :: r, s, l => by
    have mem : sw e ∈ s.map sw ↔ e ∈ s := by
      rw [List.mem_map]
      exact ⟨fun ⟨q, hq, h⟩ => by rw [← sw_inj h]; exact hq, fun h => ⟨e, h, rfl⟩⟩
    show (if sw e ∈ s.map sw then proc (r.map swE) (s.map sw) (l.map swL) else proc (r.map swE) (s.map sw ++ [sw e]) (l.map swL ++ [(sw e, w)])) = match (if e ∈ s then proc r s l else proc r (s ++ [e]) (l ++ [(e, w)])) with | .inl w => _ | .inr (s', l') => _
    by_cases c : e ∈ s
    · rw [if_pos (mem.mpr c), if_pos c]
      exact proc_sw r s l
    · rw [if_neg (fun h => c (mem.mp h)), if_neg c]
      have := proc_sw r (s ++ [e]) (l ++ [(e, w)])
      rw [List.map_append, List.map_append] at this
      exact this
theorem bfs_sw {m1 m2 : MD} {s : List Pl} {l : List (Pl × Wd)} {r : Option Wd} (h : Bfs (mvP m1 m2) s l r) : Bfs (mvP m2 m1) (s.map sw) (l.map swL) r := by
  induction h with
  | done => exact .done
  | @found s l w ne h =>
    refine .found (fun z => ne (List.map_eq_nil_iff.mp z)) ?_
    have := proc_sw (evs (mvP m1 m2) l) s []
    rw [h] at this
    rw [evs_sw]
    exact this
  | @next s s' l l' r ne h _ ih =>
    refine .next (fun z => ne (List.map_eq_nil_iff.mp z)) ?_ ih
    have := proc_sw (evs (mvP m1 m2) l) s []
    rw [h] at this
    rw [evs_sw]
    exact this
/-- a machine beside itself never comes apart -/
theorem mvP_self {m : MD} {p : Pl} (h : p.1 = p.2) : ∀ ce ∈ mvP m m p, ∃ q, ce.2 = some q ∧ q.1 = q.2 := fun ce hc => by
  obtain ⟨c, _, e⟩ := List.mem_filterMap.mp hc
  obtain ⟨v, hv, rfl⟩ := Option.map_eq_some_iff.mp e
  rw [h] at hv
  cases q : stpAt m p.2 c with
  | none => rw [q] at hv; cases hv
  | some s =>
    rw [q] at hv
    have hv : some (if s.g = s.g then some ((s.e : Int), (s.e : Int)) else none) = some v := hv
    rw [if_pos rfl] at hv
    cases hv
    exact ⟨_, rfl, rfl⟩
theorem proc_self : ∀ {ev : List (Wd × Option Pl)} {s : List Pl} {l : List (Pl × Wd)}, (∀ e ∈ ev, ∃ q, e.2 = some q ∧ q.1 = q.2) → (∀ pw ∈ l, pw.1.1 = pw.1.2) → ∃ s' l', proc ev s l = .inr (s', l') ∧ ∀ pw ∈ l', pw.1.1 = pw.1.2
  | [], s, l, _, hl => ⟨s, l, rfl, hl⟩
  | (w, none) :: r, s, l, h, _ => by obtain ⟨q, e, _⟩ := h _ List.mem_cons_self; cases e
  | (w, some e) :: r, s, l, h, hl => by
    obtain ⟨q, eq, hq⟩ := h _ List.mem_cons_self
    cases eq
    have hr : ∀ e ∈ r, ∃ q, e.2 = some q ∧ q.1 = q.2 := fun e he => h e (List.mem_cons_of_mem _ he)
    show ∃ s' l', (if e ∈ s then proc r s l else proc r (s ++ [e]) (l ++ [(e, w)])) = .inr (s', l') ∧ _
    by_cases c : e ∈ s
    · rw [if_pos c]
      exact proc_self hr hl
    · rw [if_neg c]
      refine proc_self hr fun pw hp => ?_
      rcases List.mem_append.mp hp with hp | hp
      · exact hl pw hp
      · rw [List.mem_singleton.mp hp]; exact hq
theorem bfs_self {m : MD} {s : List Pl} {l : List (Pl × Wd)} {r : Option Wd} (h : Bfs (mvP m m) s l r) (hl : ∀ pw ∈ l, pw.1.1 = pw.1.2) : r = none := by
  have ev : ∀ {l : List (Pl × Wd)}, (∀ pw ∈ l, pw.1.1 = pw.1.2) → ∀ e ∈ evs (mvP m m) l, ∃ q, e.2 = some q ∧ q.1 = q.2 := fun hl e he => by
    obtain ⟨pw, hp, h2⟩ := List.mem_flatMap.mp he
    obtain ⟨ce, hc, rfl⟩ := List.mem_map.mp h2
    exact mvP_self (hl pw hp) ce hc
  induction h with
  | done => rfl
  | found ne h =>
    obtain ⟨s', l', e, _⟩ := proc_self (l := []) (ev hl) (fun _ h => by cases h)
    rw [h] at e
    cases e
  | next ne h _ ih =>
    obtain ⟨s', l', e, d⟩ := proc_self (l := []) (ev hl) (fun _ h => by cases h)
    rw [h] at e
    cases e
    exact ih d
/-- the steps of a stand with a letter: one or none -/
theorem pick_one {m : MD} (o : m.Ok) (k c : Nat) : (fromS m k).filter (fun s => decide (s.c = c)) = (stpAt m (k : Int) c).toList := by
  unfold fromS stpAt
  rw [List.filter_filter]
  have e : (fun s : Stp => decide (s.c = c) && (s.b == k)) = fun s : Stp => decide ((s.b : Int) = (k : Int)) && decide (s.c = c) := by
    funext s
    rw [Bool.eq_iff_iff, Bool.and_eq_true, Bool.and_eq_true, decide_eq_true_iff, decide_eq_true_iff, beq_iff_eq]
    omega
  rw [e, ← List.head?_filter]
  have up : (m.ss.filter fun s : Stp => decide ((s.b : Int) = (k : Int)) && decide (s.c = c)).Pairwise Stp.lt := o.up.filter _
  have all : ∀ s ∈ (m.ss.filter fun s : Stp => decide ((s.b : Int) = (k : Int)) && decide (s.c = c)), s.b = k ∧ s.c = c := fun s hs => by
    have := (List.mem_filter.mp hs).2
    rw [Bool.and_eq_true, decide_eq_true_iff, decide_eq_true_iff] at this
    omega
  generalize (m.ss.filter fun s : Stp => decide ((s.b : Int) = (k : Int)) && decide (s.c = c)) = l at up all
  match l, up, all with
  | [], _, _ => rfl
  | [s], _, _ => rfl
  | s :: t :: l, up, all =>
    have h1 := all s (by simp)
    have h2 := all t (by simp)
    have h3 := (List.pairwise_cons.mp up).1 t (by simp)
    rcases h3 with h3 | h3 <;> omega
/-! ### words; the steps told as data -/
theorem bl_ne (b : Bool) : decide (V.bl (!b) = V.bl b) = false := by cases b <;> rfl
theorem sOf_fits {w : Wd} (h : w.length ≤ 100) : (sOf w).length ≤ sizeLine := by rw [sOf_len]; exact Nat.le_trans h (by decide)
theorem dp2 {K : PySem.W.Frag} {H : Hp} {p : Addr} {i j : Int} (h : SqT K H p [.int i, .int j]) : Dp K H (.ref p) (.tuple [.int i, .int j]) := .tup h (.cons (.int _) (.cons (.int _) .nil))
theorem eqv2 (i j : Int) : PyData.eqv (.tuple [.int i, .int j]) (.tuple [.int i, .int j]) = true := by
  show ((i == i) && ((j == j) && true)) = true
  simp
def nxD (s : Stp) : PyData := .tuple [.str ⟨#[s.c]⟩, .int (s.e : Nat), .int s.g]
theorem dp_nx {K : PySem.W.Frag} {H : Hp} : ∀ {us : List V} {ns : List Stp}, NxAt K H us ns → DpAll K H us (ns.map nxD)
  | [], [], _ => .nil
  | [], _ :: _, h => by have := h.1; simp at this
  | _ :: _, [], h => by have := h.1; simp at this
  | v :: us, s :: ns, h => by
    obtain ⟨p, e, q⟩ := h.2 0 s rfl
    have ev : v = .ref p := Option.some.inj e
    subst ev
    refine .cons (.tup q (.cons (.str _) (.cons (.int _) (.cons (.int _) .nil)))) (dp_nx (ns := ns) ⟨by have := h.1; simpa using this, fun i t et => h.2 (i + 1) t et⟩)
theorem nx_shaped : ∀ {ns : List Stp}, (∀ s ∈ ns, s.c ≤ 100) → PyData.canLayAll0 (ns.map nxD) = true ∧ PyData.depthAll (ns.map nxD) ≤ 3
  | [], _ => ⟨rfl, Nat.zero_le _⟩
  | s :: ns, h => by
    obtain ⟨h1, h2⟩ := nx_shaped (ns := ns) fun t ht => h t (List.mem_cons_of_mem _ ht)
    have hc := h s List.mem_cons_self
    constructor
    · show (PyData.canLay0 (nxD s) && PyData.canLayAll0 (ns.map nxD)) = true
      rw [h1, Bool.and_true]
      show ((#[s.c].all (· < 0x110000)) && (true && (true && true))) = true
      simp
      omega
    · show max (PyData.depth (nxD s)) (PyData.depthAll (ns.map nxD)) ≤ 3
      have : PyData.depth (nxD s) ≤ 3 := by
        show max _ (max _ (max _ _)) + 1 ≤ 3
        simp [PyData.depth, PyData.depthAll]
      omega
theorem nx_sh {ns : List Stp} (h : ∀ s ∈ ns, s.c ≤ 100) : SeqAt.shaped (.list (ns.map nxD)) = true := by
  obtain ⟨h1, h2⟩ := nx_shaped h
  show (PyData.canLayAll0 (ns.map nxD) && decide (PyData.depthAll (ns.map nxD) + 1 ≤ 64)) = true
  rw [h1, Bool.true_and]
  exact decide_eq_true (by omega)
theorem nx_eqv (ns : List Stp) : PyData.eqv (.list (ns.map nxD)) (.list []) = ns.isEmpty := by
  cases ns with
  | nil => rfl
  | cons s ns => rfl
/-! ### a level of the law's own search -/
def LvAt (H : Hp) (us : List V) (l : List (Pl × Wd)) : Prop := us.length = l.length ∧ ∀ (i : Nat) (pw : Pl × Wd), l[i]? = some pw → ∃ x, us[i]? = some (V.ref x) ∧ H x = some (.tup [.str (sOf pw.2), .int pw.1.1, .int pw.1.2])
theorem LvAt.same {H H' : Hp} {us : List V} {l : List (Pl × Wd)} (h : LvAt H us l) (z : Same H H') : LvAt H' us l := ⟨h.1, fun i pw e => let ⟨x, a, b⟩ := h.2 i pw e; ⟨x, a, z _ _ b⟩⟩
theorem LvAt.put {H : Hp} {us : List V} {l : List (Pl × Wd)} {F : Addr} {o : HO} (h : LvAt H us l) (hF : ∀ xs, H F ≠ some (.tup xs)) : LvAt (upd H F o) us l := ⟨h.1, fun i pw e => let ⟨x, a, b⟩ := h.2 i pw e; ⟨x, a, tupl_upd hF b⟩⟩
theorem LvAt.nil {H : Hp} : LvAt H [] [] := ⟨rfl, fun i pw e => by simp at e⟩
theorem LvAt.snoc {H : Hp} {us : List V} {l : List (Pl × Wd)} {x : Addr} {pw : Pl × Wd} (h : LvAt H us l) (hx : H x = some (.tup [.str (sOf pw.2), .int pw.1.1, .int pw.1.2])) : LvAt H (us ++ [V.ref x]) (l ++ [pw]) := by
  refine ⟨by rw [List.length_append, List.length_append, h.1]; rfl, fun i q e => ?_⟩
  by_cases c : i < l.length
  · rw [List.getElem?_append_left c] at e
    obtain ⟨a, e1, q1⟩ := h.2 i q e
    exact ⟨a, by rw [List.getElem?_append_left (by rw [h.1]; exact c)]; exact e1, q1⟩
  · rw [List.getElem?_append_right (by omega)] at e
    have z : i - l.length = 0 := by
      have := (List.getElem?_eq_some_iff.mp e).1
      simp at this
      omega
    rw [z] at e
    cases e
    exact ⟨x, by rw [List.getElem?_append_right (by rw [h.1]; omega), h.1, z]; rfl, hx⟩
def lvD (pw : Pl × Wd) : PyData := .tuple [.str (sOf pw.2), .int pw.1.1, .int pw.1.2]
theorem dp_lv {K : PySem.W.Frag} {H : Hp} : ∀ {us : List V} {l : List (Pl × Wd)}, LvAt H us l → DpAll K H us (l.map lvD)
  | [], [], _ => .nil
  | [], _ :: _, h => by have := h.1; simp at this
  | _ :: _, [], h => by have := h.1; simp at this
  | v :: us, s :: l, h => by
    obtain ⟨p, e, q⟩ := h.2 0 s rfl
    have ev : v = .ref p := Option.some.inj e
    subst ev
    exact .cons (.tup (SqT.of q) (.cons (.str _) (.cons (.int _) (.cons (.int _) .nil)))) (dp_lv (l := l) ⟨by have := h.1; simpa using this, fun i t et => h.2 (i + 1) t et⟩)
def Small (l : List (Pl × Wd)) : Prop := ∀ pw ∈ l, ∀ c ∈ pw.2, c ≤ 100
theorem lv_shaped : ∀ {l : List (Pl × Wd)}, Small l → PyData.canLayAll0 (l.map lvD) = true ∧ PyData.depthAll (l.map lvD) ≤ 3
  | [], _ => ⟨rfl, Nat.zero_le _⟩
  | s :: l, h => by
    obtain ⟨h1, h2⟩ := lv_shaped (l := l) fun t ht => h t (List.mem_cons_of_mem _ ht)
    have hc := h s List.mem_cons_self
    constructor
    · show (PyData.canLay0 (lvD s) && PyData.canLayAll0 (l.map lvD)) = true
      rw [h1, Bool.and_true]
      show (((sOf s.2).cps.all (· < 0x110000)) && (true && (true && true))) = true
      rw [Bool.and_self, Bool.and_self, Bool.and_true]
      have e : (sOf s.2).cps = s.2.toArray := rfl
      rw [e, List.all_toArray, List.all_eq_true]
      intro c hcc
      have := hc c hcc
      exact decide_eq_true (by omega)
    · show max (PyData.depth (lvD s)) (PyData.depthAll (l.map lvD)) ≤ 3
      have : PyData.depth (lvD s) ≤ 3 := by
        show max _ (max _ (max _ _)) + 1 ≤ 3
        simp [PyData.depth, PyData.depthAll]
      omega
theorem lv_sh {l : List (Pl × Wd)} (h : Small l) : SeqAt.shaped (.list (l.map lvD)) = true := by
  obtain ⟨h1, h2⟩ := lv_shaped h
  show (PyData.canLayAll0 (l.map lvD) && decide (PyData.depthAll (l.map lvD) + 1 ≤ 64)) = true
  rw [h1, Bool.true_and]
  exact decide_eq_true (by omega)
theorem lv_eqv (l : List (Pl × Wd)) : PyData.eqv (.list (l.map lvD)) (.list []) = l.isEmpty := by
  cases l with
  | nil => rfl
  | cons s l => rfl
/-- what the law's own search has behind some of a level's moves -/
def Mid (ev : List (Wd × Option Pl)) (s s2 : List Pl) (l2 : List (Pl × Wd)) : Option Wd → Prop
  | none => proc ev s [] = .inr (s2, l2)
  | some w => proc ev s [] = .inl w
theorem Mid.out {ev : List (Wd × Option Pl)} {s s2 : List Pl} {l2 : List (Pl × Wd)} {r : Option Wd} (h : Mid ev s s2 l2 r) (w : Wd) : Mid (ev ++ [(w, none)]) s s2 l2 (some (r.getD w)) := by
  cases r with
  | none =>
    show proc _ s [] = .inl w
    have h : proc ev s [] = .inr (s2, l2) := h
    rw [proc_app, h]
    rfl
  | some v =>
    show proc _ s [] = .inl v
    have h : proc ev s [] = .inl v := h
    rw [proc_app, h]
theorem Mid.old {ev : List (Wd × Option Pl)} {s s2 : List Pl} {l2 : List (Pl × Wd)} {r : Option Wd} (h : Mid ev s s2 l2 r) {w : Wd} {q : Pl} (hq : q ∈ s2) : Mid (ev ++ [(w, some q)]) s s2 l2 r := by
  cases r with
  | none =>
    show proc _ s [] = .inr (s2, l2)
    have h : proc ev s [] = .inr (s2, l2) := h
    rw [proc_app, h]
    show (if q ∈ s2 then proc [] s2 l2 else _) = _
    rw [if_pos hq]
    rfl
  | some v =>
    show proc _ s [] = .inl v
    have h : proc ev s [] = .inl v := h
    rw [proc_app, h]
theorem Mid.new {ev : List (Wd × Option Pl)} {s s2 : List Pl} {l2 : List (Pl × Wd)} {r : Option Wd} (h : Mid ev s s2 l2 r) {w : Wd} {q : Pl} (hq : q ∉ s2) : Mid (ev ++ [(w, some q)]) s (s2 ++ [q]) (l2 ++ [(q, w)]) r := by
  cases r with
  | none =>
    show proc _ s [] = .inr _
    have h : proc ev s [] = .inr (s2, l2) := h
    rw [proc_app, h]
    show (if q ∈ s2 then proc [] s2 l2 else _) = _
    rw [if_neg hq]
    rfl
  | some v =>
    show proc _ s [] = .inl v
    have h : proc ev s [] = .inl v := h
    rw [proc_app, h]
/-! ### the law -/
theorem Mid.stop {ev : List (Wd × Option Pl)} {s s2 : List Pl} {l2 : List (Pl × Wd)} {v : Wd} (h : Mid ev s s2 l2 (some v)) (e : List (Wd × Option Pl)) : Mid (ev ++ e) s s2 l2 (some v) := by
  show proc _ s [] = .inl v
  have h : proc ev s [] = .inl v := h
  rw [proc_app, h]
/-- what the letters so far do in both -/
def mvF (m1 m2 : MD) (p : Pl) (c : Nat) : Option (Nat × Option Pl) := (mvBoth (stpAt m1 p.1 c) (stpAt m2 p.2 c)).map fun q => (c, q)
def evF (m1 m2 : MD) (p : Pl) (w : Wd) (cs : List Nat) : List (Wd × Option Pl) := (cs.filterMap (mvF m1 m2 p)).map fun ce => (w ++ [ce.1], ce.2)
theorem evF_snoc (m1 m2 : MD) (p : Pl) (w : Wd) (cs : List Nat) (c : Nat) : evF m1 m2 p w (cs ++ [c]) = evF m1 m2 p w cs ++ ((mvF m1 m2 p c).map fun ce => (w ++ [ce.1], ce.2)).toList := by
  unfold evF
  rw [List.filterMap_append, List.map_append]
  congr 1
  rw [List.filterMap_cons]
  cases mvF m1 m2 p c <;> rfl
def letN : List Nat := [97, 98, 99, 100]
theorem opt_le {α : Type} (o : Option α) : o.toList.length ≤ 1 := by cases o <;> simp
theorem k_whN {c : Bool} {i : Nat} {v : V} {σ : L2.St} {H : Hp} {R : Bool → Hp → Prop} (e : σ[i]? = some (some v)) (h1 : c = true → v = .non → R true H) (h2 : (c = false ∨ v ≠ .non) → R false H) : if c = true then tB (tIsN (tVar i)) σ H R else R false H := by
  cases c with
  | false => exact iteF (h2 (.inl rfl))
  | true =>
    refine iteT ⟨v, e, _, rfl, ?_⟩
    by_cases d : v = .non
    · rw [decide_eq_true d]; exact h1 rfl d
    · rw [decide_eq_false d]; exact h2 (.inr d)
theorem evs_letters {m1 m2 : MD} {l : List (Pl × Wd)} {i : Nat} {p : Pl} {w : Wd} (h : l[i]? = some (p, w)) : evs (mvP m1 m2) (l.take (i + 1)) = evs (mvP m1 m2) (l.take i) ++ evF m1 m2 p w letN := evs_take h
def sp_law (K : PySem.W.Frag) : Sp := fun vs H Q _ => ∃ (sc : Addr) (ns : List Int), vs = [.ref sc] ∧ ScAt K H sc (ns.map V.int) ∧ ns.length ≤ 63 ∧ ∀ H', Q (.bl true) H'
section
variable {P : Program} {w : World} {K : PySem.W.Frag} {mg : Str → Option Value} {base : Heap}
theorem ok_law (T : Txt K mg) : FnOk P w K mg base (L2.CX P w) 20 T.a_law T.fd_law ["_law_script"] (sp_law K) := by
  refine T.F_law.okX sc_law (fun vs H Q E h => ?_) (fun cdv A outer s H vs Q E hr h => ?_)
  · obtain ⟨sc, ns, rfl, _⟩ := h
    rfl
  · obtain ⟨sc, ns, rfl, hsc, hns, k⟩ := h
    refine ⟨_, (PSs.nox (pss_cons (ps_set (i := 1) sc_law.nd rfl (Or.inl rfl) (pe_lst (pa_cons (pv 0) (pa_cons pe_int (pa_cons pe_int (pa_cons pe_int pa_nil))))))
  (pss_cons (ps_set (i := 2) sc_law.nd rfl (Or.inl rfl) (pe_call (ok_law_parts T) (hr.mono (by decide)) (by rfl) T.m_law_parts T.k_law_parts T.b_law_parts .nil passL (pa_cons (pv 1) (pa_cons (pe_ix ix_list (pe_lst (pa_cons pe_int (pa_cons pe_int pa_nil))) (pe_call (ok_law_taken T) (hr.mono (by decide)) (by rfl) T.m_law_taken T.k_law_taken T.b_law_taken .nil passL (pa_cons (pv 1) (pa_cons pe_int pa_nil))) (fun _ _ => rfl)) (pa_cons pe_int pa_nil)))))
  (pss_cons (ps_set (i := 3) sc_law.nd rfl (Or.inl rfl) (pe_call (ok_law_like T) (hr.mono (by decide)) (by rfl) T.m_law_like T.k_law_like T.b_law_like .nil passL (pa_cons (pv 1) (pa_cons (pv 2) pa_nil))))
  (pss_cons (ps_par3 (i := 4) (j := 5) (l := 6) (by rfl) sc_law.nd rfl rfl rfl (by decide) (by decide) (by decide) rfl rfl rfl (pa_cons pe_non (pa_cons (pe_lst (pa_cons (pe_tup (pa_cons pe_str (pa_cons pe_int (pa_cons pe_int pa_nil)))) pa_nil)) (pa_cons (pe_dispT (hu_of hr) (pe_tup (pa_cons pe_int (pa_cons pe_int pa_nil))) pe_bl) pa_nil))) (by rfl))
  (pss_cons (ps_while PassesOwn.never (PW.pt (pw_and (pt_cmpR (op_neD hr.units) (pv 5) (pe_lst pa_nil) (nomark _)) (pw_and1 (pt_cmp (pc_isN (pv 4))))))
  (pss_cons (ps_set (i := 7) sc_law.nd rfl (Or.inl rfl) (pe_lst pa_nil))
  (pss_cons (ps_for PassesOwn.never rfl (pi_list (pv 5)) (pg_tup rfl (pgs_cons (pg_name (i := 8) sc_law.nd rfl (Or.inl rfl)) (pgs_cons (pg_name (i := 9) sc_law.nd rfl (Or.inl rfl)) (pgs_cons (pg_name (i := 10) sc_law.nd rfl (Or.inl rfl)) pgs_nil))))
  (pss_one (ps_for PassesOwn.never rfl (pi_str pe_str) (pg_name (i := 11) sc_law.nd rfl (Or.inr rfl))
  (pss_cons (ps_setLc (i := 12) (own := [("_law_step", 16)]) (g := (gName 16)) rfl sc_law.nd rfl rfl (sw_true rfl rfl rfl (by decide +kernel)) (pi_list (pe_call (ok_law_next T) (hr.mono (by decide)) (by rfl) T.m_law_next T.k_law_next T.b_law_next .nil passL (pa_cons (pv 2) (pa_cons (pv 9) pa_nil)))) (blkOk_by (own := [("_law_step", 16)]) (N := ["_law_script", "_law_row", "_law_d", "_law_other", "_law_due", "_law_level", "_law_known", "_law_later", "_law_word", "_law_left", "_law_right", "_law_letter", "_law_here", "_law_there", "_law_one", "_law_two", "_law_step"]) (sc := defScope s_law) (by decide +kernel)) (fun _ _ _ _ _ => (pg_name (i := 16) sc_law.nd rfl (Or.inl rfl))) (fun _ _ _ _ _ => (pts_one (pt_cmpR op_eq (pe_ix (show IxR _ (rIxT K) from ix_tup) (pv 16) pe_int (fun _ _ => rfl)) (pv 11) (nomark _)))) (fun _ _ _ _ _ => (pv 16)))
  (pss_cons (ps_setLc (i := 13) (own := [("_law_step", 16)]) (g := (gName 16)) rfl sc_law.nd rfl rfl (sw_true rfl rfl rfl (by decide +kernel)) (pi_list (pe_call (ok_law_next T) (hr.mono (by decide)) (by rfl) T.m_law_next T.k_law_next T.b_law_next .nil passL (pa_cons (pv 3) (pa_cons (pv 10) pa_nil)))) (blkOk_by (own := [("_law_step", 16)]) (N := ["_law_script", "_law_row", "_law_d", "_law_other", "_law_due", "_law_level", "_law_known", "_law_later", "_law_word", "_law_left", "_law_right", "_law_letter", "_law_here", "_law_there", "_law_one", "_law_two", "_law_step"]) (sc := defScope s_law) (by decide +kernel)) (fun _ _ _ _ _ => (pg_name (i := 16) sc_law.nd rfl (Or.inl rfl))) (fun _ _ _ _ _ => (pts_one (pt_cmpR op_eq (pe_ix (show IxR _ (rIxT K) from ix_tup) (pv 16) pe_int (fun _ _ => rfl)) (pv 11) (nomark _)))) (fun _ _ _ _ _ => (pv 16)))
  (pss_cons (ps_if (PW.pt (pw_and (pt_cmp (pc_isN (pv 4))) (pw_and1 (pt_cmpR op_ne (pe_callB call_len_seq (by rfl) T.z_len PySem.boot_len (pa_cons (pv 12) pa_nil)) (pe_callB call_len_seq (by rfl) T.z_len PySem.boot_len (pa_cons (pv 13) pa_nil)) (nomark _)))))
  (pss_one (ps_set (i := 4) sc_law.nd rfl (Or.inl rfl) (pe_op op_add_str (pv 8) (pv 11))))
  pss_nil)
  (pss_one (ps_if (PW.pt (pw_and (pt_cmp (pc_isN (pv 4))) (pw_and1 (pt_cmpR (op_neD hr.units) (pv 12) (pe_lst pa_nil) (nomark _)))))
  (pss_one (ps_if (pt_cmpR op_ne (pe_ix ix_tup (pe_ix ix_list (pv 12) pe_int (fun _ _ => rfl)) pe_int (fun _ _ => rfl)) (pe_ix ix_tup (pe_ix ix_list (pv 13) pe_int (fun _ _ => rfl)) pe_int (fun _ _ => rfl)) (nomark _))
  (pss_one (ps_set (i := 4) sc_law.nd rfl (Or.inl rfl) (pe_op op_add_str (pv 8) (pv 11))))
  (pss_one (ps_if (pt_cmp (pc_dnotin (hu_of hr) (pe_tup (pa_cons (pe_ix ix_tup (pe_ix ix_list (pv 12) pe_int (fun _ _ => rfl)) pe_int (fun _ _ => rfl)) (pa_cons (pe_ix ix_tup (pe_ix ix_list (pv 13) pe_int (fun _ _ => rfl)) pe_int (fun _ _ => rfl)) pa_nil))) (pv 6)) (by rfl))
  (pss_cons (ps_dput (hu_of hr) (pv 6) (pe_tup (pa_cons (pe_ix ix_tup (pe_ix ix_list (pv 12) pe_int (fun _ _ => rfl)) pe_int (fun _ _ => rfl)) (pa_cons (pe_ix ix_tup (pe_ix ix_list (pv 13) pe_int (fun _ _ => rfl)) pe_int (fun _ _ => rfl)) pa_nil))) pe_bl rfl)
  (pss_one (ps_expr (pe_bm PySem.F.plainAttrs_list PySem.F.slot_list_append PySem.F.type_list_append mt_append (pv 7) (pa_cons (pe_tup (pa_cons (pe_op op_add_str (pv 8) (pv 11)) (pa_cons (pe_ix ix_tup (pe_ix ix_list (pv 12) pe_int (fun _ _ => rfl)) pe_int (fun _ _ => rfl)) (pa_cons (pe_ix ix_tup (pe_ix ix_list (pv 13) pe_int (fun _ _ => rfl)) pe_int (fun _ _ => rfl)) pa_nil)))) pa_nil)))))
  pss_nil))))
  pss_nil))))))))
  (pss_one (ps_set (i := 5) sc_law.nd rfl (Or.inl rfl) (pv 7))))))
  (pss_cons (ps_par (i := 14) (j := 15) (by rfl) sc_law.nd rfl rfl (by decide) rfl rfl (pa_cons (pe_call (ok_law_machine T) (hr.mono (by decide)) (by rfl) T.m_law_machine T.k_law_machine T.b_law_machine .nil passL (pa_cons (pv 2) pa_nil)) (pa_cons (pe_call (ok_law_machine T) (hr.mono (by decide)) (by rfl) T.m_law_machine T.k_law_machine T.b_law_machine .nil passL (pa_cons (pv 3) pa_nil)) pa_nil)) (by rfl))
  (pss_one (ps_ret (pe_and (pe_cmpR op_eq (pe_call (ok_first_apart T) (hr.mono (by decide)) (by rfl) T.m_first_apart T.k_first_apart T.b_first_apart .nil passL (pa_cons (pv 14) (pa_cons (pv 15) pa_nil))) (pv 4) (nomark _)) (pe_and (pe_cmpR op_eq (pe_call (ok_first_apart T) (hr.mono (by decide)) (by rfl) T.m_first_apart T.k_first_apart T.b_first_apart .nil passL (pa_cons (pv 15) (pa_cons (pv 14) pa_nil))) (pv 4) (nomark _)) (pe_one (pe_cmp (pc_isN (pe_call (ok_first_apart T) (hr.mono (by decide)) (by rfl) T.m_first_apart T.k_first_apart T.b_first_apart .nil passL (pa_cons (pv 14) (pa_cons (pv 14) pa_nil))))))))))))))))), ?_⟩
    walk_at "begin"
    walk_at "go"
    refine ⟨(by decide : 4 ≤ sizeLine), fun a ha => ?_⟩
    have R1 : RowOk K (upd H a (.lst [.ref sc, .int 0, .int 220, .int 0])) a := ⟨sc, ns, 0, 220, 0, upd_same, hsc.same (Same.new ha), hns, by decide, by decide, by decide⟩
    generalize upd H a (.lst [.ref sc, .int 0, .int 220, .int 0]) = H1 at R1 ⊢
    walk_at "go"
    refine ⟨(by decide : 2 ≤ sizeLine), fun p1 hp1 => ?_⟩
    have n1 := R1.ne hp1
    have R2 := R1.same (Same.new (o := .lst [V.int 4, .int 8]) hp1)
    walk_at "go"
    refine ⟨a, 2, rfl, by decide, by decide, R2, fun y1 H2 y10 y12 R3 K2 => ?_⟩
    have e1 : H2 p1 = some (.lst [V.int 4, .int 8]) := K2 _ _ n1.symm upd_same
    obtain ⟨st, hst, s1, s8⟩ : ∃ st : Nat, atI [V.int 4, .int 8] y1 = some (.int (st : Nat)) ∧ 1 ≤ st ∧ st ≤ 8 := by
      have : y1 = 0 ∨ y1 = 1 := by omega
      rcases this with rfl | rfl
      · exact ⟨4, rfl, by decide, by decide⟩
      · exact ⟨8, rfl, by decide, by decide⟩
    refine k_ixL (SqL.of e1) hst ?_
    walk_at "go"
    clear e1 K2 R2 R1 hst n1
    refine ⟨a, st, 1, rfl, s1, s8, by decide, by decide, R3, fun d m1 H4 o1 _ hg hd R6 K4 hd0 => ?_⟩
    clear K4 hd0 R3
    obtain ⟨lr6, er6⟩ := R6.lst
    walk_at "go"
    refine ⟨a, d, m1, rfl, R6, hd, o1, fun s hs => by have := hg s hs; omega, fun d2 m2 HB o2 hd2 R7 K5 => ?_⟩
    have hdB := hd.keep K5 er6
    clear K5 er6 hd R6 R7
    obtain ⟨mv, emv⟩ : ∃ mv, mv = mvP m1 m2 := ⟨_, rfl⟩
    walk_at "go"
    refine ⟨(by decide : 3 ≤ sizeLine), fun x hx => ?_⟩
    have zx := Same.new (o := .tup [V.str "", .int 0, .int 0]) hx
    walk_at "go"
    refine ⟨(by decide : 1 ≤ sizeLine), fun L hL => ?_⟩
    have zL := Same.new (o := .lst [V.ref x]) hL
    have lv0 : LvAt (upd (upd HB x (.tup [V.str "", .int 0, .int 0])) L (.lst [V.ref x])) [V.ref x] [((0, 0), [])] := LvAt.nil.snoc (pw := ((0, 0), [])) (zL _ _ upd_same)
    have hL0 : HB L = none := free_of zx hL
    have eL : (upd (upd HB x (.tup [V.str "", .int 0, .int 0])) L (.lst [V.ref x])) L = some (.lst [V.ref x]) := upd_same
    have z2 := zx.trans zL
    generalize upd (upd HB x (.tup [V.str "", .int 0, .int 0])) L (.lst [V.ref x]) = H2 at lv0 eL z2 ⊢
    clear zx zL hL hx
    walk_at "go"
    refine k_dispT fun S hS => ?_
    walk_at "go"
    have zS := Same.new (o := .dT []) hS
    have hS0 := free_of z2 hS
    have nLS : L ≠ S := ne_of_none eL hS
    refine ⟨(by decide : 2 ≤ sizeLine), fun t0 ht0 => ?_⟩
    have zt := Same.new (o := .tup [V.int 0, .int 0]) ht0
    walk_at "go"
    refine ⟨pk (0, 0), t0, rfl, upd_same, zt _ _ upd_same, ?_⟩
    have nS0 : ∀ xs, (upd (upd H2 S (.dT [])) t0 (.tup [V.int 0, .int 0])) S ≠ some (.tup xs) := fun xs e => by rw [zt _ _ upd_same] at e; cases e
    have lv1 := ((lv0.same zS).same zt).put (o := .dT [(pk (0, 0), .bl true)]) nS0
    have eL1 : (upd (upd (upd H2 S (.dT [])) t0 (.tup [V.int 0, .int 0])) S (.dT [(pk (0, 0), .bl true)])) L = some (.lst [V.ref x]) := by rw [upd_ne nLS]; exact zt _ _ (zS _ _ eL)
    have z1 : Same HB (upd (upd (upd H2 S (.dT [])) t0 (.tup [V.int 0, .int 0])) S (.dT [(pk (0, 0), .bl true)])) := Same.mut ((z2.trans zS).trans zt) hS0
    have eS1 : (upd (upd (upd H2 S (.dT [])) t0 (.tup [V.int 0, .int 0])) S (.dT [(pk (0, 0), .bl true)])) S = some (.dT (skv [(0, 0)])) := upd_same
    generalize upd (upd (upd H2 S (.dT [])) t0 (.tup [V.int 0, .int 0])) S (.dT [(pk (0, 0), .bl true)]) = H1 at lv1 eL1 z1 eS1 ⊢
    clear zS zt ht0 nS0 lv0 eL z2
    walk_at "go"
    have cl : ClosedM mv (allQ m1.n m2.n) := by rw [emv]; exact mvP_closed o1 o2
    have lP : (allQ m1.n m2.n).length ≤ 1000 := by
      rw [allQ_len]
      exact Nat.le_trans (Nat.mul_le_mul o1.n8 o2.n8) (by decide)
    have m0 : ((0, 0) : Pl) ∈ allQ m1.n m2.n := allQ_mem.mpr ⟨0, 0, o1.n1, o2.n1, rfl⟩
    refine k_whl (fun q σ H' => ∃ s l n L us r a7 a8 a9 a10 a11 a12 a13, q = (if r = none then 2 * (1000 - s.length) + (if l = [] then 0 else 1) else 0) ∧ Same HB H' ∧ H' S = some (.dT (skv s)) ∧ H' L = some (.lst us) ∧ HB L = none ∧ L ≠ S ∧ LvAt H' us l ∧ Small l ∧
        ((r = none ∧ Lay (allQ m1.n m2.n) s l n ∧ n + 1 ≤ s.length + (if l = [] then 1 else 0) ∧ (∀ r, Bfs mv s l r → Bfs mv [(0, 0)] [((0, 0), [])] r)) ∨ ∃ w, r = some w ∧ Bfs mv [(0, 0)] [((0, 0), [])] (some w)) ∧
        σ = [some (.ref sc), some (.ref a), some (.ref d), some (.ref d2), some (resV r), some (.ref L), some (.ref S), a7, a8, a9, a10, a11, a12, a13, none, none, none]) ?_ ?_ ?_
    · refine ⟨_, [(0, 0)], [((0, 0), [])], 0, L, _, none, _, _, _, _, _, _, _, rfl, z1, eS1, eL1, hL0, nLS, lv1, ?_, .inl ⟨rfl, ⟨by simp, fun p hp => by rw [List.mem_singleton.mp hp]; exact m0, fun pw hp => by rw [List.mem_singleton.mp hp]; exact ⟨m0, rfl⟩⟩, by simp, fun r h => h⟩, rfl⟩
      intro pw h c hc
      rw [List.mem_singleton.mp h] at hc
      cases hc
    · clear lv1 nLS hL0 eL1 eS1 z1 H1 L hS H2
      rintro q σ H2 ⟨s, l, n, L, us, r, a7, a8, a9, a10, a11, a12, a13, rfl, z, eS, eL, hL0, nLS, lv, sm, st, rfl⟩
      walk_at "go"
      refine ⟨(by decide : 0 ≤ sizeLine), fun e0 he0 => ?_⟩
      have ze := Same.new (o := .lst []) he0
      refine k_neD (Dp.lst (SqL.of (ze _ _ eL)) (dp_lv (lv.same ze))) (Dp.lst (SqL.of upd_same) .nil) (lv_sh sm) rfl ?_
      rw [lv_eqv]
      walk_at "go"
      have z := z.trans ze
      have eS := ze _ _ eS
      have eL := ze _ _ eL
      have lv := lv.same ze
      generalize upd H2 e0 (.lst []) = H3 at z eS eL lv ⊢
      clear ze he0
      refine k_whN rfl (fun c rn => ?_) (fun en => ?_)
      rotate_left
      · have due : Bfs mv [(0, 0)] [((0, 0), [])] r := by
          rcases st with ⟨rfl, LY, hn, pre⟩ | ⟨w0, rfl, due⟩
          · rcases en with c | d
            · cases l with
              | nil => exact pre _ .done
              | cons a b => cases c
            · exact absurd rfl d
          · exact due
        clear st sm lv eL eS hL0 nLS en
        refine iteF ?_
        walk_at "go"
        refine ⟨d, m1, rfl, hdB.same z, o1, fun x1 H4 z4 hx1 hm1 => ?_⟩
        walk_at "go"
        refine ⟨d2, m2, rfl, hd2.same (z.trans z4), o2, fun x2 H5 z5 hx2 hm2 => ?_⟩
        have hm1 := hm1.same z5
        walk_at "go"
        refine ⟨x1, x2, m1, m2, rfl, hm1, o1, hm2, o2, fun r' H6 z6 B => ?_⟩
        rw [emv] at due
        have e : r' = r := B.uniq due
        subst e
        walk_at "go"
        refine k_eq (by cases r' <;> rfl) ?_
        rw [decide_eq_true rfl]
        walk_at "go"
        refine iteT ?_
        walk_at "go"
        refine ⟨x2, x1, m2, m1, rfl, hm2.same z6, o2, hm1.same z6, o1, fun r2 H7 z7 B2 => ?_⟩
        have e : r2 = r' := B2.uniq (bfs_sw B)
        subst e
        walk_at "go"
        refine k_eq (by cases r2 <;> rfl) ?_
        rw [decide_eq_true rfl]
        walk_at "go"
        refine iteT ?_
        walk_at "go"
        refine ⟨x1, x1, m1, m1, rfl, hm1.same (z6.trans z7), o1, hm1.same (z6.trans z7), o1, fun r3 H8 z8 B3 => ?_⟩
        have e : r3 = none := bfs_self B3 (fun pw hp => by rw [List.mem_singleton.mp hp])
        subst e
        walk_at "go"
        show Q (V.bl (decide (resV none = V.non))) _
        rw [decide_eq_true (show resV none = V.non from rfl)]
        exact k _
      refine iteT ?_
      have rn : r = none := by
        cases r with
        | none => rfl
        | some w => cases rn
      have c : l ≠ [] := fun e => by rw [e] at c; cases c
      rcases st with ⟨_, LY, hn, pre⟩ | ⟨w0, e, _⟩
      rotate_left
      · rw [rn] at e; cases e
      subst rn
      have sP : s.length ≤ (allQ m1.n m2.n).length := nodup_sub LY.nd LY.sub
      rw [if_neg c] at hn
      walk_at "go"
      refine ⟨(by decide : 0 ≤ sizeLine), fun M hM => ?_⟩
      have hM0 := free_of z hM
      have nMS : M ≠ S := (ne_of_none eS hM).symm
      have nML : M ≠ L := (ne_of_none eL hM).symm
      have zM := Same.new (o := .lst []) hM
      walk_at "go"
      refine ⟨L, rfl, ⟨_, SqL.of (zM _ _ eL)⟩, for_list (xs := us) (fun i σ H' => ∃ s2 l2 us2 r a8 a9 a10 a11 a12 a13, Same HB H' ∧ H' S = some (.dT (skv s2)) ∧ H' M = some (.lst us2) ∧ LvAt H' us2 l2 ∧ H' L = some (.lst us) ∧ LvAt H' us l ∧ Small l2 ∧ s2.Nodup ∧ (∀ p ∈ s2, p ∈ allQ m1.n m2.n) ∧ l2.length ≤ s2.length ∧ Mid (evs mv (l.take i)) s s2 l2 r ∧
          σ = [some (.ref sc), some (.ref a), some (.ref d), some (.ref d2), some (resV r), some (.ref L), some (.ref S), some (.ref M), a8, a9, a10, a11, a12, a13, none, none, none])
        ⟨s, [], [], none, _, _, _, _, _, _, z.trans zM, zM _ _ eS, upd_same, LvAt.nil, zM _ _ eL, lv.same zM, (fun pw h => by cases h), LY.nd, LY.sub, Nat.zero_le _, rfl, rfl⟩ (fun i σ H' _ ⟨_, _, _, _, _, _, _, _, _, _, _, _, _, _, e, _⟩ => SqL.of e) ?_ ?_⟩
      · clear zM eS eL lv z
        rintro i y σ H4 hy ⟨s2, l2, us2, r, a8, a9, a10, a11, a12, a13, z4, eS4, eM4, lv2, eL4, lvL, sm2, nd2, sub2, len2, md, rfl⟩
        have il : i < l.length := by rw [← lvL.1]; exact (List.getElem?_eq_some_iff.mp hy).1
        have ei : l[i]? = some (l[i]'il) := List.getElem?_eq_getElem il
        obtain ⟨x, ex, hx⟩ := lvL.2 i _ ei
        rw [hy] at ex
        cases ex
        have lyi := LY.lay _ (List.getElem_mem il)
        have smi := sm _ (List.getElem_mem il)
        generalize l[i]'il = pw at hx lyi smi ei
        obtain ⟨pl, wo⟩ := pw
        obtain ⟨a0, t0, ha0, ht0, epl⟩ := allQ_mem.mp lyi.1
        have epl : pl = (((a0 : Nat) : Int), ((t0 : Nat) : Int)) := epl
        rw [emv, evs_letters ei]
        rw [emv] at md
        have lw : wo.length = n := lyi.2
        have n1000 : n < 1000 := by omega
        have hx : H4 x = some (.tup [.str (sOf wo), .int (a0 : Nat), .int (t0 : Nat)]) := by rw [epl] at hx; exact hx
        refine k_gt (SqT.of hx) rfl ?_
        walk_at "go"
        refine ⟨"abcd", rfl, for_it walk_str (fun j σ H' => ∃ s2 l2 us2 r a11 a12 a13, Same HB H' ∧ H' S = some (.dT (skv s2)) ∧ H' M = some (.lst us2) ∧ LvAt H' us2 l2 ∧ H' L = some (.lst us) ∧ LvAt H' us l ∧ Small l2 ∧ s2.Nodup ∧ (∀ p ∈ s2, p ∈ allQ m1.n m2.n) ∧ l2.length ≤ s2.length ∧
            Mid (evs (mvP m1 m2) (l.take i) ++ evF m1 m2 pl wo (letN.take j)) s s2 l2 r ∧
            σ = [some (.ref sc), some (.ref a), some (.ref d), some (.ref d2), some (resV r), some (.ref L), some (.ref S), some (.ref M), some (.str (sOf wo)), some (.int (a0 : Nat)), some (.int (t0 : Nat)), a11, a12, a13, none, none, none])
          ⟨s2, l2, us2, r, _, _, _, z4, eS4, eM4, lv2, eL4, lvL, sm2, nd2, sub2, len2, by rw [List.take_zero]; show Mid (_ ++ []) _ _ _ _; rw [List.append_nil]; exact md, rfl⟩ (fun _ _ _ _ _ => trivial) ?_ ?_⟩
        · clear z4 eS4 eM4 lv2 eL4 lvL sm2 nd2 sub2 len2 md hx s2 l2 us2 r
          rintro j y σ H5' H5 hj ⟨s2, l2, us2, r, a11, a12, a13, z5, eS5, eM5, lv2, eL5, lvL, sm2, nd2, sub2, len2, md, rfl⟩ ⟨rfl, c, hc, rfl⟩
          have hc : letN[j]? = some c := by
            have : ((Str.ofString "abcd").cps.toList)[j]? = some c := by simpa using hc
            exact this
          have c100 : c ≤ 100 ∧ c ∈ ([97, 98, 99, 100] : List Nat) := by
            have := List.mem_of_getElem? hc
            refine ⟨?_, this⟩
            simp [letN] at this
            omega
          have tk : letN.take (j + 1) = letN.take j ++ [c] := by rw [List.take_add_one, hc]; rfl
          rw [tk, evF_snoc, ← List.append_assoc]
          generalize evs (mvP m1 m2) (l.take i) ++ evF m1 m2 pl wo (letN.take j) = before at md ⊢
          walk_at "go"
          refine ⟨d, a0, m1, rfl, hdB.same z5, o1, fun p1 uz1 H6 z1 hp1 ep1 nx1 => ?_⟩
          walk_at "go"
          refine ⟨p1, rfl, ⟨uz1, SqL.of ep1⟩, fun D1 hD1 => ?_⟩
          have ln1 : uz1.length ≤ 32 := by rw [nx1.1]; exact Nat.le_trans (List.length_filter_le _ _) o1.len
          refine lc_list (xs := uz1) (fun i H' => Same H6 H' ∧ ∃ ws, H' D1 = some (.lst ws) ∧ NxAt K H' ws (((fromS m1 a0).take i).filter fun s => decide (s.c = c)) ∧ ws.length ≤ i) ⟨Same.new hD1, [], upd_same, ⟨rfl, fun i s e => by simp at e⟩, Nat.le_refl _⟩
            (fun i H' _ ⟨z, _⟩ => SqL.of (z _ _ ep1)) ?_ ?_
          · skip
            rintro i y H7 hy ⟨z7, ws, eD, nw, lws⟩
            have il : i < (fromS m1 a0).length := by rw [← nx1.1]; exact (List.getElem?_eq_some_iff.mp hy).1
            have es : (fromS m1 a0)[i]? = some ((fromS m1 a0)[i]'il) := List.getElem?_eq_getElem il
            obtain ⟨q, eq, hq⟩ := (nx1.tups (same_tups z7)).2 _ _ es
            rw [hy] at eq
            cases eq
            have ti : ((fromS m1 a0).take (i + 1)).filter (fun s => decide (s.c = c)) = ((fromS m1 a0).take i).filter (fun s => decide (s.c = c)) ++ (if decide (((fromS m1 a0)[i]'il).c = c) = true then [(fromS m1 a0)[i]'il] else []) := by
              rw [List.take_add_one, es, List.filter_append]
              congr 1
              show List.filter _ [(fromS m1 a0)[i]'il] = _
              rw [List.filter_cons]
              rfl
            rw [ti]
            have iu : i < uz1.length := (List.getElem?_eq_some_iff.mp hy).1
            generalize (fromS m1 a0)[i]'il = s0 at hq
            walk_at "go"
            refine ⟨rfl, ?_⟩
            walk_at "go"
            refine k_ixT hq (v := .str ⟨#[s0.c]⟩) rfl ?_
            walk_at "go"
            refine k_ite (fun h => ?_) (fun h => ?_)
            · have h' : s0.c = c := by
                injection h with h
                injection h with h
                have := congrArg (fun x : Array Nat => x.toList) h
                simpa using this
              walk_at "go"
              refine ⟨ws, eD, Nat.lt_of_le_of_lt (show ws.length ≤ 32 by omega) (by decide), Same.mut z7 hD1, _, upd_same, ?_, by rw [List.length_append, List.length_singleton]; omega⟩
              rw [if_pos (decide_eq_true h')]
              exact (nw.snoc hq).tups (Tups.lst eD)
            · have h' : ¬ s0.c = c := fun z => h (by rw [z])
              refine ⟨z7, ws, eD, ?_, by omega⟩
              rw [if_neg (by simpa using h'), List.append_nil]
              exact nw
          rintro H8 ⟨zz1, ws1, eD1, nw1, _⟩
          rw [nx1.1, List.take_length, pick_one o1] at nw1
          walk_at "go"
          refine ⟨d2, t0, m2, rfl, hd2.same (z5.trans (z1.trans zz1)), o2, fun p2 uz2 H9 z2 hp2 ep2 nx2 => ?_⟩
          walk_at "go"
          refine ⟨p2, rfl, ⟨uz2, SqL.of ep2⟩, fun D2 hD2 => ?_⟩
          have ln2 : uz2.length ≤ 32 := by rw [nx2.1]; exact Nat.le_trans (List.length_filter_le _ _) o2.len
          refine lc_list (xs := uz2) (fun i H' => Same H9 H' ∧ ∃ ws, H' D2 = some (.lst ws) ∧ NxAt K H' ws (((fromS m2 t0).take i).filter fun s => decide (s.c = c)) ∧ ws.length ≤ i) ⟨Same.new hD2, [], upd_same, ⟨rfl, fun i s e => by simp at e⟩, Nat.le_refl _⟩
            (fun i H' _ ⟨z, _⟩ => SqL.of (z _ _ ep2)) ?_ ?_
          · skip
            rintro i y H7 hy ⟨z7, ws, eD, nw, lws⟩
            have il : i < (fromS m2 t0).length := by rw [← nx2.1]; exact (List.getElem?_eq_some_iff.mp hy).1
            have es : (fromS m2 t0)[i]? = some ((fromS m2 t0)[i]'il) := List.getElem?_eq_getElem il
            obtain ⟨q, eq, hq⟩ := (nx2.tups (same_tups z7)).2 _ _ es
            rw [hy] at eq
            cases eq
            have ti : ((fromS m2 t0).take (i + 1)).filter (fun s => decide (s.c = c)) = ((fromS m2 t0).take i).filter (fun s => decide (s.c = c)) ++ (if decide (((fromS m2 t0)[i]'il).c = c) = true then [(fromS m2 t0)[i]'il] else []) := by
              rw [List.take_add_one, es, List.filter_append]
              congr 1
              show List.filter _ [(fromS m2 t0)[i]'il] = _
              rw [List.filter_cons]
              rfl
            rw [ti]
            have iu : i < uz2.length := (List.getElem?_eq_some_iff.mp hy).1
            generalize (fromS m2 t0)[i]'il = s0 at hq
            walk_at "go"
            refine ⟨rfl, ?_⟩
            walk_at "go"
            refine k_ixT hq (v := .str ⟨#[s0.c]⟩) rfl ?_
            walk_at "go"
            refine k_ite (fun h => ?_) (fun h => ?_)
            · have h' : s0.c = c := by
                injection h with h
                injection h with h
                have := congrArg (fun x : Array Nat => x.toList) h
                simpa using this
              walk_at "go"
              refine ⟨ws, eD, Nat.lt_of_le_of_lt (show ws.length ≤ 32 by omega) (by decide), Same.mut z7 hD2, _, upd_same, ?_, by rw [List.length_append, List.length_singleton]; omega⟩
              rw [if_pos (decide_eq_true h')]
              exact (nw.snoc hq).tups (Tups.lst eD)
            · have h' : ¬ s0.c = c := fun z => h (by rw [z])
              refine ⟨z7, ws, eD, ?_, by omega⟩
              rw [if_neg (by simpa using h'), List.append_nil]
              exact nw
          rintro H10 ⟨zz2, ws2, eD2, nw2, _⟩
          rw [nx2.1, List.take_length, pick_one o2] at nw2
          walk_at "go"
          have q510 : Same H5 H10 := z1.trans (zz1.trans (z2.trans zz2))
          have z10 := z5.trans q510
          have eS10 := q510 _ _ eS5
          have eM10 := q510 _ _ eM5
          have lv10 := lv2.same q510
          have eL10 := q510 _ _ eL5
          have lvL10 := lvL.same q510
          have eDh := (z2.trans zz2) _ _ eD1
          have nwh := nw1.tups (same_tups (z2.trans zz2))
          have eDt := eD2
          have nwt := nw2
          clear q510 z5 eS5 eM5 lv2 eL5 lvL eD1 eD2 nw1 nw2 zz1 zz2 z1 z2 ep1 ep2 nx1 nx2 hp1 hp2 hD1 hD2 ln1 ln2
          have ev : mvF m1 m2 pl c = (mvBoth (stpAt m1 (a0 : Int) c) (stpAt m2 (t0 : Int) c)).map fun q => (c, q) := by rw [epl]; rfl
          have f1 : ∀ s, stpAt m1 (a0 : Int) c = some s → s.Ok m1.n := fun s h => o1.ok s (List.mem_of_find?_eq_some h)
          have f2 : ∀ s, stpAt m2 (t0 : Int) c = some s → s.Ok m2.n := fun s h => o2.ok s (List.mem_of_find?_eq_some h)
          rw [ev]
          generalize stpAt m1 (a0 : Int) c = p1 at nwh f1 ⊢
          generalize stpAt m2 (t0 : Int) c = p2 at nwt f2 ⊢
          clear ev
          have s2P : s2.length ≤ (allQ m1.n m2.n).length := nodup_sub nd2 sub2
          have cat : (sOf wo).length + (⟨#[c]⟩ : Str).length ≤ sizeLine := by
            rw [sOf_len, lw]
            exact Nat.le_trans (show n + 1 ≤ 1000 by omega) (by decide)
          cases r with
          | some v0 =>
            refine k_no (decide_eq_false fun e => by cases e) ?_
            refine iteF ?_
            walk_at "go"
            refine k_no (decide_eq_false fun e => by cases e) ?_
            refine iteF ?_
            walk_at "go"
            exact ⟨s2, l2, us2, some v0, _, _, _, z10, eS10, eM10, lv10, eL10, lvL10, sm2, nd2, sub2, len2, md.stop _, rfl⟩
          | none =>
            refine k_yes (decide_eq_true rfl) ?_
            walk_at "go"
            refine k_len (.inl (SqL.of eDh)) ?_
            walk_at "go"
            refine k_len (.inl (SqL.of eDt)) ?_
            walk_at "go"
            have lh := nwh.1
            have lt := nwt.1
            cases p1 with
            | none =>
              cases p2 with
              | none =>
                refine k_no (by rw [lh, lt]; rfl) ?_
                walk_at "go"
                refine k_yes (decide_eq_true rfl) ?_
                walk_at "go"
                refine ⟨(by decide : 0 ≤ sizeLine), fun e0 he0 => ?_⟩
                have u0 := Same.new (o := .lst []) he0
                refine k_neD (Dp.lst (SqL.of (u0 _ _ eDh)) (dp_nx (nwh.tups (same_tups u0)))) (Dp.lst (SqL.of upd_same) .nil) (nx_sh (fun s h => by cases h)) rfl ?_
                rw [nx_eqv]
                walk_at "go"
                refine k_no (by rfl) ?_
                walk_at "go"
                refine ⟨s2, l2, us2, none, _, _, _, z10.trans u0, u0 _ _ eS10, u0 _ _ eM10, lv10.same u0, u0 _ _ eL10, lvL10.same u0, sm2, nd2, sub2, len2, ?_, rfl⟩
                show Mid (before ++ []) _ _ _ _
                rw [List.append_nil]
                exact md
              | some t =>
                refine k_yes (by rw [lh, lt]; rfl) ?_
                walk_at "go"
                refine ⟨_, _, rfl, rfl, cat, ?_⟩
                rw [sOf_snoc]
                walk_at "go"
                refine k_no (decide_eq_false fun e => by cases e) ?_
                refine iteF ?_
                walk_at "go"
                exact ⟨s2, l2, us2, some (wo ++ [c]), _, _, _, z10, eS10, eM10, lv10, eL10, lvL10, sm2, nd2, sub2, len2, md.out _, rfl⟩
            | some s =>
              cases p2 with
              | none =>
                refine k_yes (by rw [lh, lt]; rfl) ?_
                walk_at "go"
                refine ⟨_, _, rfl, rfl, cat, ?_⟩
                rw [sOf_snoc]
                walk_at "go"
                refine k_no (decide_eq_false fun e => by cases e) ?_
                refine iteF ?_
                walk_at "go"
                exact ⟨s2, l2, us2, some (wo ++ [c]), _, _, _, z10, eS10, eM10, lv10, eL10, lvL10, sm2, nd2, sub2, len2, md.out _, rfl⟩
              | some t =>
                have os := f1 _ rfl
                have ot := f2 _ rfl
                refine k_no (by rw [lh, lt]; rfl) ?_
                walk_at "go"
                refine k_yes (decide_eq_true rfl) ?_
                walk_at "go"
                refine ⟨(by decide : 0 ≤ sizeLine), fun e0 he0 => ?_⟩
                have u0 := Same.new (o := .lst []) he0
                refine k_neD (Dp.lst (SqL.of (u0 _ _ eDh)) (dp_nx (nwh.tups (same_tups u0)))) (Dp.lst (SqL.of upd_same) .nil) (nx_sh (fun x h => by rw [List.mem_singleton.mp h]; exact os.c')) rfl ?_
                rw [nx_eqv]
                walk_at "go"
                refine k_yes (by rfl) ?_
                have z10 := z10.trans u0
                have eS10 := u0 _ _ eS10
                have eM10 := u0 _ _ eM10
                have lv10 := lv10.same u0
                have eL10 := u0 _ _ eL10
                have lvL10 := lvL10.same u0
                have eDh := u0 _ _ eDh
                have eDt := u0 _ _ eDt
                obtain ⟨ph, eh, hh⟩ := (nwh.tups (same_tups u0)).2 0 s rfl
                obtain ⟨pt, et, ht⟩ := (nwt.tups (same_tups u0)).2 0 t rfl
                generalize upd H10 e0 (.lst []) = H11 at z10 eS10 eM10 lv10 eL10 lvL10 eDh eDt hh ht ⊢
                clear u0 he0 nwh nwt
                walk_at "go"
                refine k_ixL (SqL.of eDh) (atI_nat (j := 0) eh) ?_
                walk_at "go"
                refine k_ixT hh (v := .int s.g) rfl ?_
                walk_at "go"
                refine k_ixL (SqL.of eDt) (atI_nat (j := 0) et) ?_
                walk_at "go"
                refine k_ixT ht (v := .int t.g) rfl ?_
                walk_at "go"
                have eg : decide (V.int s.g = V.int t.g) = decide (s.g = t.g) := by
                  rw [dec_int, Bool.eq_iff_iff, decide_eq_true_iff]
                rw [eg]
                refine k_iteN (fun g => ?_) (fun g => ?_)
                rotate_left
                · walk_at "go"
                  refine ⟨_, _, rfl, rfl, cat, ?_⟩
                  rw [sOf_snoc]
                  walk_at "go"
                  refine ⟨s2, l2, us2, some (wo ++ [c]), _, _, _, z10, eS10, eM10, lv10, eL10, lvL10, sm2, nd2, sub2, len2, ?_, rfl⟩
                  show Mid (before ++ ((some (if s.g = t.g then some ((s.e : Int), (t.e : Int)) else none)).map fun q => (wo ++ [c], q)).toList) _ _ _ _
                  rw [if_neg g]
                  exact md.out _
                have hev : (((mvBoth (some s) (some t)).map fun q => (c, q)).map fun ce => (wo ++ [ce.1], ce.2)).toList = [(wo ++ [c], some ((s.e : Int), (t.e : Int)))] := by
                  show ((some (if s.g = t.g then some ((s.e : Int), (t.e : Int)) else none)).map fun q => (wo ++ [c], q)).toList = _
                  rw [if_pos g]
                  rfl
                rw [hev]
                obtain ⟨q, eq⟩ : ∃ q : Pl, q = ((s.e : Int), (t.e : Int)) := ⟨_, rfl⟩
                have qP : q ∈ allQ m1.n m2.n := by rw [eq]; exact allQ_mem.mpr ⟨s.e, t.e, os.e, ot.e, rfl⟩
                have htup : (HO.tup [V.int (s.e : Nat), .int (t.e : Nat)]) = .tup ((pk q).map kV) := by rw [eq]; rfl
                rw [← eq]
                walk_at "go"
                refine k_ixL (SqL.of eDh) (atI_nat (j := 0) eh) ?_
                walk_at "go"
                refine k_ixT hh (v := .int (s.e : Nat)) rfl ?_
                walk_at "go"
                refine k_ixL (SqL.of eDt) (atI_nat (j := 0) et) ?_
                walk_at "go"
                refine k_ixT ht (v := .int (t.e : Nat)) rfl ?_
                walk_at "go"
                refine ⟨(by decide : 2 ≤ sizeLine), fun y1 hy1 => ?_⟩
                have u1 := Same.new (o := .tup [V.int (s.e : Nat), .int (t.e : Nat)]) hy1
                have g1 : (upd H11 y1 (.tup [V.int (s.e : Nat), .int (t.e : Nat)])) y1 = some (.tup ((pk q).map kV)) := by rw [← htup]; exact upd_same
                have z7 := z10.trans u1
                have eS7 := u1 _ _ eS10
                have eM7 := u1 _ _ eM10
                have lv7 := lv10.same u1
                have eL7 := u1 _ _ eL10
                have lvL7 := lvL10.same u1
                have eDh7 := u1 _ _ eDh
                have eDt7 := u1 _ _ eDt
                have hh7 := (same_tups u1).sq hh
                have ht7 := (same_tups u1).sq ht
                generalize upd H11 y1 (.tup [V.int (s.e : Nat), .int (t.e : Nat)]) = H7 at g1 z7 eS7 eM7 lv7 eL7 lvL7 eDh7 eDt7 hh7 ht7 ⊢
                clear u1 z10 eS10 eM10 lv10 eL10 lvL10 eDh eDt hh ht hy1
                walk_at "go"
                have dg := DGet.t eS7 g1
                rw [valV_skv] at dg
                refine ⟨S, _, rfl, dg, ?_⟩
                walk_at "go"
                by_cases dq : q ∈ s2
                · rw [if_pos dq]
                  refine iteF ?_
                  walk_at "go"
                  exact ⟨s2, l2, us2, none, _, _, _, z7, eS7, eM7, lv7, eL7, lvL7, sm2, nd2, sub2, len2, md.old dq, rfl⟩
                · rw [if_neg dq]
                  refine iteT ?_
                  walk_at "go"
                  refine k_ixL (SqL.of eDh7) (atI_nat (j := 0) eh) ?_
                  walk_at "go"
                  refine k_ixT hh7 (v := .int (s.e : Nat)) rfl ?_
                  walk_at "go"
                  refine k_ixL (SqL.of eDt7) (atI_nat (j := 0) et) ?_
                  walk_at "go"
                  refine k_ixT ht7 (v := .int (t.e : Nat)) rfl ?_
                  walk_at "go"
                  refine ⟨(by decide : 2 ≤ sizeLine), fun y2 hy2 => ?_⟩
                  have u2 := Same.new (o := .tup [V.int (s.e : Nat), .int (t.e : Nat)]) hy2
                  have g2 : (upd H7 y2 (.tup [V.int (s.e : Nat), .int (t.e : Nat)])) y2 = some (.tup ((pk q).map kV)) := by rw [← htup]; exact upd_same
                  have z8 := z7.trans u2
                  have eS8 := u2 _ _ eS7
                  have eM8 := u2 _ _ eM7
                  have lv8 := lv7.same u2
                  have eL8 := u2 _ _ eL7
                  have lvL8 := lvL7.same u2
                  have eDh8 := u2 _ _ eDh7
                  have eDt8 := u2 _ _ eDt7
                  have hh8 := (same_tups u2).sq hh7
                  have ht8 := (same_tups u2).sq ht7
                  generalize upd H7 y2 (.tup [V.int (s.e : Nat), .int (t.e : Nat)]) = H8 at g2 z8 eS8 eM8 lv8 eL8 lvL8 eDh8 eDt8 hh8 ht8 ⊢
                  clear u2 z7 eS7 eM7 lv7 eL7 lvL7 eDh7 eDt7 hh7 ht7 dg g1 hy2
                  have small : (skv s2).length < sizeLine := by
                    unfold skv
                    rw [List.length_map]
                    exact Nat.lt_of_le_of_lt (show _ ≤ 1000 by omega) (by decide)
                  refine ⟨S, _, rfl, DPut.t eS8 g2 small, ?_⟩
                  rw [putK_skv dq]
                  have nS : ∀ xs, H8 S ≠ some (.tup xs) := fun xs e => by rw [eS8] at e; cases e
                  have tS : Tups H8 (upd H8 S (.dT (skv (s2 ++ [q])))) := ⟨fun b xs e => by rw [upd_ne (fun w => by rw [w, eS8] at e; cases e)]; exact e, fun b o xs e => by rw [upd_ne (fun w => by rw [w, eS8] at e; cases e)]; exact e⟩
                  have z9 : Same HB (upd H8 S (.dT (skv (s2 ++ [q])))) := Same.mut z8 hS0
                  have eS9 : (upd H8 S (.dT (skv (s2 ++ [q])))) S = some (.dT (skv (s2 ++ [q]))) := upd_same
                  have eM9 : (upd H8 S (.dT (skv (s2 ++ [q])))) M = some (.lst us2) := by rw [upd_ne nMS]; exact eM8
                  have eL9 : (upd H8 S (.dT (skv (s2 ++ [q])))) L = some (.lst us) := by rw [upd_ne nLS]; exact eL8
                  have eDh9 : (upd H8 S (.dT (skv (s2 ++ [q])))) D1 = some (.lst ws1) := by rw [upd_ne (fun w => by rw [w, eS8] at eDh8; cases eDh8)]; exact eDh8
                  have eDt9 : (upd H8 S (.dT (skv (s2 ++ [q])))) D2 = some (.lst ws2) := by rw [upd_ne (fun w => by rw [w, eS8] at eDt8; cases eDt8)]; exact eDt8
                  have lv9 := lv8.put (o := .dT (skv (s2 ++ [q]))) nS
                  have lvL9 := lvL8.put (o := .dT (skv (s2 ++ [q]))) nS
                  have hh9 := tS.sq hh8
                  have ht9 := tS.sq ht8
                  generalize upd H8 S (.dT (skv (s2 ++ [q]))) = H9 at z9 eS9 eM9 eL9 eDh9 eDt9 lv9 lvL9 hh9 ht9 ⊢
                  clear nS tS z8 eS8 eM8 lv8 eL8 lvL8 eDh8 eDt8 hh8 ht8 g2
                  walk_at "go"
                  refine ⟨.inl ⟨rfl, _, SqL.of eM9⟩, ?_⟩
                  walk_at "go"
                  refine ⟨_, _, rfl, rfl, cat, ?_⟩
                  rw [sOf_snoc]
                  walk_at "go"
                  refine k_ixL (SqL.of eDh9) (atI_nat (j := 0) eh) ?_
                  walk_at "go"
                  refine k_ixT hh9 (v := .int (s.e : Nat)) rfl ?_
                  walk_at "go"
                  refine k_ixL (SqL.of eDt9) (atI_nat (j := 0) et) ?_
                  walk_at "go"
                  refine k_ixT ht9 (v := .int (t.e : Nat)) rfl ?_
                  walk_at "go"
                  refine ⟨(by decide : 3 ≤ sizeLine), fun y3 hy3 => ?_⟩
                  have u3 := Same.new (o := .tup [V.str (sOf (wo ++ [c])), .int (s.e : Nat), .int (t.e : Nat)]) hy3
                  have g3 : (upd H9 y3 (.tup [V.str (sOf (wo ++ [c])), .int (s.e : Nat), .int (t.e : Nat)])) y3 = some (.tup [V.str (sOf (wo ++ [c])), .int q.1, .int q.2]) := by rw [eq]; exact upd_same
                  have z10 := z9.trans u3
                  have eS10 := u3 _ _ eS9
                  have eM10 := u3 _ _ eM9
                  have eL10 := u3 _ _ eL9
                  have lv10 := (lv9.same u3).snoc (pw := (q, wo ++ [c])) g3
                  have lvL10 := lvL9.same u3
                  generalize upd H9 y3 (.tup [V.str (sOf (wo ++ [c])), .int (s.e : Nat), .int (t.e : Nat)]) = H10 at z10 eS10 eM10 eL10 lv10 lvL10 ⊢
                  clear u3 g3 z9 eS9 eM9 eL9 lv9 lvL9 hh9 ht9 eDh9 eDt9 hy3
                  walk_at "go"
                  have nM : ∀ xs, H10 M ≠ some (.tup xs) := fun xs e => by rw [eM10] at e; cases e
                  refine k_append eM10 ?_ ?_
                  · have := lv10.1
                    rw [List.length_append, List.length_append] at this
                    simp only [List.length_singleton] at this
                    exact Nat.lt_of_le_of_lt (show us2.length ≤ 1000 by omega) (by decide)
                  refine ⟨s2 ++ [q], l2 ++ [(q, wo ++ [c])], us2 ++ [.ref y3], none, _, _, _, Same.mut z10 hM0, by rw [upd_ne nMS.symm]; exact eS10, upd_same, lv10.put nM, by rw [upd_ne nML.symm]; exact eL10, lvL10.put nM, ?_, ?_, ?_, ?_, md.new dq, rfl⟩
                  · intro pw h x hc
                    rcases List.mem_append.mp h with h | h
                    · exact sm2 pw h x hc
                    · rw [List.mem_singleton.mp h] at hc
                      rcases List.mem_append.mp hc with hc | hc
                      · exact smi x hc
                      · rw [List.mem_singleton.mp hc]; exact c100.1
                  · exact List.nodup_append.mpr ⟨nd2, by simp, fun a ha b hb z => dq (by rw [← List.mem_singleton.mp hb, ← z]; exact ha)⟩
                  · intro p hp
                    rcases List.mem_append.mp hp with hp | hp
                    · exact sub2 p hp
                    · rw [List.mem_singleton.mp hp]; exact qP
                  · rw [List.length_append, List.length_append, List.length_singleton, List.length_singleton]
                    omega
        · rintro σ H5 ⟨s2, l2, us2, r, a11, a12, a13, z5, eS5, eM5, lv2, eL5, lvL, sm2, nd2, sub2, len2, md, rfl⟩
          exact ⟨s2, l2, us2, r, _, _, _, _, _, _, z5, eS5, eM5, lv2, eL5, lvL, sm2, nd2, sub2, len2, md, rfl⟩
      · rintro σ H4 ⟨s2, l2, us2, r, a8, a9, a10, a11, a12, a13, z4, eS4, eM4, lv2, eL4, lvL, sm2, nd2, sub2, len2, md, rfl⟩
        rw [lvL.1, List.take_length] at md
        walk_at "go"
        cases r with
        | some w0 =>
          have md : proc (evs mv l) s [] = .inl w0 := md
          refine ⟨0, ?_, s2, l2, n, M, us2, some w0, _, _, _, _, _, _, _, rfl, z4, eS4, eM4, hM0, nMS, lv2, sm2, .inr ⟨w0, rfl, pre _ (.found c md)⟩, rfl⟩
          rw [if_pos rfl, if_neg c]
          omega
        | none =>
          have md : proc (evs mv l) s [] = .inr (s2, l2) := md
          have LY2 := proc_lay (P := allQ m1.n m2.n) (n := n + 1) (evs_in cl LY) ⟨LY.nd, LY.sub, fun pw h => by cases h⟩ md
          have s2P : s2.length ≤ (allQ m1.n m2.n).length := nodup_sub nd2 sub2
          have ll := LY2.2
          rw [List.length_nil] at ll
          have key : (l2 = [] ∧ s2.length = s.length) ∨ (l2 ≠ [] ∧ s.length + 1 ≤ s2.length) := by
            by_cases d : l2 = []
            · rw [d] at ll; exact .inl ⟨d, by simpa using ll⟩
            · have := List.length_pos_iff.mpr d
              exact .inr ⟨d, by omega⟩
          refine ⟨2 * (1000 - s2.length) + (if l2 = [] then 0 else 1), ?_, s2, l2, n + 1, M, us2, none, _, _, _, _, _, _, _, by rw [if_pos rfl], z4, eS4, eM4, hM0, nMS, lv2, sm2, .inl ⟨rfl, LY2.1, ?_, fun r h => pre r (.next c md h)⟩, rfl⟩
          · rw [if_pos rfl, if_neg c]
            rcases key with ⟨d, e⟩ | ⟨d, e⟩
            · rw [if_pos d]; omega
            · rw [if_neg d]; omega
          · rcases key with ⟨d, e⟩ | ⟨d, e⟩
            · rw [if_pos d]; omega
            · rw [if_neg d]; omega
    · rintro σ H R R' hR ⟨v, e, l0, q⟩
      refine ⟨v, e, l0, fun p hp => ?_⟩
      obtain ⟨d1, d2, q1, q2, q3, q4, kk, ek, rest⟩ := q p hp
      refine ⟨d1, d2, q1, q2, q3, q4, kk, ek, ?_⟩
      cases kk with
      | false => exact hR _ _ rest
      | true =>
        obtain ⟨v', e', rest⟩ := rest
        exact ⟨v', e', by obtain ⟨k2, ek2, r2⟩ := rest; exact ⟨k2, ek2, hR _ _ r2⟩⟩
end
/-! ### what the written part says -/
theorem exc_self {K : PySem.W.Frag} {S : Addr} (hb : PySem.W.subIn K (.ref S) (.type "BaseException") = some true) (hc : PySem.W.isClsIn K S = true) (ht : PySem.W.typeIn K (.ref S) = some (.type "type")) (hs : PySem.W.subIn K (.ref S) (.ref S) = some true) : PySem.W.exmOne K (.ref S) (.ref S) = some true := by
  have hc' : (PySem.W.clsIn K S).isSome = true := hc
  unfold PySem.W.exmOne PySem.W.kitCls
  simp only [hb, ht, hc', hs, beq_self_eq_true, Bool.and_self, if_true]
theorem bb_first_row_out (kV doc pm : Value) (an : Option Addr) (cdv ct : Value) (us : List Value) (hl : us.length = 2) : bindArgs (PySem.W.fnOf "first_row_out" "first_row_out" (defArgs s_first_row_out) (defBody s_first_row_out) (defScope s_first_row_out) .none kV doc pm an cdv ct) ⟨us, []⟩ = pure ((["moves", "begin"] : List Str).zip us) := match us, hl with | [_, _], _ => rfl
theorem bb_Machine_init (kV doc pm : Value) (an : Option Addr) (cdv ct : Value) (us : List Value) (hl : us.length = 4) : bindArgs (PySem.W.fnOf "__init__" "Machine.__init__" (defArgs s_Machine_init) (defBody s_Machine_init) (defScope s_Machine_init) .none kV doc pm an cdv ct) ⟨us, []⟩ = pure ((["self", "stands", "steps", "ends"] : List Str).zip us) := match us, hl with | [_, _, _, _], _ => rfl
theorem bb_Machine_stands (kV doc pm : Value) (an : Option Addr) (cdv ct : Value) (us : List Value) (hl : us.length = 1) : bindArgs (PySem.W.fnOf "stands" "Machine.stands" (defArgs s_Machine_stands) (defBody s_Machine_stands) (defScope s_Machine_stands) .none kV doc pm an cdv ct) ⟨us, []⟩ = pure ((["self"] : List Str).zip us) := match us, hl with | [_], _ => rfl
theorem bb_Machine_steps (kV doc pm : Value) (an : Option Addr) (cdv ct : Value) (us : List Value) (hl : us.length = 1) : bindArgs (PySem.W.fnOf "steps" "Machine.steps" (defArgs s_Machine_steps) (defBody s_Machine_steps) (defScope s_Machine_steps) .none kV doc pm an cdv ct) ⟨us, []⟩ = pure ((["self"] : List Str).zip us) := match us, hl with | [_], _ => rfl
theorem bb_is_whole_number (kV doc pm : Value) (an : Option Addr) (cdv ct : Value) (us : List Value) (hl : us.length = 1) : bindArgs (PySem.W.fnOf "is_whole_number" "is_whole_number" (defArgs s_is_whole_number) (defBody s_is_whole_number) (defScope s_is_whole_number) .none kV doc pm an cdv ct) ⟨us, []⟩ = pure ((["value"] : List Str).zip us) := match us, hl with | [_], _ => rfl
theorem bb_is_integer_between (kV doc pm : Value) (an : Option Addr) (cdv ct : Value) (us : List Value) (hl : us.length = 3) : bindArgs (PySem.W.fnOf "is_integer_between" "is_integer_between" (defArgs s_is_integer_between) (defBody s_is_integer_between) (defScope s_is_integer_between) .none kV doc pm an cdv ct) ⟨us, []⟩ = pure ((["value", "least", "most"] : List Str).zip us) := match us, hl with | [_, _, _], _ => rfl
theorem bb_is_stand (kV doc pm : Value) (an : Option Addr) (cdv ct : Value) (us : List Value) (hl : us.length = 2) : bindArgs (PySem.W.fnOf "_is_stand" "_is_stand" (defArgs s_is_stand) (defBody s_is_stand) (defScope s_is_stand) .none kV doc pm an cdv ct) ⟨us, []⟩ = pure ((["stands", "value"] : List Str).zip us) := match us, hl with | [_, _], _ => rfl
theorem bb_check_stands (kV doc pm : Value) (an : Option Addr) (cdv ct : Value) (us : List Value) (hl : us.length = 1) : bindArgs (PySem.W.fnOf "_check_stands" "_check_stands" (defArgs s_check_stands) (defBody s_check_stands) (defScope s_check_stands) .none kV doc pm an cdv ct) ⟨us, []⟩ = pure ((["stands"] : List Str).zip us) := match us, hl with | [_], _ => rfl
theorem bb_is_step (kV doc pm : Value) (an : Option Addr) (cdv ct : Value) (us : List Value) (hl : us.length = 2) : bindArgs (PySem.W.fnOf "_is_step" "_is_step" (defArgs s_is_step) (defBody s_is_step) (defScope s_is_step) .none kV doc pm an cdv ct) ⟨us, []⟩ = pure ((["stands", "value"] : List Str).zip us) := match us, hl with | [_, _], _ => rfl
theorem bb_check_steps (kV doc pm : Value) (an : Option Addr) (cdv ct : Value) (us : List Value) (hl : us.length = 2) : bindArgs (PySem.W.fnOf "_check_steps" "_check_steps" (defArgs s_check_steps) (defBody s_check_steps) (defScope s_check_steps) .none kV doc pm an cdv ct) ⟨us, []⟩ = pure ((["stands", "steps"] : List Str).zip us) := match us, hl with | [_, _], _ => rfl
theorem bb_is_ascending (kV doc pm : Value) (an : Option Addr) (cdv ct : Value) (us : List Value) (hl : us.length = 2) : bindArgs (PySem.W.fnOf "is_ascending" "is_ascending" (defArgs s_is_ascending) (defBody s_is_ascending) (defScope s_is_ascending) .none kV doc pm an cdv ct) ⟨us, []⟩ = pure ((["value", "many"] : List Str).zip us) := match us, hl with | [_, _], _ => rfl
theorem bb_check_ends (kV doc pm : Value) (an : Option Addr) (cdv ct : Value) (us : List Value) (hl : us.length = 2) : bindArgs (PySem.W.fnOf "_check_ends" "_check_ends" (defArgs s_check_ends) (defBody s_check_ends) (defScope s_check_ends) .none kV doc pm an cdv ct) ⟨us, []⟩ = pure ((["stands", "ends"] : List Str).zip us) := match us, hl with | [_, _], _ => rfl
theorem bb_check_machine (kV doc pm : Value) (an : Option Addr) (cdv ct : Value) (us : List Value) (hl : us.length = 1) : bindArgs (PySem.W.fnOf "check_machine" "check_machine" (defArgs s_check_machine) (defBody s_check_machine) (defScope s_check_machine) .none kV doc pm an cdv ct) ⟨us, []⟩ = pure ((["value"] : List Str).zip us) := match us, hl with | [_], _ => rfl
theorem bb_moves_of (kV doc pm : Value) (an : Option Addr) (cdv ct : Value) (us : List Value) (hl : us.length = 1) : bindArgs (PySem.W.fnOf "moves_of" "moves_of" (defArgs s_moves_of) (defBody s_moves_of) (defScope s_moves_of) .none kV doc pm an cdv ct) ⟨us, []⟩ = pure ((["machine"] : List Str).zip us) := match us, hl with | [_], _ => rfl
theorem bb_moves_from (kV doc pm : Value) (an : Option Addr) (cdv ct : Value) (us : List Value) (hl : us.length = 4) : bindArgs (PySem.W.fnOf "_moves_from" "_moves_from" (defArgs s_moves_from) (defBody s_moves_from) (defScope s_moves_from) .none kV doc pm an cdv ct) ⟨us, []⟩ = pure ((["one_moves", "other_moves", "begun", "start"] : List Str).zip us) := match us, hl with | [_, _, _, _], _ => rfl
theorem bb_first_apart (kV doc pm : Value) (an : Option Addr) (cdv ct : Value) (us : List Value) (hl : us.length = 2) : bindArgs (PySem.W.fnOf "first_apart" "first_apart" (defArgs s_first_apart) (defBody s_first_apart) (defScope s_first_apart) .none kV doc pm an cdv ct) ⟨us, []⟩ = pure ((["one", "other"] : List Str).zip us) := match us, hl with | [_, _], _ => rfl
theorem bb_law_taken (kV doc pm : Value) (an : Option Addr) (cdv ct : Value) (us : List Value) (hl : us.length = 2) : bindArgs (PySem.W.fnOf "_law_taken" "_law_taken" (defArgs s_law_taken) (defBody s_law_taken) (defScope s_law_taken) .none kV doc pm an cdv ct) ⟨us, []⟩ = pure ((["_law_row", "_law_many"] : List Str).zip us) := match us, hl with | [_, _], _ => rfl
theorem bb_law_parts (kV doc pm : Value) (an : Option Addr) (cdv ct : Value) (us : List Value) (hl : us.length = 3) : bindArgs (PySem.W.fnOf "_law_parts" "_law_parts" (defArgs s_law_parts) (defBody s_law_parts) (defScope s_law_parts) .none kV doc pm an cdv ct) ⟨us, []⟩ = pure ((["_law_row", "_law_stands", "_law_size"] : List Str).zip us) := match us, hl with | [_, _, _], _ => rfl
theorem bb_law_machine (kV doc pm : Value) (an : Option Addr) (cdv ct : Value) (us : List Value) (hl : us.length = 1) : bindArgs (PySem.W.fnOf "_law_machine" "_law_machine" (defArgs s_law_machine) (defBody s_law_machine) (defScope s_law_machine) .none kV doc pm an cdv ct) ⟨us, []⟩ = pure ((["_law_d"] : List Str).zip us) := match us, hl with | [_], _ => rfl
theorem bb_law_next (kV doc pm : Value) (an : Option Addr) (cdv ct : Value) (us : List Value) (hl : us.length = 2) : bindArgs (PySem.W.fnOf "_law_next" "_law_next" (defArgs s_law_next) (defBody s_law_next) (defScope s_law_next) .none kV doc pm an cdv ct) ⟨us, []⟩ = pure ((["_law_d", "_law_stand"] : List Str).zip us) := match us, hl with | [_, _], _ => rfl
theorem bb_law_like (kV doc pm : Value) (an : Option Addr) (cdv ct : Value) (us : List Value) (hl : us.length = 2) : bindArgs (PySem.W.fnOf "_law_like" "_law_like" (defArgs s_law_like) (defBody s_law_like) (defScope s_law_like) .none kV doc pm an cdv ct) ⟨us, []⟩ = pure ((["_law_row", "_law_d"] : List Str).zip us) := match us, hl with | [_, _], _ => rfl
theorem bb_law (kV doc pm : Value) (an : Option Addr) (cdv ct : Value) (us : List Value) (hl : us.length = 1) : bindArgs (PySem.W.fnOf "law" "law" (defArgs s_law) (defBody s_law) (defScope s_law) .none kV doc pm an cdv ct) ⟨us, []⟩ = pure ((["_law_script"] : List Str).zip us) := match us, hl with | [_], _ => rfl
set_option maxHeartbeats 0 in
def txt_mk {K : PySem.W.Frag} {h : Heap} {mg : Str → Option Value} (X : K.In h) (G : h.Ns mainGlobals mg)
    {a_first_row_out : Addr} {od_first_row_out an_first_row_out : Option Addr} {sl_first_row_out : Array (Option Value)} {oc_first_row_out kV_first_row_out dc_first_row_out pm_first_row_out cd_first_row_out ct_first_row_out : Value}
    {a_Machine_init : Addr} {od_Machine_init an_Machine_init : Option Addr} {sl_Machine_init : Array (Option Value)} {oc_Machine_init kV_Machine_init dc_Machine_init pm_Machine_init cd_Machine_init ct_Machine_init : Value}
    {a_Machine_stands : Addr} {od_Machine_stands an_Machine_stands : Option Addr} {sl_Machine_stands : Array (Option Value)} {oc_Machine_stands kV_Machine_stands dc_Machine_stands pm_Machine_stands cd_Machine_stands ct_Machine_stands : Value}
    {a_Machine_steps : Addr} {od_Machine_steps an_Machine_steps : Option Addr} {sl_Machine_steps : Array (Option Value)} {oc_Machine_steps kV_Machine_steps dc_Machine_steps pm_Machine_steps cd_Machine_steps ct_Machine_steps : Value}
    {a_is_whole_number : Addr} {od_is_whole_number an_is_whole_number : Option Addr} {sl_is_whole_number : Array (Option Value)} {oc_is_whole_number kV_is_whole_number dc_is_whole_number pm_is_whole_number cd_is_whole_number ct_is_whole_number : Value}
    {a_is_integer_between : Addr} {od_is_integer_between an_is_integer_between : Option Addr} {sl_is_integer_between : Array (Option Value)} {oc_is_integer_between kV_is_integer_between dc_is_integer_between pm_is_integer_between cd_is_integer_between ct_is_integer_between : Value}
    {a_is_stand : Addr} {od_is_stand an_is_stand : Option Addr} {sl_is_stand : Array (Option Value)} {oc_is_stand kV_is_stand dc_is_stand pm_is_stand cd_is_stand ct_is_stand : Value}
    {a_check_stands : Addr} {od_check_stands an_check_stands : Option Addr} {sl_check_stands : Array (Option Value)} {oc_check_stands kV_check_stands dc_check_stands pm_check_stands cd_check_stands ct_check_stands : Value}
    {a_is_step : Addr} {od_is_step an_is_step : Option Addr} {sl_is_step : Array (Option Value)} {oc_is_step kV_is_step dc_is_step pm_is_step cd_is_step ct_is_step : Value}
    {a_check_steps : Addr} {od_check_steps an_check_steps : Option Addr} {sl_check_steps : Array (Option Value)} {oc_check_steps kV_check_steps dc_check_steps pm_check_steps cd_check_steps ct_check_steps : Value}
    {a_is_ascending : Addr} {od_is_ascending an_is_ascending : Option Addr} {sl_is_ascending : Array (Option Value)} {oc_is_ascending kV_is_ascending dc_is_ascending pm_is_ascending cd_is_ascending ct_is_ascending : Value}
    {a_check_ends : Addr} {od_check_ends an_check_ends : Option Addr} {sl_check_ends : Array (Option Value)} {oc_check_ends kV_check_ends dc_check_ends pm_check_ends cd_check_ends ct_check_ends : Value}
    {a_check_machine : Addr} {od_check_machine an_check_machine : Option Addr} {sl_check_machine : Array (Option Value)} {oc_check_machine kV_check_machine dc_check_machine pm_check_machine cd_check_machine ct_check_machine : Value}
    {a_moves_of : Addr} {od_moves_of an_moves_of : Option Addr} {sl_moves_of : Array (Option Value)} {oc_moves_of kV_moves_of dc_moves_of pm_moves_of cd_moves_of ct_moves_of : Value}
    {a_moves_from : Addr} {od_moves_from an_moves_from : Option Addr} {sl_moves_from : Array (Option Value)} {oc_moves_from kV_moves_from dc_moves_from pm_moves_from cd_moves_from ct_moves_from : Value}
    {a_first_apart : Addr} {od_first_apart an_first_apart : Option Addr} {sl_first_apart : Array (Option Value)} {oc_first_apart kV_first_apart dc_first_apart pm_first_apart cd_first_apart ct_first_apart : Value}
    {a_law_taken : Addr} {od_law_taken an_law_taken : Option Addr} {sl_law_taken : Array (Option Value)} {oc_law_taken kV_law_taken dc_law_taken pm_law_taken cd_law_taken ct_law_taken : Value}
    {a_law_parts : Addr} {od_law_parts an_law_parts : Option Addr} {sl_law_parts : Array (Option Value)} {oc_law_parts kV_law_parts dc_law_parts pm_law_parts cd_law_parts ct_law_parts : Value}
    {a_law_machine : Addr} {od_law_machine an_law_machine : Option Addr} {sl_law_machine : Array (Option Value)} {oc_law_machine kV_law_machine dc_law_machine pm_law_machine cd_law_machine ct_law_machine : Value}
    {a_law_next : Addr} {od_law_next an_law_next : Option Addr} {sl_law_next : Array (Option Value)} {oc_law_next kV_law_next dc_law_next pm_law_next cd_law_next ct_law_next : Value}
    {a_law_like : Addr} {od_law_like an_law_like : Option Addr} {sl_law_like : Array (Option Value)} {oc_law_like kV_law_like dc_law_like pm_law_like cd_law_like ct_law_like : Value}
    {a_law : Addr} {od_law an_law : Option Addr} {sl_law : Array (Option Value)} {oc_law kV_law dc_law pm_law cd_law ct_law : Value}
    {c_Machine : Addr}
    {q_stands : Addr} {rest_stands : List Value}
    {q_steps : Addr} {rest_steps : List Value}
    {t_MOST_STANDS : Tok}
    {t_MOST_GAIN : Tok}
    {a_LETTERS : Addr}
    (g_first_row_out : PySem.W.nsIn K mainGlobals "first_row_out" = some (some (.ref a_first_row_out)))
    (g_is_whole_number : PySem.W.nsIn K mainGlobals "is_whole_number" = some (some (.ref a_is_whole_number)))
    (g_is_integer_between : PySem.W.nsIn K mainGlobals "is_integer_between" = some (some (.ref a_is_integer_between)))
    (g_is_stand : PySem.W.nsIn K mainGlobals "_is_stand" = some (some (.ref a_is_stand)))
    (g_check_stands : PySem.W.nsIn K mainGlobals "_check_stands" = some (some (.ref a_check_stands)))
    (g_is_step : PySem.W.nsIn K mainGlobals "_is_step" = some (some (.ref a_is_step)))
    (g_check_steps : PySem.W.nsIn K mainGlobals "_check_steps" = some (some (.ref a_check_steps)))
    (g_is_ascending : PySem.W.nsIn K mainGlobals "is_ascending" = some (some (.ref a_is_ascending)))
    (g_check_ends : PySem.W.nsIn K mainGlobals "_check_ends" = some (some (.ref a_check_ends)))
    (g_check_machine : PySem.W.nsIn K mainGlobals "check_machine" = some (some (.ref a_check_machine)))
    (g_moves_of : PySem.W.nsIn K mainGlobals "moves_of" = some (some (.ref a_moves_of)))
    (g_moves_from : PySem.W.nsIn K mainGlobals "_moves_from" = some (some (.ref a_moves_from)))
    (g_first_apart : PySem.W.nsIn K mainGlobals "first_apart" = some (some (.ref a_first_apart)))
    (g_law_taken : PySem.W.nsIn K mainGlobals "_law_taken" = some (some (.ref a_law_taken)))
    (g_law_parts : PySem.W.nsIn K mainGlobals "_law_parts" = some (some (.ref a_law_parts)))
    (g_law_machine : PySem.W.nsIn K mainGlobals "_law_machine" = some (some (.ref a_law_machine)))
    (g_law_next : PySem.W.nsIn K mainGlobals "_law_next" = some (some (.ref a_law_next)))
    (g_law_like : PySem.W.nsIn K mainGlobals "_law_like" = some (some (.ref a_law_like)))
    (g_law : PySem.W.nsIn K mainGlobals "law" = some (some (.ref a_law)))
    (g_Machine : PySem.W.nsIn K mainGlobals "Machine" = some (some (.ref c_Machine)))
    (g_MOST_STANDS : PySem.W.nsIn K mainGlobals "MOST_STANDS" = some (some (.int 8 t_MOST_STANDS)))
    (g_MOST_GAIN : PySem.W.nsIn K mainGlobals "MOST_GAIN" = some (some (.int 1000000000000000000000000000000 t_MOST_GAIN)))
    (g_LETTERS : PySem.W.nsIn K mainGlobals "LETTERS" = some (some (.ref a_LETTERS)))
    (zz_bool : PySem.W.nsIn K mainGlobals "bool" = some none)
    (zz_enumerate : PySem.W.nsIn K mainGlobals "enumerate" = some none)
    (zz_int : PySem.W.nsIn K mainGlobals "int" = some none)
    (zz_isinstance : PySem.W.nsIn K mainGlobals "isinstance" = some none)
    (zz_len : PySem.W.nsIn K mainGlobals "len" = some none)
    (zz_list : PySem.W.nsIn K mainGlobals "list" = some none)
    (zz_max : PySem.W.nsIn K mainGlobals "max" = some none)
    (zz_range : PySem.W.nsIn K mainGlobals "range" = some none)
    (zz_sorted : PySem.W.nsIn K mainGlobals "sorted" = some none)
    (zz_str : PySem.W.nsIn K mainGlobals "str" = some none)
    (zz_tuple : PySem.W.nsIn K mainGlobals "tuple" = some none)
    (l_first_row_out : K.lookup a_first_row_out = some ⟨oc_first_row_out, od_first_row_out, .func (PySem.W.fnOf "first_row_out" "first_row_out" (defArgs s_first_row_out) (defBody s_first_row_out) (defScope s_first_row_out) .none kV_first_row_out dc_first_row_out pm_first_row_out an_first_row_out cd_first_row_out ct_first_row_out), sl_first_row_out⟩)
    (c_first_row_out : PySem.W.codeIn K cd_first_row_out "first_row_out" = true)
    (kk_first_row_out : PySem.W.keepIn K (.ref a_first_row_out) = true)
    (l_Machine_init : K.lookup a_Machine_init = some ⟨oc_Machine_init, od_Machine_init, .func (PySem.W.fnOf "__init__" "Machine.__init__" (defArgs s_Machine_init) (defBody s_Machine_init) (defScope s_Machine_init) .none kV_Machine_init dc_Machine_init pm_Machine_init an_Machine_init cd_Machine_init ct_Machine_init), sl_Machine_init⟩)
    (c_Machine_init : PySem.W.codeIn K cd_Machine_init "Machine.__init__" = true)
    (kk_Machine_init : PySem.W.keepIn K (.ref a_Machine_init) = true)
    (l_Machine_stands : K.lookup a_Machine_stands = some ⟨oc_Machine_stands, od_Machine_stands, .func (PySem.W.fnOf "stands" "Machine.stands" (defArgs s_Machine_stands) (defBody s_Machine_stands) (defScope s_Machine_stands) .none kV_Machine_stands dc_Machine_stands pm_Machine_stands an_Machine_stands cd_Machine_stands ct_Machine_stands), sl_Machine_stands⟩)
    (c_Machine_stands : PySem.W.codeIn K cd_Machine_stands "Machine.stands" = true)
    (kk_Machine_stands : PySem.W.keepIn K (.ref a_Machine_stands) = true)
    (l_Machine_steps : K.lookup a_Machine_steps = some ⟨oc_Machine_steps, od_Machine_steps, .func (PySem.W.fnOf "steps" "Machine.steps" (defArgs s_Machine_steps) (defBody s_Machine_steps) (defScope s_Machine_steps) .none kV_Machine_steps dc_Machine_steps pm_Machine_steps an_Machine_steps cd_Machine_steps ct_Machine_steps), sl_Machine_steps⟩)
    (c_Machine_steps : PySem.W.codeIn K cd_Machine_steps "Machine.steps" = true)
    (kk_Machine_steps : PySem.W.keepIn K (.ref a_Machine_steps) = true)
    (l_is_whole_number : K.lookup a_is_whole_number = some ⟨oc_is_whole_number, od_is_whole_number, .func (PySem.W.fnOf "is_whole_number" "is_whole_number" (defArgs s_is_whole_number) (defBody s_is_whole_number) (defScope s_is_whole_number) .none kV_is_whole_number dc_is_whole_number pm_is_whole_number an_is_whole_number cd_is_whole_number ct_is_whole_number), sl_is_whole_number⟩)
    (c_is_whole_number : PySem.W.codeIn K cd_is_whole_number "is_whole_number" = true)
    (kk_is_whole_number : PySem.W.keepIn K (.ref a_is_whole_number) = true)
    (l_is_integer_between : K.lookup a_is_integer_between = some ⟨oc_is_integer_between, od_is_integer_between, .func (PySem.W.fnOf "is_integer_between" "is_integer_between" (defArgs s_is_integer_between) (defBody s_is_integer_between) (defScope s_is_integer_between) .none kV_is_integer_between dc_is_integer_between pm_is_integer_between an_is_integer_between cd_is_integer_between ct_is_integer_between), sl_is_integer_between⟩)
    (c_is_integer_between : PySem.W.codeIn K cd_is_integer_between "is_integer_between" = true)
    (kk_is_integer_between : PySem.W.keepIn K (.ref a_is_integer_between) = true)
    (l_is_stand : K.lookup a_is_stand = some ⟨oc_is_stand, od_is_stand, .func (PySem.W.fnOf "_is_stand" "_is_stand" (defArgs s_is_stand) (defBody s_is_stand) (defScope s_is_stand) .none kV_is_stand dc_is_stand pm_is_stand an_is_stand cd_is_stand ct_is_stand), sl_is_stand⟩)
    (c_is_stand : PySem.W.codeIn K cd_is_stand "_is_stand" = true)
    (kk_is_stand : PySem.W.keepIn K (.ref a_is_stand) = true)
    (l_check_stands : K.lookup a_check_stands = some ⟨oc_check_stands, od_check_stands, .func (PySem.W.fnOf "_check_stands" "_check_stands" (defArgs s_check_stands) (defBody s_check_stands) (defScope s_check_stands) .none kV_check_stands dc_check_stands pm_check_stands an_check_stands cd_check_stands ct_check_stands), sl_check_stands⟩)
    (c_check_stands : PySem.W.codeIn K cd_check_stands "_check_stands" = true)
    (kk_check_stands : PySem.W.keepIn K (.ref a_check_stands) = true)
    (l_is_step : K.lookup a_is_step = some ⟨oc_is_step, od_is_step, .func (PySem.W.fnOf "_is_step" "_is_step" (defArgs s_is_step) (defBody s_is_step) (defScope s_is_step) .none kV_is_step dc_is_step pm_is_step an_is_step cd_is_step ct_is_step), sl_is_step⟩)
    (c_is_step : PySem.W.codeIn K cd_is_step "_is_step" = true)
    (kk_is_step : PySem.W.keepIn K (.ref a_is_step) = true)
    (l_check_steps : K.lookup a_check_steps = some ⟨oc_check_steps, od_check_steps, .func (PySem.W.fnOf "_check_steps" "_check_steps" (defArgs s_check_steps) (defBody s_check_steps) (defScope s_check_steps) .none kV_check_steps dc_check_steps pm_check_steps an_check_steps cd_check_steps ct_check_steps), sl_check_steps⟩)
    (c_check_steps : PySem.W.codeIn K cd_check_steps "_check_steps" = true)
    (kk_check_steps : PySem.W.keepIn K (.ref a_check_steps) = true)
    (l_is_ascending : K.lookup a_is_ascending = some ⟨oc_is_ascending, od_is_ascending, .func (PySem.W.fnOf "is_ascending" "is_ascending" (defArgs s_is_ascending) (defBody s_is_ascending) (defScope s_is_ascending) .none kV_is_ascending dc_is_ascending pm_is_ascending an_is_ascending cd_is_ascending ct_is_ascending), sl_is_ascending⟩)
    (c_is_ascending : PySem.W.codeIn K cd_is_ascending "is_ascending" = true)
    (kk_is_ascending : PySem.W.keepIn K (.ref a_is_ascending) = true)
    (l_check_ends : K.lookup a_check_ends = some ⟨oc_check_ends, od_check_ends, .func (PySem.W.fnOf "_check_ends" "_check_ends" (defArgs s_check_ends) (defBody s_check_ends) (defScope s_check_ends) .none kV_check_ends dc_check_ends pm_check_ends an_check_ends cd_check_ends ct_check_ends), sl_check_ends⟩)
    (c_check_ends : PySem.W.codeIn K cd_check_ends "_check_ends" = true)
    (kk_check_ends : PySem.W.keepIn K (.ref a_check_ends) = true)
    (l_check_machine : K.lookup a_check_machine = some ⟨oc_check_machine, od_check_machine, .func (PySem.W.fnOf "check_machine" "check_machine" (defArgs s_check_machine) (defBody s_check_machine) (defScope s_check_machine) .none kV_check_machine dc_check_machine pm_check_machine an_check_machine cd_check_machine ct_check_machine), sl_check_machine⟩)
    (c_check_machine : PySem.W.codeIn K cd_check_machine "check_machine" = true)
    (kk_check_machine : PySem.W.keepIn K (.ref a_check_machine) = true)
    (l_moves_of : K.lookup a_moves_of = some ⟨oc_moves_of, od_moves_of, .func (PySem.W.fnOf "moves_of" "moves_of" (defArgs s_moves_of) (defBody s_moves_of) (defScope s_moves_of) .none kV_moves_of dc_moves_of pm_moves_of an_moves_of cd_moves_of ct_moves_of), sl_moves_of⟩)
    (c_moves_of : PySem.W.codeIn K cd_moves_of "moves_of" = true)
    (kk_moves_of : PySem.W.keepIn K (.ref a_moves_of) = true)
    (l_moves_from : K.lookup a_moves_from = some ⟨oc_moves_from, od_moves_from, .func (PySem.W.fnOf "_moves_from" "_moves_from" (defArgs s_moves_from) (defBody s_moves_from) (defScope s_moves_from) .none kV_moves_from dc_moves_from pm_moves_from an_moves_from cd_moves_from ct_moves_from), sl_moves_from⟩)
    (c_moves_from : PySem.W.codeIn K cd_moves_from "_moves_from" = true)
    (kk_moves_from : PySem.W.keepIn K (.ref a_moves_from) = true)
    (l_first_apart : K.lookup a_first_apart = some ⟨oc_first_apart, od_first_apart, .func (PySem.W.fnOf "first_apart" "first_apart" (defArgs s_first_apart) (defBody s_first_apart) (defScope s_first_apart) .none kV_first_apart dc_first_apart pm_first_apart an_first_apart cd_first_apart ct_first_apart), sl_first_apart⟩)
    (c_first_apart : PySem.W.codeIn K cd_first_apart "first_apart" = true)
    (kk_first_apart : PySem.W.keepIn K (.ref a_first_apart) = true)
    (l_law_taken : K.lookup a_law_taken = some ⟨oc_law_taken, od_law_taken, .func (PySem.W.fnOf "_law_taken" "_law_taken" (defArgs s_law_taken) (defBody s_law_taken) (defScope s_law_taken) .none kV_law_taken dc_law_taken pm_law_taken an_law_taken cd_law_taken ct_law_taken), sl_law_taken⟩)
    (c_law_taken : PySem.W.codeIn K cd_law_taken "_law_taken" = true)
    (kk_law_taken : PySem.W.keepIn K (.ref a_law_taken) = true)
    (l_law_parts : K.lookup a_law_parts = some ⟨oc_law_parts, od_law_parts, .func (PySem.W.fnOf "_law_parts" "_law_parts" (defArgs s_law_parts) (defBody s_law_parts) (defScope s_law_parts) .none kV_law_parts dc_law_parts pm_law_parts an_law_parts cd_law_parts ct_law_parts), sl_law_parts⟩)
    (c_law_parts : PySem.W.codeIn K cd_law_parts "_law_parts" = true)
    (kk_law_parts : PySem.W.keepIn K (.ref a_law_parts) = true)
    (l_law_machine : K.lookup a_law_machine = some ⟨oc_law_machine, od_law_machine, .func (PySem.W.fnOf "_law_machine" "_law_machine" (defArgs s_law_machine) (defBody s_law_machine) (defScope s_law_machine) .none kV_law_machine dc_law_machine pm_law_machine an_law_machine cd_law_machine ct_law_machine), sl_law_machine⟩)
    (c_law_machine : PySem.W.codeIn K cd_law_machine "_law_machine" = true)
    (kk_law_machine : PySem.W.keepIn K (.ref a_law_machine) = true)
    (l_law_next : K.lookup a_law_next = some ⟨oc_law_next, od_law_next, .func (PySem.W.fnOf "_law_next" "_law_next" (defArgs s_law_next) (defBody s_law_next) (defScope s_law_next) .none kV_law_next dc_law_next pm_law_next an_law_next cd_law_next ct_law_next), sl_law_next⟩)
    (c_law_next : PySem.W.codeIn K cd_law_next "_law_next" = true)
    (kk_law_next : PySem.W.keepIn K (.ref a_law_next) = true)
    (l_law_like : K.lookup a_law_like = some ⟨oc_law_like, od_law_like, .func (PySem.W.fnOf "_law_like" "_law_like" (defArgs s_law_like) (defBody s_law_like) (defScope s_law_like) .none kV_law_like dc_law_like pm_law_like an_law_like cd_law_like ct_law_like), sl_law_like⟩)
    (c_law_like : PySem.W.codeIn K cd_law_like "_law_like" = true)
    (kk_law_like : PySem.W.keepIn K (.ref a_law_like) = true)
    (l_law : K.lookup a_law = some ⟨oc_law, od_law, .func (PySem.W.fnOf "law" "law" (defArgs s_law) (defBody s_law) (defScope s_law) .none kV_law dc_law pm_law an_law cd_law ct_law), sl_law⟩)
    (c_law : PySem.W.codeIn K cd_law "law" = true)
    (kk_law : PySem.W.keepIn K (.ref a_law) = true)
    (pg_Machine : PySem.W.plainGet K c_Machine Str.empty = true)
    (hd_Machine : PySem.W.hasDictIn K c_Machine = true)
    (po_Machine : PySem.W.plainOver K c_Machine = true)
    (sa_Machine : PySem.W.findIn K (.ref c_Machine) "__setattr__" = some (some (.builtin "object.__setattr__")))
    (mi_Machine : PySem.W.makesIn K c_Machine = true)
    (kc_Machine : PySem.W.keepIn K (.ref c_Machine) = true)
    (fi_Machine : PySem.W.findIn K (.ref c_Machine) "__init__" = some (some (.ref a_Machine_init)))
    (if_Machine : PySem.W.isFn K (.ref a_Machine_init) = true)
    (nf_stands : PySem.W.findIn K (.ref c_Machine) "_stands" = some none)
    (nf_steps : PySem.W.findIn K (.ref c_Machine) "_steps" = some none)
    (nf_ends : PySem.W.findIn K (.ref c_Machine) "_ends" = some none)
    (pf_stands : PySem.W.findIn K (.ref c_Machine) "stands" = some (some (.ref q_stands)))
    (pt_stands : PySem.W.specialIn K (.ref q_stands) "__get__" = some (some (.builtin "property.__get__")))
    (pk_stands : PySem.W.takesIn K (.ref q_stands) = some true)
    (pr_stands : PySem.W.recIn K q_stands "property" = some (.ref a_Machine_stands :: rest_stands))
    (pf_steps : PySem.W.findIn K (.ref c_Machine) "steps" = some (some (.ref q_steps)))
    (pt_steps : PySem.W.specialIn K (.ref q_steps) "__get__" = some (some (.builtin "property.__get__")))
    (pk_steps : PySem.W.takesIn K (.ref q_steps) = some true)
    (pr_steps : PySem.W.recIn K q_steps "property" = some (.ref a_Machine_steps :: rest_steps))
    (x_i1_Machine : PySem.W.findIn K (.ref c_Machine) "__class__" = some (some (.builtin "object.__class__")))
    (x_i2_Machine : PySem.W.specialIn K (.builtin "object.__class__") "__get__" = some (some (.builtin "getset_descriptor.__get__")))
    (x_i3_Machine : PySem.W.takesIn K (.builtin "object.__class__") = some true)
    (x_i4_Machine : PySem.W.mroIn K c_Machine (.type "object") = some true)
    (l_LETTERS : ∀ H : Hp, SqT K H a_LETTERS [V.str "a", V.str "b", V.str "c", V.str "d"]) : Txt K mg :=
  Txt.mk (K := K) (mg := mg)
    (a_first_row_out)
    (_)
    (fun_mk (st := s_first_row_out) l_first_row_out c_first_row_out kk_first_row_out)
    ((fun_mk (st := s_first_row_out) l_first_row_out c_first_row_out kk_first_row_out).binds (ps := ["moves", "begin"]) bb_first_row_out)
    (kk_first_row_out)
    (PySem.W.mg_of X G g_first_row_out)
    (a_Machine_init)
    (_)
    (fun_mk (st := s_Machine_init) l_Machine_init c_Machine_init kk_Machine_init)
    ((fun_mk (st := s_Machine_init) l_Machine_init c_Machine_init kk_Machine_init).binds (ps := ["self", "stands", "steps", "ends"]) bb_Machine_init)
    (kk_Machine_init)
    (a_Machine_stands)
    (_)
    (fun_mk (st := s_Machine_stands) l_Machine_stands c_Machine_stands kk_Machine_stands)
    ((fun_mk (st := s_Machine_stands) l_Machine_stands c_Machine_stands kk_Machine_stands).binds (ps := ["self"]) bb_Machine_stands)
    (kk_Machine_stands)
    (a_Machine_steps)
    (_)
    (fun_mk (st := s_Machine_steps) l_Machine_steps c_Machine_steps kk_Machine_steps)
    ((fun_mk (st := s_Machine_steps) l_Machine_steps c_Machine_steps kk_Machine_steps).binds (ps := ["self"]) bb_Machine_steps)
    (kk_Machine_steps)
    (a_is_whole_number)
    (_)
    (fun_mk (st := s_is_whole_number) l_is_whole_number c_is_whole_number kk_is_whole_number)
    ((fun_mk (st := s_is_whole_number) l_is_whole_number c_is_whole_number kk_is_whole_number).binds (ps := ["value"]) bb_is_whole_number)
    (kk_is_whole_number)
    (PySem.W.mg_of X G g_is_whole_number)
    (a_is_integer_between)
    (_)
    (fun_mk (st := s_is_integer_between) l_is_integer_between c_is_integer_between kk_is_integer_between)
    ((fun_mk (st := s_is_integer_between) l_is_integer_between c_is_integer_between kk_is_integer_between).binds (ps := ["value", "least", "most"]) bb_is_integer_between)
    (kk_is_integer_between)
    (PySem.W.mg_of X G g_is_integer_between)
    (a_is_stand)
    (_)
    (fun_mk (st := s_is_stand) l_is_stand c_is_stand kk_is_stand)
    ((fun_mk (st := s_is_stand) l_is_stand c_is_stand kk_is_stand).binds (ps := ["stands", "value"]) bb_is_stand)
    (kk_is_stand)
    (PySem.W.mg_of X G g_is_stand)
    (a_check_stands)
    (_)
    (fun_mk (st := s_check_stands) l_check_stands c_check_stands kk_check_stands)
    ((fun_mk (st := s_check_stands) l_check_stands c_check_stands kk_check_stands).binds (ps := ["stands"]) bb_check_stands)
    (kk_check_stands)
    (PySem.W.mg_of X G g_check_stands)
    (a_is_step)
    (_)
    (fun_mk (st := s_is_step) l_is_step c_is_step kk_is_step)
    ((fun_mk (st := s_is_step) l_is_step c_is_step kk_is_step).binds (ps := ["stands", "value"]) bb_is_step)
    (kk_is_step)
    (PySem.W.mg_of X G g_is_step)
    (a_check_steps)
    (_)
    (fun_mk (st := s_check_steps) l_check_steps c_check_steps kk_check_steps)
    ((fun_mk (st := s_check_steps) l_check_steps c_check_steps kk_check_steps).binds (ps := ["stands", "steps"]) bb_check_steps)
    (kk_check_steps)
    (PySem.W.mg_of X G g_check_steps)
    (a_is_ascending)
    (_)
    (fun_mk (st := s_is_ascending) l_is_ascending c_is_ascending kk_is_ascending)
    ((fun_mk (st := s_is_ascending) l_is_ascending c_is_ascending kk_is_ascending).binds (ps := ["value", "many"]) bb_is_ascending)
    (kk_is_ascending)
    (PySem.W.mg_of X G g_is_ascending)
    (a_check_ends)
    (_)
    (fun_mk (st := s_check_ends) l_check_ends c_check_ends kk_check_ends)
    ((fun_mk (st := s_check_ends) l_check_ends c_check_ends kk_check_ends).binds (ps := ["stands", "ends"]) bb_check_ends)
    (kk_check_ends)
    (PySem.W.mg_of X G g_check_ends)
    (a_check_machine)
    (_)
    (fun_mk (st := s_check_machine) l_check_machine c_check_machine kk_check_machine)
    ((fun_mk (st := s_check_machine) l_check_machine c_check_machine kk_check_machine).binds (ps := ["value"]) bb_check_machine)
    (kk_check_machine)
    (PySem.W.mg_of X G g_check_machine)
    (a_moves_of)
    (_)
    (fun_mk (st := s_moves_of) l_moves_of c_moves_of kk_moves_of)
    ((fun_mk (st := s_moves_of) l_moves_of c_moves_of kk_moves_of).binds (ps := ["machine"]) bb_moves_of)
    (kk_moves_of)
    (PySem.W.mg_of X G g_moves_of)
    (a_moves_from)
    (_)
    (fun_mk (st := s_moves_from) l_moves_from c_moves_from kk_moves_from)
    ((fun_mk (st := s_moves_from) l_moves_from c_moves_from kk_moves_from).binds (ps := ["one_moves", "other_moves", "begun", "start"]) bb_moves_from)
    (kk_moves_from)
    (PySem.W.mg_of X G g_moves_from)
    (a_first_apart)
    (_)
    (fun_mk (st := s_first_apart) l_first_apart c_first_apart kk_first_apart)
    ((fun_mk (st := s_first_apart) l_first_apart c_first_apart kk_first_apart).binds (ps := ["one", "other"]) bb_first_apart)
    (kk_first_apart)
    (PySem.W.mg_of X G g_first_apart)
    (a_law_taken)
    (_)
    (fun_mk (st := s_law_taken) l_law_taken c_law_taken kk_law_taken)
    ((fun_mk (st := s_law_taken) l_law_taken c_law_taken kk_law_taken).binds (ps := ["_law_row", "_law_many"]) bb_law_taken)
    (kk_law_taken)
    (PySem.W.mg_of X G g_law_taken)
    (a_law_parts)
    (_)
    (fun_mk (st := s_law_parts) l_law_parts c_law_parts kk_law_parts)
    ((fun_mk (st := s_law_parts) l_law_parts c_law_parts kk_law_parts).binds (ps := ["_law_row", "_law_stands", "_law_size"]) bb_law_parts)
    (kk_law_parts)
    (PySem.W.mg_of X G g_law_parts)
    (a_law_machine)
    (_)
    (fun_mk (st := s_law_machine) l_law_machine c_law_machine kk_law_machine)
    ((fun_mk (st := s_law_machine) l_law_machine c_law_machine kk_law_machine).binds (ps := ["_law_d"]) bb_law_machine)
    (kk_law_machine)
    (PySem.W.mg_of X G g_law_machine)
    (a_law_next)
    (_)
    (fun_mk (st := s_law_next) l_law_next c_law_next kk_law_next)
    ((fun_mk (st := s_law_next) l_law_next c_law_next kk_law_next).binds (ps := ["_law_d", "_law_stand"]) bb_law_next)
    (kk_law_next)
    (PySem.W.mg_of X G g_law_next)
    (a_law_like)
    (_)
    (fun_mk (st := s_law_like) l_law_like c_law_like kk_law_like)
    ((fun_mk (st := s_law_like) l_law_like c_law_like kk_law_like).binds (ps := ["_law_row", "_law_d"]) bb_law_like)
    (kk_law_like)
    (PySem.W.mg_of X G g_law_like)
    (a_law)
    (_)
    (fun_mk (st := s_law) l_law c_law kk_law)
    ((fun_mk (st := s_law) l_law c_law kk_law).binds (ps := ["_law_script"]) bb_law)
    (kk_law)
    (PySem.W.mg_of X G g_law)
    (c_Machine)
    (⟨pg_Machine, hd_Machine, po_Machine, sa_Machine⟩)
    (PySem.W.mg_of X G g_Machine)
    (⟨mi_Machine, fi_Machine, if_Machine, kc_Machine⟩)
    (nf_stands)
    (nf_steps)
    (nf_ends)
    (q_stands)
    (⟨pf_stands, pt_stands, pk_stands, ⟨_, pr_stands⟩⟩)
    (q_steps)
    (⟨pf_steps, pt_steps, pk_steps, ⟨_, pr_steps⟩⟩)
    (x_i1_Machine)
    (x_i2_Machine)
    (x_i3_Machine)
    (x_i4_Machine)
    (.int 8 t_MOST_STANDS)
    (PySem.W.mg_of X G g_MOST_STANDS)
    (⟨_, rfl⟩)
    (.int 1000000000000000000000000000000 t_MOST_GAIN)
    (PySem.W.mg_of X G g_MOST_GAIN)
    (⟨_, rfl⟩)
    (a_LETTERS)
    (PySem.W.mg_of X G g_LETTERS)
    (rfl)
    (l_LETTERS)
    (PySem.W.mg_none_of X G zz_bool)
    (PySem.W.mg_none_of X G zz_enumerate)
    (PySem.W.mg_none_of X G zz_int)
    (PySem.W.mg_none_of X G zz_isinstance)
    (PySem.W.mg_none_of X G zz_len)
    (PySem.W.mg_none_of X G zz_list)
    (PySem.W.mg_none_of X G zz_max)
    (PySem.W.mg_none_of X G zz_range)
    (PySem.W.mg_none_of X G zz_sorted)
    (PySem.W.mg_none_of X G zz_str)
    (PySem.W.mg_none_of X G zz_tuple)
    (fun s v => .of_eq rfl)
theorem all_mk {l : PySem.W.OpenLaw} {w : World} {K : PySem.W.Frag} {mg : Str → Option Value} {fa : Addr} (T : Txt K mg) (hfa : mg "law" = some (.ref fa)) :
    ∃ fd : FuncData, (∀ (s : Shared) (v : Value), BindsTo s fd ⟨[v], []⟩ [("_law_script", v)]) ∧ ∀ base : Heap, K.In base → base.Ns mainGlobals mg → FnOk l.prog w K mg base (L2.CX l.prog w) 20 fa fd ["_law_script"] (sp_law K) := by
  have e := hfa.symm.trans T.m_law
  cases e
  exact ⟨T.fd_law, T.bs_law, fun _ _ _ => ok_law T⟩
/-! ### the head by facts: the names that the law comes to, read off the run's end -/
section
open He
theorem map_join {α β γ δ : Type} {o : Option α} {a : α → β} {b : α → γ} {c : α → δ} {A : β} {B : γ} {C : δ} (h1 : o.map (fun x => a x) = some A) (h2 : o.map (fun x => b x) = some B) (h3 : o.map (fun x => c x) = some C) : o.map (fun x => (a x, b x, c x)) = some (A, B, C) := by
  cases o with
  | none => cases h1
  | some x =>
    have e1 : a x = A := Option.some.inj h1
    have e2 : b x = B := Option.some.inj h2
    have e3 : c x = C := Option.some.inj h3
    show some (a x, b x, c x) = _
    rw [e1, e2, e3]
def asN (g : Addr → Option Obj) (names : List Str) : List Addr := names.filterMap fun x => match PySem.W.nsIn (frG g [mainGlobals]) mainGlobals x with
  | some (some (.ref a)) => some a
  | _ => none
/-- what a function, a class, a table, a property names: a code object's own things are not looked at -/
def refsS (o : Obj) : List Addr := match o.data with
  | .seq its _ => its.toList.flatMap refV
  | .dict es _ => es.toList.flatMap fun e => refV e.val
  | .func fd => refV fd.code
  | .cls cd => cd.ns :: cd.mro.flatMap refV
  | .fields vs => (match o.cls with
    | .type c => (match decide (c = "property") with
      | true => vs.toList.flatMap refV
      | false => [])
    | _ => [])
  | _ => []
def newS (g : Addr → Option Obj) (as : List Addr) : List Addr := as.flatMap fun a => match g a with
  | some o => refsS o
  | none => []
/-- what is new at each step alone goes on -/
def grN (g : Addr → Option Obj) : Nat → List Addr → List Addr
  | 0, as => as
  | n + 1, as => as ++ grN g n (newS g as)
def frK (names : List Str) (n : Nat) (g : Addr → Option Obj) : PySem.W.Frag := frG g (mainGlobals :: cStatics :: grN g n (asN g names))
/-- a def of the text: its function's address as the written part tells it, what it must hold -/
structure FnA where
  ad : PySem.W.Frag → Addr
  name : Str
  qual : Str
  params : Arguments
  body : List Stmt
  scope : Scope
def FnSaid (K : PySem.W.Frag) (d : FnA) : Prop := ∃ oc od osl kV doc pm an cdv ct, K.lookup (d.ad K) = some ⟨oc, od, .func (PySem.W.fnOf d.name d.qual d.params d.body d.scope .none kV doc pm an cdv ct), osl⟩ ∧ PySem.W.codeIn K cdv d.qual = true
abbrev FnT : Type := Str × Str × Arguments × FuncBody × Scope × Addr × List (Str × Addr) × Value × Addr × Bool
def seenA (K : PySem.W.Frag) (d : FnA) : Option FnT := (K.lookup (d.ad K)).bind fun o => match o.data with
  | .func u => some (u.name, u.qualname, u.params, u.body, u.scope, u.globals, u.closure, u.defaults, u.builtins, PySem.W.codeIn K u.code d.qual)
  | _ => none
def wishA (d : FnA) : Option FnT := some (d.name, d.qual, d.params, .stmts d.body, d.scope, mainGlobals, [], .none, builtinsNs, true)
theorem seenA_ok {K : PySem.W.Frag} {d : FnA} (e : seenA K d = wishA d) : FnSaid K d := by
  obtain ⟨o, ho, e2⟩ := Option.bind_eq_some_iff.mp e
  obtain ⟨oc, od, dt, osl⟩ := o
  cases dt with
  | func u =>
    obtain ⟨u1, u2, u3, u4, u5, u6, u7, u8, u9, u10, u11, u12, u13, u14, u15⟩ := u
    have e3 := Option.some.inj e2
    simp only [Prod.mk.injEq] at e3
    obtain ⟨h1, h2, h3, h4, h5, h6, h7, h8, h9, h10⟩ := e3
    subst h1 h2 h3 h4 h5 h6 h7 h8 h9
    exact ⟨oc, od, osl, u9, u10, u11, u12, u13, u14, ho, h10⟩
  | _ => cases e2
abbrev AlF : Type := Bool × List (Option FnT)
def obsF (names : List Str) (n : Nat) (fn : List FnA) (ex : PySem.W.Frag → List Bool) (g : Addr → Option Obj) : AlF := ((ex (frK names n g)).all (fun b => b), fn.map (seenA (frK names n g)))
def valF (fn : List FnA) : AlF := (true, fn.map wishA)
theorem said_of {names : List Str} {n : Nat} {fn : List FnA} {ex : PySem.W.Frag → List Bool} {g : Addr → Option Obj} (e : obsF names n fn ex g = valF fn) : (ex (frK names n g)).all (fun b => b) = true ∧ ∀ (i : Nat) (d : FnA), fn[i]? = some d → FnSaid (frK names n g) d := by
  refine ⟨congrArg (fun z : AlF => z.1) e, fun i d h => ?_⟩
  have e3 : fn.map (seenA (frK names n g)) = fn.map wishA := congrArg (fun z : AlF => z.2) e
  have e2 : (fn.map (seenA (frK names n g)))[i]? = (fn.map wishA)[i]? := by rw [e3]
  rw [List.getElem?_map, List.getElem?_map, h] at e2
  exact seenA_ok (Option.some.inj e2)
def hookF (names : List Str) (n : Nat) (fn : List FnA) (ex : PySem.W.Frag → List Bool) : PySem.W.Hook where
  α := AlF
  obs := fun s => obsF names n fn ex s.heap.get?
  val := fun _ => valF fn
  says := fun _ h => ∃ K : PySem.W.Frag, K.In h ∧ (ex K).all (fun b => b) = true ∧ ∀ (i : Nat) (d : FnA), fn[i]? = some d → FnSaid K d
  of := fun _ _ e => ⟨_, frG_in, said_of e⟩
  keeps := fun _ _ _ ⟨K, hK, c⟩ k => ⟨K, PySem.W.Frag.In.keeps hK k, c⟩
theorem row_ok {l : List Bool} (h : l.all (fun b => b) = true) (i : Nat) {b : Bool} (e : l[i]? = some b) : b = true := List.all_eq_true.mp h b (List.mem_of_getElem? e)
theorem int_k {K : PySem.W.Frag} {x : Str} {i : Int} (c : (Fa.int x i).ok K = true) : ∃ t, PySem.W.nsIn K mainGlobals x = some (some (.int i t)) := by
  have c2 : (match PySem.W.nsIn K mainGlobals x with
    | some (some (.int j _)) => decide (j = i)
    | _ => false) = true := c
  cases e : PySem.W.nsIn K mainGlobals x with
  | none => rw [e] at c2; cases c2
  | some o =>
    rw [e] at c2
    cases o with
    | none => cases c2
    | some v =>
      cases v with
      | int j t =>
        have ej : j = i := of_decide_eq_true c2
        rw [ej]
        exact ⟨t, rfl⟩
      | _ => cases c2
theorem str_k {K : PySem.W.Frag} {x z : Str} (c : (Fa.str x z).ok K = true) : ∃ t, PySem.W.nsIn K mainGlobals x = some (some (.str z t)) := by
  have c2 : (match PySem.W.nsIn K mainGlobals x with
    | some (some (.str y _)) => decide (y = z)
    | _ => false) = true := c
  cases e : PySem.W.nsIn K mainGlobals x with
  | none => rw [e] at c2; cases c2
  | some o =>
    rw [e] at c2
    cases o with
    | none => cases c2
    | some v =>
      cases v with
      | str y t =>
        have ej : y = z := of_decide_eq_true c2
        rw [ej]
        exact ⟨t, rfl⟩
      | _ => cases c2
/-- the getter's function of a property, the base behind an exception's class -/
def pgA (K : PySem.W.Frag) (C p : Str) : Addr := match PySem.W.recIn K (ma K (ga K C) p) "property" with
  | some (.ref a :: _) => a
  | _ => 0
def pgB (K : PySem.W.Frag) (C p : Str) : Bool := match PySem.W.recIn K (ma K (ga K C) p) "property" with
  | some (.ref _ :: _) => true
  | _ => false
theorem pgB_ok {K : PySem.W.Frag} {C p : Str} (h : pgB K C p = true) : ∃ rest, PySem.W.recIn K (ma K (ga K C) p) "property" = some (.ref (pgA K C p) :: rest) := by
  unfold pgB at h
  unfold pgA
  cases e : PySem.W.recIn K (ma K (ga K C) p) "property" with
  | none => rw [e] at h; cases h
  | some l =>
    cases l with
    | nil => rw [e] at h; cases h
    | cons v r =>
      cases v with
      | ref a => exact ⟨r, rfl⟩
      | _ => rw [e] at h; cases h
def fvB (K : PySem.W.Frag) (C : Addr) : Bool := match PySem.W.findCls K (.ref C) (.type "type") "__init__" with
  | some (.val (.builtin b)) => decide (b = "ValueError.__init__")
  | _ => false
theorem fvB_ok {K : PySem.W.Frag} {C : Addr} (h : fvB K C = true) : PySem.W.findCls K (.ref C) (.type "type") "__init__" = some (.val (.builtin "ValueError.__init__")) := by
  unfold fvB at h
  split at h
  · rename_i b e
    rw [e, of_decide_eq_true h]
  · cases h
def exclB (K : PySem.W.Frag) (C : Addr) : Bool := match K.lookup C with
  | some ⟨.type t, _, .cls cd, sl⟩ => (match cd.mro, sl.toList with
    | .ref D :: bm, [_, _, _, _, some (.builtin b), _] => decide (t = "type") && (decide (D = C) && (decide (b = "ValueError.__new__") && (decide (cd.hasDel = false) && (decide (cd.hasDict = true) && PySem.HandSPX.refsVE bm))))
    | _, _ => false)
  | _ => false
theorem exclB_ok {K : PySem.W.Frag} {C : Addr} (h : exclB K C = true) : ∃ nm q N bs bm sn sub ab col dd k0 k1 k2 k3 k5, K.lookup C = some (excClassObj nm q C N bs bm true sn sub ab col dd k0 k1 k2 k3 k5 "ValueError.__new__") ∧ PySem.HandSPX.refsVE bm = true := by
  unfold exclB at h
  split at h
  · rename_i t dd cd sl ho
    split at h
    · rename_i D bm k0 k1 k2 k3 b k5 hm hs
      obtain ⟨h1, h⟩ := ba h
      obtain ⟨h2, h⟩ := ba h
      obtain ⟨h3, h⟩ := ba h
      obtain ⟨h4, h⟩ := ba h
      obtain ⟨h5, h6⟩ := ba h
      obtain ⟨nm, bs, mro, ns, qn, hd, sn, sub, ab, col, del⟩ := cd
      have q1 := of_decide_eq_true h1
      have q2 := of_decide_eq_true h2
      have q3 := of_decide_eq_true h3
      have q4 : del = false := of_decide_eq_true h4
      have q5 : hd = true := of_decide_eq_true h5
      have q6 : mro = .ref D :: bm := hm
      clear h1 h2 h3 h4 h5 hm
      have hsl : sl = #[k0, k1, k2, k3, some (.builtin b), k5] := by
        obtain ⟨l⟩ := sl
        have hs : l = [k0, k1, k2, k3, some (.builtin b), k5] := hs
        rw [hs]
      clear hs
      subst q1 q2 q3 q4 q5 q6 hsl
      exact ⟨nm, qn, ns, bs, bm, sn, sub, ab, col, dd, k0, k1, k2, k3, k5, ho, h6⟩
    · cases h
  · cases h
def nm_0 : List Str := ["first_row_out", "is_whole_number", "is_integer_between", "_is_stand", "_check_stands", "_is_step", "_check_steps", "is_ascending", "_check_ends", "check_machine", "moves_of", "_moves_from", "first_apart", "_law_taken", "_law_parts", "_law_machine", "_law_next", "_law_like", "law", "Machine", "LETTERS"]
def nms : List Str := nm_0
def fd_first_row_out : FnA := ⟨fun K => fAd K ("first_row_out", none), "first_row_out", "first_row_out", defArgs s_first_row_out, defBody s_first_row_out, defScope s_first_row_out⟩
def fd_Machine_init : FnA := ⟨fun K => fAd K ("Machine", some "__init__"), "__init__", "Machine.__init__", defArgs s_Machine_init, defBody s_Machine_init, defScope s_Machine_init⟩
def fd_Machine_stands : FnA := ⟨fun K => pgA K "Machine" "stands", "stands", "Machine.stands", defArgs s_Machine_stands, defBody s_Machine_stands, defScope s_Machine_stands⟩
def fd_Machine_steps : FnA := ⟨fun K => pgA K "Machine" "steps", "steps", "Machine.steps", defArgs s_Machine_steps, defBody s_Machine_steps, defScope s_Machine_steps⟩
def fd_is_whole_number : FnA := ⟨fun K => fAd K ("is_whole_number", none), "is_whole_number", "is_whole_number", defArgs s_is_whole_number, defBody s_is_whole_number, defScope s_is_whole_number⟩
def fd_is_integer_between : FnA := ⟨fun K => fAd K ("is_integer_between", none), "is_integer_between", "is_integer_between", defArgs s_is_integer_between, defBody s_is_integer_between, defScope s_is_integer_between⟩
def fd_is_stand : FnA := ⟨fun K => fAd K ("_is_stand", none), "_is_stand", "_is_stand", defArgs s_is_stand, defBody s_is_stand, defScope s_is_stand⟩
def fd_check_stands : FnA := ⟨fun K => fAd K ("_check_stands", none), "_check_stands", "_check_stands", defArgs s_check_stands, defBody s_check_stands, defScope s_check_stands⟩
def fd_is_step : FnA := ⟨fun K => fAd K ("_is_step", none), "_is_step", "_is_step", defArgs s_is_step, defBody s_is_step, defScope s_is_step⟩
def fd_check_steps : FnA := ⟨fun K => fAd K ("_check_steps", none), "_check_steps", "_check_steps", defArgs s_check_steps, defBody s_check_steps, defScope s_check_steps⟩
def fd_is_ascending : FnA := ⟨fun K => fAd K ("is_ascending", none), "is_ascending", "is_ascending", defArgs s_is_ascending, defBody s_is_ascending, defScope s_is_ascending⟩
def fd_check_ends : FnA := ⟨fun K => fAd K ("_check_ends", none), "_check_ends", "_check_ends", defArgs s_check_ends, defBody s_check_ends, defScope s_check_ends⟩
def fd_check_machine : FnA := ⟨fun K => fAd K ("check_machine", none), "check_machine", "check_machine", defArgs s_check_machine, defBody s_check_machine, defScope s_check_machine⟩
def fd_moves_of : FnA := ⟨fun K => fAd K ("moves_of", none), "moves_of", "moves_of", defArgs s_moves_of, defBody s_moves_of, defScope s_moves_of⟩
def fd_moves_from : FnA := ⟨fun K => fAd K ("_moves_from", none), "_moves_from", "_moves_from", defArgs s_moves_from, defBody s_moves_from, defScope s_moves_from⟩
def fd_first_apart : FnA := ⟨fun K => fAd K ("first_apart", none), "first_apart", "first_apart", defArgs s_first_apart, defBody s_first_apart, defScope s_first_apart⟩
def fd_law_taken : FnA := ⟨fun K => fAd K ("_law_taken", none), "_law_taken", "_law_taken", defArgs s_law_taken, defBody s_law_taken, defScope s_law_taken⟩
def fd_law_parts : FnA := ⟨fun K => fAd K ("_law_parts", none), "_law_parts", "_law_parts", defArgs s_law_parts, defBody s_law_parts, defScope s_law_parts⟩
def fd_law_machine : FnA := ⟨fun K => fAd K ("_law_machine", none), "_law_machine", "_law_machine", defArgs s_law_machine, defBody s_law_machine, defScope s_law_machine⟩
def fd_law_next : FnA := ⟨fun K => fAd K ("_law_next", none), "_law_next", "_law_next", defArgs s_law_next, defBody s_law_next, defScope s_law_next⟩
def fd_law_like : FnA := ⟨fun K => fAd K ("_law_like", none), "_law_like", "_law_like", defArgs s_law_like, defBody s_law_like, defScope s_law_like⟩
def fd_law : FnA := ⟨fun K => fAd K ("law", none), "law", "law", defArgs s_law, defBody s_law, defScope s_law⟩
def fn_0 : List FnA := [fd_first_row_out, fd_Machine_init, fd_Machine_stands, fd_Machine_steps, fd_is_whole_number, fd_is_integer_between, fd_is_stand, fd_check_stands, fd_is_step, fd_check_steps, fd_is_ascending, fd_check_ends, fd_check_machine, fd_moves_of, fd_moves_from, fd_first_apart, fd_law_taken, fd_law_parts, fd_law_machine, fd_law_next, fd_law_like, fd_law]
def fns : List FnA := fn_0
def ex_0 (K : PySem.W.Frag) : List Bool := [
    decide (PySem.W.nsIn K mainGlobals "first_row_out" = some (some (.ref (fAd K ("first_row_out", none))))),
    decide (PySem.W.nsIn K mainGlobals "is_whole_number" = some (some (.ref (fAd K ("is_whole_number", none))))),
    decide (PySem.W.nsIn K mainGlobals "is_integer_between" = some (some (.ref (fAd K ("is_integer_between", none))))),
    decide (PySem.W.nsIn K mainGlobals "_is_stand" = some (some (.ref (fAd K ("_is_stand", none))))),
    decide (PySem.W.nsIn K mainGlobals "_check_stands" = some (some (.ref (fAd K ("_check_stands", none))))),
    decide (PySem.W.nsIn K mainGlobals "_is_step" = some (some (.ref (fAd K ("_is_step", none))))),
    decide (PySem.W.nsIn K mainGlobals "_check_steps" = some (some (.ref (fAd K ("_check_steps", none))))),
    decide (PySem.W.nsIn K mainGlobals "is_ascending" = some (some (.ref (fAd K ("is_ascending", none))))),
    decide (PySem.W.nsIn K mainGlobals "_check_ends" = some (some (.ref (fAd K ("_check_ends", none))))),
    decide (PySem.W.nsIn K mainGlobals "check_machine" = some (some (.ref (fAd K ("check_machine", none))))),
    decide (PySem.W.nsIn K mainGlobals "moves_of" = some (some (.ref (fAd K ("moves_of", none))))),
    decide (PySem.W.nsIn K mainGlobals "_moves_from" = some (some (.ref (fAd K ("_moves_from", none))))),
    decide (PySem.W.nsIn K mainGlobals "first_apart" = some (some (.ref (fAd K ("first_apart", none))))),
    decide (PySem.W.nsIn K mainGlobals "_law_taken" = some (some (.ref (fAd K ("_law_taken", none))))),
    decide (PySem.W.nsIn K mainGlobals "_law_parts" = some (some (.ref (fAd K ("_law_parts", none))))),
    decide (PySem.W.nsIn K mainGlobals "_law_machine" = some (some (.ref (fAd K ("_law_machine", none))))),
    decide (PySem.W.nsIn K mainGlobals "_law_next" = some (some (.ref (fAd K ("_law_next", none))))),
    decide (PySem.W.nsIn K mainGlobals "_law_like" = some (some (.ref (fAd K ("_law_like", none))))),
    decide (PySem.W.nsIn K mainGlobals "law" = some (some (.ref (fAd K ("law", none))))),
    decide (PySem.W.nsIn K mainGlobals "Machine" = some (some (.ref (ga K "Machine")))),
    (Fa.int "MOST_STANDS" (8)).ok K,
    (Fa.int "MOST_GAIN" (1000000000000000000000000000000)).ok K,
    decide (PySem.W.nsIn K mainGlobals "LETTERS" = some (some (.ref (ga K "LETTERS")))),
    decide (PySem.W.nsIn K mainGlobals "bool" = some none),
    decide (PySem.W.nsIn K mainGlobals "enumerate" = some none)]
def ex_1 (K : PySem.W.Frag) : List Bool := [
    decide (PySem.W.nsIn K mainGlobals "int" = some none),
    decide (PySem.W.nsIn K mainGlobals "isinstance" = some none),
    decide (PySem.W.nsIn K mainGlobals "len" = some none),
    decide (PySem.W.nsIn K mainGlobals "list" = some none),
    decide (PySem.W.nsIn K mainGlobals "max" = some none),
    decide (PySem.W.nsIn K mainGlobals "range" = some none),
    decide (PySem.W.nsIn K mainGlobals "sorted" = some none),
    decide (PySem.W.nsIn K mainGlobals "str" = some none),
    decide (PySem.W.nsIn K mainGlobals "tuple" = some none),
    decide (PySem.W.keepIn K (.ref (fAd K ("first_row_out", none))) = true),
    decide (PySem.W.keepIn K (.ref (fAd K ("Machine", some "__init__"))) = true),
    decide (PySem.W.keepIn K (.ref (pgA K "Machine" "stands")) = true),
    decide (PySem.W.keepIn K (.ref (pgA K "Machine" "steps")) = true),
    decide (PySem.W.keepIn K (.ref (fAd K ("is_whole_number", none))) = true),
    decide (PySem.W.keepIn K (.ref (fAd K ("is_integer_between", none))) = true),
    decide (PySem.W.keepIn K (.ref (fAd K ("_is_stand", none))) = true),
    decide (PySem.W.keepIn K (.ref (fAd K ("_check_stands", none))) = true),
    decide (PySem.W.keepIn K (.ref (fAd K ("_is_step", none))) = true),
    decide (PySem.W.keepIn K (.ref (fAd K ("_check_steps", none))) = true),
    decide (PySem.W.keepIn K (.ref (fAd K ("is_ascending", none))) = true),
    decide (PySem.W.keepIn K (.ref (fAd K ("_check_ends", none))) = true),
    decide (PySem.W.keepIn K (.ref (fAd K ("check_machine", none))) = true),
    decide (PySem.W.keepIn K (.ref (fAd K ("moves_of", none))) = true),
    decide (PySem.W.keepIn K (.ref (fAd K ("_moves_from", none))) = true),
    decide (PySem.W.keepIn K (.ref (fAd K ("first_apart", none))) = true)]
def ex_2 (K : PySem.W.Frag) : List Bool := [
    decide (PySem.W.keepIn K (.ref (fAd K ("_law_taken", none))) = true),
    decide (PySem.W.keepIn K (.ref (fAd K ("_law_parts", none))) = true),
    decide (PySem.W.keepIn K (.ref (fAd K ("_law_machine", none))) = true),
    decide (PySem.W.keepIn K (.ref (fAd K ("_law_next", none))) = true),
    decide (PySem.W.keepIn K (.ref (fAd K ("_law_like", none))) = true),
    decide (PySem.W.keepIn K (.ref (fAd K ("law", none))) = true),
    decide (PySem.W.plainGet K (ga K "Machine") Str.empty = true),
    decide (PySem.W.hasDictIn K (ga K "Machine") = true),
    decide (PySem.W.plainOver K (ga K "Machine") = true),
    decide (PySem.W.findIn K (.ref (ga K "Machine")) "__setattr__" = some (some (.builtin "object.__setattr__"))),
    decide (PySem.W.makesIn K (ga K "Machine") = true),
    decide (PySem.W.keepIn K (.ref (ga K "Machine")) = true),
    decide (PySem.W.findIn K (.ref (ga K "Machine")) "__init__" = some (some (.ref (fAd K ("Machine", some "__init__"))))),
    decide (PySem.W.isFn K (.ref (fAd K ("Machine", some "__init__"))) = true),
    decide (PySem.W.findIn K (.ref (ga K "Machine")) "_stands" = some none),
    decide (PySem.W.findIn K (.ref (ga K "Machine")) "_steps" = some none),
    decide (PySem.W.findIn K (.ref (ga K "Machine")) "_ends" = some none),
    decide (PySem.W.findIn K (.ref (ga K "Machine")) "stands" = some (some (.ref (ma K (ga K "Machine") "stands")))),
    decide (PySem.W.specialIn K (.ref (ma K (ga K "Machine") "stands")) "__get__" = some (some (.builtin "property.__get__"))),
    decide (PySem.W.takesIn K (.ref (ma K (ga K "Machine") "stands")) = some true),
    pgB K "Machine" "stands",
    decide (PySem.W.findIn K (.ref (ga K "Machine")) "steps" = some (some (.ref (ma K (ga K "Machine") "steps")))),
    decide (PySem.W.specialIn K (.ref (ma K (ga K "Machine") "steps")) "__get__" = some (some (.builtin "property.__get__"))),
    decide (PySem.W.takesIn K (.ref (ma K (ga K "Machine") "steps")) = some true),
    pgB K "Machine" "steps"]
def ex_3 (K : PySem.W.Frag) : List Bool := [
    decide (PySem.W.findIn K (.ref (ga K "Machine")) "__class__" = some (some (.builtin "object.__class__"))),
    decide (PySem.W.specialIn K (.builtin "object.__class__") "__get__" = some (some (.builtin "getset_descriptor.__get__"))),
    decide (PySem.W.takesIn K (.builtin "object.__class__") = some true),
    decide (PySem.W.mroIn K (ga K "Machine") (.type "object") = some true),
    tupB K "LETTERS" [.str "a", .str "b", .str "c", .str "d"]]
def exs (K : PySem.W.Frag) : List Bool := [(ex_0 K).all fun b => b, (ex_1 K).all fun b => b, (ex_2 K).all fun b => b, (ex_3 K).all fun b => b]
theorem txt_of {K : PySem.W.Frag} {h : Heap} {mg : Str → Option Value} (X : K.In h) (G : h.Ns mainGlobals mg) (he : (exs K).all (fun b => b) = true) (hf : ∀ (i : Nat) (d : FnA), fns[i]? = some d → FnSaid K d) : Nonempty (Txt K mg) := by
  have e0 := row_ok he 0 (b := (ex_0 K).all fun b => b) rfl
  have e1 := row_ok he 1 (b := (ex_1 K).all fun b => b) rfl
  have e2 := row_ok he 2 (b := (ex_2 K).all fun b => b) rfl
  have e3 := row_ok he 3 (b := (ex_3 K).all fun b => b) rfl
  obtain ⟨oc_first_row_out, od_first_row_out, sl_first_row_out, kV_first_row_out, dc_first_row_out, pm_first_row_out, an_first_row_out, cd_first_row_out, ct_first_row_out, l_first_row_out, c_first_row_out⟩ := hf 0 fd_first_row_out rfl
  obtain ⟨oc_Machine_init, od_Machine_init, sl_Machine_init, kV_Machine_init, dc_Machine_init, pm_Machine_init, an_Machine_init, cd_Machine_init, ct_Machine_init, l_Machine_init, c_Machine_init⟩ := hf 1 fd_Machine_init rfl
  obtain ⟨oc_Machine_stands, od_Machine_stands, sl_Machine_stands, kV_Machine_stands, dc_Machine_stands, pm_Machine_stands, an_Machine_stands, cd_Machine_stands, ct_Machine_stands, l_Machine_stands, c_Machine_stands⟩ := hf 2 fd_Machine_stands rfl
  obtain ⟨oc_Machine_steps, od_Machine_steps, sl_Machine_steps, kV_Machine_steps, dc_Machine_steps, pm_Machine_steps, an_Machine_steps, cd_Machine_steps, ct_Machine_steps, l_Machine_steps, c_Machine_steps⟩ := hf 3 fd_Machine_steps rfl
  obtain ⟨oc_is_whole_number, od_is_whole_number, sl_is_whole_number, kV_is_whole_number, dc_is_whole_number, pm_is_whole_number, an_is_whole_number, cd_is_whole_number, ct_is_whole_number, l_is_whole_number, c_is_whole_number⟩ := hf 4 fd_is_whole_number rfl
  obtain ⟨oc_is_integer_between, od_is_integer_between, sl_is_integer_between, kV_is_integer_between, dc_is_integer_between, pm_is_integer_between, an_is_integer_between, cd_is_integer_between, ct_is_integer_between, l_is_integer_between, c_is_integer_between⟩ := hf 5 fd_is_integer_between rfl
  obtain ⟨oc_is_stand, od_is_stand, sl_is_stand, kV_is_stand, dc_is_stand, pm_is_stand, an_is_stand, cd_is_stand, ct_is_stand, l_is_stand, c_is_stand⟩ := hf 6 fd_is_stand rfl
  obtain ⟨oc_check_stands, od_check_stands, sl_check_stands, kV_check_stands, dc_check_stands, pm_check_stands, an_check_stands, cd_check_stands, ct_check_stands, l_check_stands, c_check_stands⟩ := hf 7 fd_check_stands rfl
  obtain ⟨oc_is_step, od_is_step, sl_is_step, kV_is_step, dc_is_step, pm_is_step, an_is_step, cd_is_step, ct_is_step, l_is_step, c_is_step⟩ := hf 8 fd_is_step rfl
  obtain ⟨oc_check_steps, od_check_steps, sl_check_steps, kV_check_steps, dc_check_steps, pm_check_steps, an_check_steps, cd_check_steps, ct_check_steps, l_check_steps, c_check_steps⟩ := hf 9 fd_check_steps rfl
  obtain ⟨oc_is_ascending, od_is_ascending, sl_is_ascending, kV_is_ascending, dc_is_ascending, pm_is_ascending, an_is_ascending, cd_is_ascending, ct_is_ascending, l_is_ascending, c_is_ascending⟩ := hf 10 fd_is_ascending rfl
  obtain ⟨oc_check_ends, od_check_ends, sl_check_ends, kV_check_ends, dc_check_ends, pm_check_ends, an_check_ends, cd_check_ends, ct_check_ends, l_check_ends, c_check_ends⟩ := hf 11 fd_check_ends rfl
  obtain ⟨oc_check_machine, od_check_machine, sl_check_machine, kV_check_machine, dc_check_machine, pm_check_machine, an_check_machine, cd_check_machine, ct_check_machine, l_check_machine, c_check_machine⟩ := hf 12 fd_check_machine rfl
  obtain ⟨oc_moves_of, od_moves_of, sl_moves_of, kV_moves_of, dc_moves_of, pm_moves_of, an_moves_of, cd_moves_of, ct_moves_of, l_moves_of, c_moves_of⟩ := hf 13 fd_moves_of rfl
  obtain ⟨oc_moves_from, od_moves_from, sl_moves_from, kV_moves_from, dc_moves_from, pm_moves_from, an_moves_from, cd_moves_from, ct_moves_from, l_moves_from, c_moves_from⟩ := hf 14 fd_moves_from rfl
  obtain ⟨oc_first_apart, od_first_apart, sl_first_apart, kV_first_apart, dc_first_apart, pm_first_apart, an_first_apart, cd_first_apart, ct_first_apart, l_first_apart, c_first_apart⟩ := hf 15 fd_first_apart rfl
  obtain ⟨oc_law_taken, od_law_taken, sl_law_taken, kV_law_taken, dc_law_taken, pm_law_taken, an_law_taken, cd_law_taken, ct_law_taken, l_law_taken, c_law_taken⟩ := hf 16 fd_law_taken rfl
  obtain ⟨oc_law_parts, od_law_parts, sl_law_parts, kV_law_parts, dc_law_parts, pm_law_parts, an_law_parts, cd_law_parts, ct_law_parts, l_law_parts, c_law_parts⟩ := hf 17 fd_law_parts rfl
  obtain ⟨oc_law_machine, od_law_machine, sl_law_machine, kV_law_machine, dc_law_machine, pm_law_machine, an_law_machine, cd_law_machine, ct_law_machine, l_law_machine, c_law_machine⟩ := hf 18 fd_law_machine rfl
  obtain ⟨oc_law_next, od_law_next, sl_law_next, kV_law_next, dc_law_next, pm_law_next, an_law_next, cd_law_next, ct_law_next, l_law_next, c_law_next⟩ := hf 19 fd_law_next rfl
  obtain ⟨oc_law_like, od_law_like, sl_law_like, kV_law_like, dc_law_like, pm_law_like, an_law_like, cd_law_like, ct_law_like, l_law_like, c_law_like⟩ := hf 20 fd_law_like rfl
  obtain ⟨oc_law, od_law, sl_law, kV_law, dc_law, pm_law, an_law, cd_law, ct_law, l_law, c_law⟩ := hf 21 fd_law rfl
  obtain ⟨t_MOST_STANDS, g_MOST_STANDS⟩ := int_k (row_ok e0 20 (b := (Fa.int "MOST_STANDS" (8)).ok K) rfl)
  obtain ⟨t_MOST_GAIN, g_MOST_GAIN⟩ := int_k (row_ok e0 21 (b := (Fa.int "MOST_GAIN" (1000000000000000000000000000000)).ok K) rfl)
  obtain ⟨rest_stands, pr_stands⟩ := pgB_ok (row_ok e2 20 (b := pgB K "Machine" "stands") rfl)
  obtain ⟨rest_steps, pr_steps⟩ := pgB_ok (row_ok e2 24 (b := pgB K "Machine" "steps") rfl)
  exact ⟨txt_mk X G
    (of_decide_eq_true (row_ok e0 0 (b := decide (PySem.W.nsIn K mainGlobals "first_row_out" = some (some (.ref (fAd K ("first_row_out", none)))))) rfl))
    (of_decide_eq_true (row_ok e0 1 (b := decide (PySem.W.nsIn K mainGlobals "is_whole_number" = some (some (.ref (fAd K ("is_whole_number", none)))))) rfl))
    (of_decide_eq_true (row_ok e0 2 (b := decide (PySem.W.nsIn K mainGlobals "is_integer_between" = some (some (.ref (fAd K ("is_integer_between", none)))))) rfl))
    (of_decide_eq_true (row_ok e0 3 (b := decide (PySem.W.nsIn K mainGlobals "_is_stand" = some (some (.ref (fAd K ("_is_stand", none)))))) rfl))
    (of_decide_eq_true (row_ok e0 4 (b := decide (PySem.W.nsIn K mainGlobals "_check_stands" = some (some (.ref (fAd K ("_check_stands", none)))))) rfl))
    (of_decide_eq_true (row_ok e0 5 (b := decide (PySem.W.nsIn K mainGlobals "_is_step" = some (some (.ref (fAd K ("_is_step", none)))))) rfl))
    (of_decide_eq_true (row_ok e0 6 (b := decide (PySem.W.nsIn K mainGlobals "_check_steps" = some (some (.ref (fAd K ("_check_steps", none)))))) rfl))
    (of_decide_eq_true (row_ok e0 7 (b := decide (PySem.W.nsIn K mainGlobals "is_ascending" = some (some (.ref (fAd K ("is_ascending", none)))))) rfl))
    (of_decide_eq_true (row_ok e0 8 (b := decide (PySem.W.nsIn K mainGlobals "_check_ends" = some (some (.ref (fAd K ("_check_ends", none)))))) rfl))
    (of_decide_eq_true (row_ok e0 9 (b := decide (PySem.W.nsIn K mainGlobals "check_machine" = some (some (.ref (fAd K ("check_machine", none)))))) rfl))
    (of_decide_eq_true (row_ok e0 10 (b := decide (PySem.W.nsIn K mainGlobals "moves_of" = some (some (.ref (fAd K ("moves_of", none)))))) rfl))
    (of_decide_eq_true (row_ok e0 11 (b := decide (PySem.W.nsIn K mainGlobals "_moves_from" = some (some (.ref (fAd K ("_moves_from", none)))))) rfl))
    (of_decide_eq_true (row_ok e0 12 (b := decide (PySem.W.nsIn K mainGlobals "first_apart" = some (some (.ref (fAd K ("first_apart", none)))))) rfl))
    (of_decide_eq_true (row_ok e0 13 (b := decide (PySem.W.nsIn K mainGlobals "_law_taken" = some (some (.ref (fAd K ("_law_taken", none)))))) rfl))
    (of_decide_eq_true (row_ok e0 14 (b := decide (PySem.W.nsIn K mainGlobals "_law_parts" = some (some (.ref (fAd K ("_law_parts", none)))))) rfl))
    (of_decide_eq_true (row_ok e0 15 (b := decide (PySem.W.nsIn K mainGlobals "_law_machine" = some (some (.ref (fAd K ("_law_machine", none)))))) rfl))
    (of_decide_eq_true (row_ok e0 16 (b := decide (PySem.W.nsIn K mainGlobals "_law_next" = some (some (.ref (fAd K ("_law_next", none)))))) rfl))
    (of_decide_eq_true (row_ok e0 17 (b := decide (PySem.W.nsIn K mainGlobals "_law_like" = some (some (.ref (fAd K ("_law_like", none)))))) rfl))
    (of_decide_eq_true (row_ok e0 18 (b := decide (PySem.W.nsIn K mainGlobals "law" = some (some (.ref (fAd K ("law", none)))))) rfl))
    (of_decide_eq_true (row_ok e0 19 (b := decide (PySem.W.nsIn K mainGlobals "Machine" = some (some (.ref (ga K "Machine"))))) rfl))
    g_MOST_STANDS
    g_MOST_GAIN
    (of_decide_eq_true (row_ok e0 22 (b := decide (PySem.W.nsIn K mainGlobals "LETTERS" = some (some (.ref (ga K "LETTERS"))))) rfl))
    (of_decide_eq_true (row_ok e0 23 (b := decide (PySem.W.nsIn K mainGlobals "bool" = some none)) rfl))
    (of_decide_eq_true (row_ok e0 24 (b := decide (PySem.W.nsIn K mainGlobals "enumerate" = some none)) rfl))
    (of_decide_eq_true (row_ok e1 0 (b := decide (PySem.W.nsIn K mainGlobals "int" = some none)) rfl))
    (of_decide_eq_true (row_ok e1 1 (b := decide (PySem.W.nsIn K mainGlobals "isinstance" = some none)) rfl))
    (of_decide_eq_true (row_ok e1 2 (b := decide (PySem.W.nsIn K mainGlobals "len" = some none)) rfl))
    (of_decide_eq_true (row_ok e1 3 (b := decide (PySem.W.nsIn K mainGlobals "list" = some none)) rfl))
    (of_decide_eq_true (row_ok e1 4 (b := decide (PySem.W.nsIn K mainGlobals "max" = some none)) rfl))
    (of_decide_eq_true (row_ok e1 5 (b := decide (PySem.W.nsIn K mainGlobals "range" = some none)) rfl))
    (of_decide_eq_true (row_ok e1 6 (b := decide (PySem.W.nsIn K mainGlobals "sorted" = some none)) rfl))
    (of_decide_eq_true (row_ok e1 7 (b := decide (PySem.W.nsIn K mainGlobals "str" = some none)) rfl))
    (of_decide_eq_true (row_ok e1 8 (b := decide (PySem.W.nsIn K mainGlobals "tuple" = some none)) rfl))
    l_first_row_out
    c_first_row_out
    (of_decide_eq_true (row_ok e1 9 (b := decide (PySem.W.keepIn K (.ref (fAd K ("first_row_out", none))) = true)) rfl))
    l_Machine_init
    c_Machine_init
    (of_decide_eq_true (row_ok e1 10 (b := decide (PySem.W.keepIn K (.ref (fAd K ("Machine", some "__init__"))) = true)) rfl))
    l_Machine_stands
    c_Machine_stands
    (of_decide_eq_true (row_ok e1 11 (b := decide (PySem.W.keepIn K (.ref (pgA K "Machine" "stands")) = true)) rfl))
    l_Machine_steps
    c_Machine_steps
    (of_decide_eq_true (row_ok e1 12 (b := decide (PySem.W.keepIn K (.ref (pgA K "Machine" "steps")) = true)) rfl))
    l_is_whole_number
    c_is_whole_number
    (of_decide_eq_true (row_ok e1 13 (b := decide (PySem.W.keepIn K (.ref (fAd K ("is_whole_number", none))) = true)) rfl))
    l_is_integer_between
    c_is_integer_between
    (of_decide_eq_true (row_ok e1 14 (b := decide (PySem.W.keepIn K (.ref (fAd K ("is_integer_between", none))) = true)) rfl))
    l_is_stand
    c_is_stand
    (of_decide_eq_true (row_ok e1 15 (b := decide (PySem.W.keepIn K (.ref (fAd K ("_is_stand", none))) = true)) rfl))
    l_check_stands
    c_check_stands
    (of_decide_eq_true (row_ok e1 16 (b := decide (PySem.W.keepIn K (.ref (fAd K ("_check_stands", none))) = true)) rfl))
    l_is_step
    c_is_step
    (of_decide_eq_true (row_ok e1 17 (b := decide (PySem.W.keepIn K (.ref (fAd K ("_is_step", none))) = true)) rfl))
    l_check_steps
    c_check_steps
    (of_decide_eq_true (row_ok e1 18 (b := decide (PySem.W.keepIn K (.ref (fAd K ("_check_steps", none))) = true)) rfl))
    l_is_ascending
    c_is_ascending
    (of_decide_eq_true (row_ok e1 19 (b := decide (PySem.W.keepIn K (.ref (fAd K ("is_ascending", none))) = true)) rfl))
    l_check_ends
    c_check_ends
    (of_decide_eq_true (row_ok e1 20 (b := decide (PySem.W.keepIn K (.ref (fAd K ("_check_ends", none))) = true)) rfl))
    l_check_machine
    c_check_machine
    (of_decide_eq_true (row_ok e1 21 (b := decide (PySem.W.keepIn K (.ref (fAd K ("check_machine", none))) = true)) rfl))
    l_moves_of
    c_moves_of
    (of_decide_eq_true (row_ok e1 22 (b := decide (PySem.W.keepIn K (.ref (fAd K ("moves_of", none))) = true)) rfl))
    l_moves_from
    c_moves_from
    (of_decide_eq_true (row_ok e1 23 (b := decide (PySem.W.keepIn K (.ref (fAd K ("_moves_from", none))) = true)) rfl))
    l_first_apart
    c_first_apart
    (of_decide_eq_true (row_ok e1 24 (b := decide (PySem.W.keepIn K (.ref (fAd K ("first_apart", none))) = true)) rfl))
    l_law_taken
    c_law_taken
    (of_decide_eq_true (row_ok e2 0 (b := decide (PySem.W.keepIn K (.ref (fAd K ("_law_taken", none))) = true)) rfl))
    l_law_parts
    c_law_parts
    (of_decide_eq_true (row_ok e2 1 (b := decide (PySem.W.keepIn K (.ref (fAd K ("_law_parts", none))) = true)) rfl))
    l_law_machine
    c_law_machine
    (of_decide_eq_true (row_ok e2 2 (b := decide (PySem.W.keepIn K (.ref (fAd K ("_law_machine", none))) = true)) rfl))
    l_law_next
    c_law_next
    (of_decide_eq_true (row_ok e2 3 (b := decide (PySem.W.keepIn K (.ref (fAd K ("_law_next", none))) = true)) rfl))
    l_law_like
    c_law_like
    (of_decide_eq_true (row_ok e2 4 (b := decide (PySem.W.keepIn K (.ref (fAd K ("_law_like", none))) = true)) rfl))
    l_law
    c_law
    (of_decide_eq_true (row_ok e2 5 (b := decide (PySem.W.keepIn K (.ref (fAd K ("law", none))) = true)) rfl))
    (of_decide_eq_true (row_ok e2 6 (b := decide (PySem.W.plainGet K (ga K "Machine") Str.empty = true)) rfl))
    (of_decide_eq_true (row_ok e2 7 (b := decide (PySem.W.hasDictIn K (ga K "Machine") = true)) rfl))
    (of_decide_eq_true (row_ok e2 8 (b := decide (PySem.W.plainOver K (ga K "Machine") = true)) rfl))
    (of_decide_eq_true (row_ok e2 9 (b := decide (PySem.W.findIn K (.ref (ga K "Machine")) "__setattr__" = some (some (.builtin "object.__setattr__")))) rfl))
    (of_decide_eq_true (row_ok e2 10 (b := decide (PySem.W.makesIn K (ga K "Machine") = true)) rfl))
    (of_decide_eq_true (row_ok e2 11 (b := decide (PySem.W.keepIn K (.ref (ga K "Machine")) = true)) rfl))
    (of_decide_eq_true (row_ok e2 12 (b := decide (PySem.W.findIn K (.ref (ga K "Machine")) "__init__" = some (some (.ref (fAd K ("Machine", some "__init__")))))) rfl))
    (of_decide_eq_true (row_ok e2 13 (b := decide (PySem.W.isFn K (.ref (fAd K ("Machine", some "__init__"))) = true)) rfl))
    (of_decide_eq_true (row_ok e2 14 (b := decide (PySem.W.findIn K (.ref (ga K "Machine")) "_stands" = some none)) rfl))
    (of_decide_eq_true (row_ok e2 15 (b := decide (PySem.W.findIn K (.ref (ga K "Machine")) "_steps" = some none)) rfl))
    (of_decide_eq_true (row_ok e2 16 (b := decide (PySem.W.findIn K (.ref (ga K "Machine")) "_ends" = some none)) rfl))
    (of_decide_eq_true (row_ok e2 17 (b := decide (PySem.W.findIn K (.ref (ga K "Machine")) "stands" = some (some (.ref (ma K (ga K "Machine") "stands"))))) rfl))
    (of_decide_eq_true (row_ok e2 18 (b := decide (PySem.W.specialIn K (.ref (ma K (ga K "Machine") "stands")) "__get__" = some (some (.builtin "property.__get__")))) rfl))
    (of_decide_eq_true (row_ok e2 19 (b := decide (PySem.W.takesIn K (.ref (ma K (ga K "Machine") "stands")) = some true)) rfl))
    pr_stands
    (of_decide_eq_true (row_ok e2 21 (b := decide (PySem.W.findIn K (.ref (ga K "Machine")) "steps" = some (some (.ref (ma K (ga K "Machine") "steps"))))) rfl))
    (of_decide_eq_true (row_ok e2 22 (b := decide (PySem.W.specialIn K (.ref (ma K (ga K "Machine") "steps")) "__get__" = some (some (.builtin "property.__get__")))) rfl))
    (of_decide_eq_true (row_ok e2 23 (b := decide (PySem.W.takesIn K (.ref (ma K (ga K "Machine") "steps")) = some true)) rfl))
    pr_steps
    (of_decide_eq_true (row_ok e3 0 (b := decide (PySem.W.findIn K (.ref (ga K "Machine")) "__class__" = some (some (.builtin "object.__class__")))) rfl))
    (of_decide_eq_true (row_ok e3 1 (b := decide (PySem.W.specialIn K (.builtin "object.__class__") "__get__" = some (some (.builtin "getset_descriptor.__get__")))) rfl))
    (of_decide_eq_true (row_ok e3 2 (b := decide (PySem.W.takesIn K (.builtin "object.__class__") = some true)) rfl))
    (of_decide_eq_true (row_ok e3 3 (b := decide (PySem.W.mroIn K (ga K "Machine") (.type "object") = some true)) rfl))
    (fun H => tupB_ok (row_ok e3 4 (b := tupB K "LETTERS" [.str "a", .str "b", .str "c", .str "d"]) rfl) H)⟩
end
/-! ### the run of the top -/
open PySem.W PySem.Calls PyProof.Rows in
abbrev R : PySem.W.OpenRow := PySem.W.OpenLaw.row PySem.Challenge.rw_staytallies_k20_whole_first_apart
abbrev qv : Program := PySem.W.view R.prog [32]
def lo_0 : List Str := ["TallyError", "BadStands", "BadSteps", "BadEnds", "BadMachine", "first_row_out", "MOST_STANDS", "MOST_GAIN", "LETTERS", "Machine", "is_whole_number", "is_integer_between", "_is_stand", "_check_stands", "_is_step", "_check_steps", "is_ascending", "_check_ends", "check_machine", "moves_of", "_moves_from", "first_apart", "_law_taken", "_law_parts", "_law_machine", "_law_next", "_law_like"]
def los : List Str := lo_0
abbrev hk : PySem.W.Hook := hookF nms 4 fns exs
def ob (s : PySem.W.SharedT) : AlF := obsF nms 4 fns exs (HandSHeadRun.getT s)
theorem ob_eq (s : PySem.W.SharedT) : ob s = hk.obs s.abs := by
  have e : HandSHeadRun.getT s = s.abs.heap.get? := funext (HandSHeadRun.getT_eq s)
  show obsF nms 4 fns exs (HandSHeadRun.getT s) = obsF nms 4 fns exs s.abs.heap.get?
  rw [e]
set_option maxHeartbeats 0 in
theorem run_at1 (w : World) : (HandSHeadRun.wholeF (fun p => HandSHeadRun.stepQ (HandSHeadRun.denQ HandSHeadRun.tabQ) p w) HandSHeadRun.fenceQ 20000 R.prog).map (fun x => HandSHeadRun.looksF R.prog x.1.heap x.2.abs) = some true := by
  kernel_rfl
set_option maxHeartbeats 0 in
theorem run_at2 (w : World) : (HandSHeadRun.wholeF (fun p => HandSHeadRun.stepQ (HandSHeadRun.denQ HandSHeadRun.tabQ) p w) HandSHeadRun.fenceQ 20000 R.prog).map (fun x => HandSHeadRun.seenQ qv los (PySem.importedModules R.prog.main.body) (fun s => PySem.W.xlAt qv [] s && PySem.W.recOk R.toRowW.records s) x.2.abs) = some (PySem.W.openGood qv los) := by
  kernel_rfl
set_option maxHeartbeats 0 in
theorem run_at3 (w : World) : (HandSHeadRun.wholeF (fun p => HandSHeadRun.stepQ (HandSHeadRun.denQ HandSHeadRun.tabQ) p w) HandSHeadRun.fenceQ 20000 R.prog).map (fun x => ob x.2) = some (valF fns) := by
  kernel_rfl
theorem run_at (w : World) : HandSHeadRun.RunEqI R qv hk ob 20000 los w := by
  delta HandSHeadRun.RunEqI
  exact map_join (run_at1 w) (run_at2 w) (run_at3 w)
theorem walkH {l : PySem.W.OpenLaw} {q : Program} {loose : List Str} {XP : (Str → Option Value) → Heap → Prop} {YP : World → Heap → Prop} {d : DefRec} (hn : l.most = some 63) (hdf : d.params.defaults = [])
    (F : ∀ (w : World) (mg : Str → Option Value) (fa : Addr) (h : Heap), YP w h → h.Ns mainGlobals mg → mg d.name = some (.ref fa) → ∃ K : PySem.W.Frag, K.In h ∧
      ∃ fd : FuncData, (∀ (s : Shared) (u : Value), BindsTo s fd ⟨[u], []⟩ [("_law_script", u)]) ∧ ∀ base : Heap, K.In base → base.Ns mainGlobals mg → FnOk l.prog w K mg base (L2.CX l.prog w) 20 fa fd ["_law_script"] (sp_law K)) :
    PySem.W.WalkO q loose XP YP l.row.toRowW d [] (fun f vs => PySem.call f vs) := by
  refine Att.attach_call hn hdf fun w s₀ s₁ mg mb fa o pm cd doc a vs ns G Y ho hd hcd hmg hobj hints hlen hg => ?_
  obtain ⟨K, KX, fd, hb, hF⟩ := F w mg fa _ Y G.T.g hmg
  refine law_call KX G.T.g G.T.b G.T.builtins G.T.nolimit hg hobj hints (Nat.le_trans hlen (by decide)) ⟨rfl, by decide, by decide⟩ hF hb (fun H hO hS => ⟨a, ns, rfl, by
      rcases hS with (e | ⟨o, e⟩) | h
      · rcases hO a with z | ⟨_, _, z⟩
        · rw [e] at z; cases z
        · rw [e] at z; cases z
      · exact .inl ⟨o, e⟩
      · exact .inr fun _ => .inr h, hlen, fun _ => rfl⟩) fun H e s' h => ?_
  obtain ⟨_, _, _, _, _, _, _, _, _, _, _, _, z⟩ := h
  exact z.elim
end Sv
open PySem PySem.W PySem.Calls PyProof.Rows in
set_option maxRecDepth 100000 in
set_option maxHeartbeats 0 in
theorem PySem.Challenge.cw_staytallies_k20_whole_first_apart_holds : PySem.Challenge.rw_staytallies_k20_whole_first_apart.Holds := by
  w_on; o_law
  refine HandSHeadRun.head_imp (r := Sv.R) (q := Sv.qv) (H := Sv.hk) (ob := Sv.ob) (M := 20000) (loose := Sv.los) (d := HandSHeadRun.topDef Sv.R.prog 32) (kwd := []) Sv.ob_eq Sv.run_at (by kernel_rfl) (by kernel_rfl) (by kernel_rfl) (by rfl) (by first | assumption | decide +kernel) (by decide +kernel) ⟨rfl, rfl, rfl, rfl, rfl, by decide +kernel⟩ ?hw ?hc
  case hw => w_witness2
  case hc =>
    refine Sv.walkH (l := PySem.Challenge.rw_staytallies_k20_whole_first_apart) rfl (by kernel_rfl) ?F
    intro w mg fa h Y G hmg
    obtain ⟨K, KX, he, hf⟩ := Y
    have hmg2 : mg "law" = some (.ref fa) := by
      have e : (HandSHeadRun.topDef Sv.R.prog 32).name = ("law" : PySem.Str) := by kernel_rfl
      rw [← e]
      exact hmg
    obtain ⟨T⟩ := Sv.txt_of KX G he hf
    exact ⟨K, KX, Sv.all_mk T hmg2⟩
#print axioms PySem.Challenge.cw_staytallies_k20_whole_first_apart_holds
