import PyProof.Rows.All
import Wide.All
import OpenK.AllK
import Wide.FinOn
import HandS.ForMost
import HandS.ForExc
import HandS.Wide
import HandS.Property
import HandS.IsInst
import HandS.TupAny
import HandS.TupLe
import HandS.Style
import HandS.Flow
import HandS.ExcInit
import HandS.ExcField
import HandS.OwnEq
import KE.GoesMore
import HandS.Codes
import HandS.DictComp
import HandS.Walk
import HandS.SortInts
import HandS.TupMul
import HandS.Gcd
import PySem.Challenge.RW_staytallies_k24_counts_refused
set_option Elab.async false
set_option linter.all false
set_option maxRecDepth 100000
set_option maxHeartbeats 4000000
namespace Sv
open PySem L2
def top (i : Nat) : Stmt := PySem.Challenge.pw_staytallies_k24_counts_refused.main.body.getD i (.Pass ⟨0, 0, 0, 0⟩)
abbrev s_BadNumber_init : Stmt := (inClass (top 6) 0)
abbrev s_Machine_init : Stmt := (inClass (top 13) 0)
abbrev s_is_whole_number : Stmt := (top 14)
abbrev s_is_integer_between : Stmt := (top 15)
abbrev s_is_stand : Stmt := (top 16)
abbrev s_check_stands : Stmt := (top 17)
abbrev s_is_step : Stmt := (top 18)
abbrev s_check_steps : Stmt := (top 19)
abbrev s_is_ascending : Stmt := (top 20)
abbrev s_check_ends : Stmt := (top 21)
abbrev s_check_machine : Stmt := (top 22)
abbrev s_check_number : Stmt := (top 23)
abbrev s_check_bounds : Stmt := (top 25)
abbrev s_tallies : Stmt := (top 30)
abbrev s_count : Stmt := (top 31)
abbrev s_count_staying : Stmt := (top 32)
abbrev s_law_taken : Stmt := (top 34)
abbrev s_law_refused : Stmt := (top 35)
abbrev s_law : Stmt := (top 36)
theorem sc_BadNumber_init : FnScope ["self", "n"] ["self", "n"] (defScope s_BadNumber_init) := ⟨rfl, rfl, rfl, by decide +kernel, rfl, by decide +kernel, by decide +kernel⟩
theorem sc_Machine_init : FnScope ["self", "stands", "steps", "ends"] ["self", "stands", "steps", "ends"] (defScope s_Machine_init) := ⟨rfl, rfl, rfl, by decide +kernel, rfl, by decide +kernel, by decide +kernel⟩
theorem sc_is_whole_number : FnScope ["value"] ["value"] (defScope s_is_whole_number) := ⟨rfl, rfl, rfl, by decide +kernel, rfl, by decide +kernel, by decide +kernel⟩
theorem sc_is_integer_between : FnScope ["value", "least", "most"] ["value", "least", "most"] (defScope s_is_integer_between) := ⟨rfl, rfl, rfl, by decide +kernel, rfl, by decide +kernel, by decide +kernel⟩
theorem sc_is_stand : FnScope ["stands", "value"] ["stands", "value"] (defScope s_is_stand) := ⟨rfl, rfl, rfl, by decide +kernel, rfl, by decide +kernel, by decide +kernel⟩
theorem sc_check_stands : FnScope ["stands"] ["stands"] (defScope s_check_stands) := ⟨rfl, rfl, rfl, by decide +kernel, rfl, by decide +kernel, by decide +kernel⟩
theorem sc_is_step : FnScope ["stands", "value", "begun", "letter", "end", "gain"] ["stands", "value"] (defScope s_is_step) := ⟨rfl, rfl, rfl, by decide +kernel, rfl, by decide +kernel, by decide +kernel⟩
theorem sc_check_steps : FnScope ["stands", "steps", "index", "step"] ["stands", "steps"] (defScope s_check_steps) := ⟨rfl, rfl, rfl, by decide +kernel, rfl, by decide +kernel, by decide +kernel⟩
theorem sc_is_ascending : FnScope ["value", "many", "least", "number"] ["value", "many"] (defScope s_is_ascending) := ⟨rfl, rfl, rfl, by decide +kernel, rfl, by decide +kernel, by decide +kernel⟩
theorem sc_check_ends : FnScope ["stands", "ends"] ["stands", "ends"] (defScope s_check_ends) := ⟨rfl, rfl, rfl, by decide +kernel, rfl, by decide +kernel, by decide +kernel⟩
theorem sc_check_machine : FnScope ["value"] ["value"] (defScope s_check_machine) := ⟨rfl, rfl, rfl, by decide +kernel, rfl, by decide +kernel, by decide +kernel⟩
theorem sc_check_number : FnScope ["value", "least", "most"] ["value", "least", "most"] (defScope s_check_number) := ⟨rfl, rfl, rfl, by decide +kernel, rfl, by decide +kernel, by decide +kernel⟩
theorem sc_check_bounds : FnScope ["low", "high", "most"] ["low", "high", "most"] (defScope s_check_bounds) := ⟨rfl, rfl, rfl, by decide +kernel, rfl, by decide +kernel, by decide +kernel⟩
theorem sc_tallies : FnScope ["machine", "length", "numbers", "tally"] ["machine", "length"] (defScope s_tallies) := ⟨rfl, rfl, rfl, by decide +kernel, rfl, by decide +kernel, by decide +kernel⟩
theorem sc_count : FnScope ["machine", "length", "tally"] ["machine", "length", "tally"] (defScope s_count) := ⟨rfl, rfl, rfl, by decide +kernel, rfl, by decide +kernel, by decide +kernel⟩
theorem sc_count_staying : FnScope ["machine", "length", "low", "high"] ["machine", "length", "low", "high"] (defScope s_count_staying) := ⟨rfl, rfl, rfl, by decide +kernel, rfl, by decide +kernel, by decide +kernel⟩
theorem sc_law_taken : FnScope ["_law_row", "_law_many", "_law_found", "_law_cell"] ["_law_row", "_law_many"] (defScope s_law_taken) := ⟨rfl, rfl, rfl, by decide +kernel, rfl, by decide +kernel, by decide +kernel⟩
theorem sc_law_refused : FnScope ["_law_kind", "_law_length", "_law_one", "_law_other", "_law_machine", "_law_found", "e"] ["_law_kind", "_law_length", "_law_one", "_law_other"] (defScope s_law_refused) := ⟨rfl, rfl, rfl, by decide +kernel, rfl, by decide +kernel, by decide +kernel⟩
theorem sc_law : FnScope ["_law_script", "_law_row", "_law_turn", "_law_bad", "_law_wrong", "_law_length"] ["_law_script"] (defScope s_law) := ⟨rfl, rfl, rfl, by decide +kernel, rfl, by decide +kernel, by decide +kernel⟩
structure Txt (K : PySem.W.Frag) (mg : Str → Option Value) : Type where
  a_BadNumber_init : Addr
  fd_BadNumber_init : FuncData
  F_BadNumber_init : Fun K "__init__" "BadNumber.__init__" s_BadNumber_init a_BadNumber_init fd_BadNumber_init
  b_BadNumber_init : Binds K fd_BadNumber_init ["self", "n"] []
  k_BadNumber_init : PySem.W.keepIn K (.ref a_BadNumber_init) = true
  a_Machine_init : Addr
  fd_Machine_init : FuncData
  F_Machine_init : Fun K "__init__" "Machine.__init__" s_Machine_init a_Machine_init fd_Machine_init
  b_Machine_init : Binds K fd_Machine_init ["self", "stands", "steps", "ends"] []
  k_Machine_init : PySem.W.keepIn K (.ref a_Machine_init) = true
  a_is_whole_number : Addr
  fd_is_whole_number : FuncData
  F_is_whole_number : Fun K "is_whole_number" "is_whole_number" s_is_whole_number a_is_whole_number fd_is_whole_number
  b_is_whole_number : Binds K fd_is_whole_number ["value"] []
  k_is_whole_number : PySem.W.keepIn K (.ref a_is_whole_number) = true
  m_is_whole_number : mg "is_whole_number" = some (.ref a_is_whole_number)
  a_is_integer_between : Addr
  fd_is_integer_between : FuncData
  F_is_integer_between : Fun K "is_integer_between" "is_integer_between" s_is_integer_between a_is_integer_between fd_is_integer_between
  b_is_integer_between : Binds K fd_is_integer_between ["value", "least", "most"] []
  k_is_integer_between : PySem.W.keepIn K (.ref a_is_integer_between) = true
  m_is_integer_between : mg "is_integer_between" = some (.ref a_is_integer_between)
  a_is_stand : Addr
  fd_is_stand : FuncData
  F_is_stand : Fun K "_is_stand" "_is_stand" s_is_stand a_is_stand fd_is_stand
  b_is_stand : Binds K fd_is_stand ["stands", "value"] []
  k_is_stand : PySem.W.keepIn K (.ref a_is_stand) = true
  m_is_stand : mg "_is_stand" = some (.ref a_is_stand)
  a_check_stands : Addr
  fd_check_stands : FuncData
  F_check_stands : Fun K "_check_stands" "_check_stands" s_check_stands a_check_stands fd_check_stands
  b_check_stands : Binds K fd_check_stands ["stands"] []
  k_check_stands : PySem.W.keepIn K (.ref a_check_stands) = true
  m_check_stands : mg "_check_stands" = some (.ref a_check_stands)
  a_is_step : Addr
  fd_is_step : FuncData
  F_is_step : Fun K "_is_step" "_is_step" s_is_step a_is_step fd_is_step
  b_is_step : Binds K fd_is_step ["stands", "value"] []
  k_is_step : PySem.W.keepIn K (.ref a_is_step) = true
  m_is_step : mg "_is_step" = some (.ref a_is_step)
  a_check_steps : Addr
  fd_check_steps : FuncData
  F_check_steps : Fun K "_check_steps" "_check_steps" s_check_steps a_check_steps fd_check_steps
  b_check_steps : Binds K fd_check_steps ["stands", "steps"] []
  k_check_steps : PySem.W.keepIn K (.ref a_check_steps) = true
  m_check_steps : mg "_check_steps" = some (.ref a_check_steps)
  a_is_ascending : Addr
  fd_is_ascending : FuncData
  F_is_ascending : Fun K "is_ascending" "is_ascending" s_is_ascending a_is_ascending fd_is_ascending
  b_is_ascending : Binds K fd_is_ascending ["value", "many"] []
  k_is_ascending : PySem.W.keepIn K (.ref a_is_ascending) = true
  m_is_ascending : mg "is_ascending" = some (.ref a_is_ascending)
  a_check_ends : Addr
  fd_check_ends : FuncData
  F_check_ends : Fun K "_check_ends" "_check_ends" s_check_ends a_check_ends fd_check_ends
  b_check_ends : Binds K fd_check_ends ["stands", "ends"] []
  k_check_ends : PySem.W.keepIn K (.ref a_check_ends) = true
  m_check_ends : mg "_check_ends" = some (.ref a_check_ends)
  a_check_machine : Addr
  fd_check_machine : FuncData
  F_check_machine : Fun K "check_machine" "check_machine" s_check_machine a_check_machine fd_check_machine
  b_check_machine : Binds K fd_check_machine ["value"] []
  k_check_machine : PySem.W.keepIn K (.ref a_check_machine) = true
  m_check_machine : mg "check_machine" = some (.ref a_check_machine)
  a_check_number : Addr
  fd_check_number : FuncData
  F_check_number : Fun K "check_number" "check_number" s_check_number a_check_number fd_check_number
  b_check_number : Binds K fd_check_number ["value", "least", "most"] []
  k_check_number : PySem.W.keepIn K (.ref a_check_number) = true
  m_check_number : mg "check_number" = some (.ref a_check_number)
  a_check_bounds : Addr
  fd_check_bounds : FuncData
  F_check_bounds : Fun K "check_bounds" "check_bounds" s_check_bounds a_check_bounds fd_check_bounds
  b_check_bounds : Binds K fd_check_bounds ["low", "high", "most"] []
  k_check_bounds : PySem.W.keepIn K (.ref a_check_bounds) = true
  m_check_bounds : mg "check_bounds" = some (.ref a_check_bounds)
  a_tallies : Addr
  fd_tallies : FuncData
  F_tallies : Fun K "tallies" "tallies" s_tallies a_tallies fd_tallies
  b_tallies : Binds K fd_tallies ["machine", "length"] []
  k_tallies : PySem.W.keepIn K (.ref a_tallies) = true
  m_tallies : mg "tallies" = some (.ref a_tallies)
  a_count : Addr
  fd_count : FuncData
  F_count : Fun K "count" "count" s_count a_count fd_count
  b_count : Binds K fd_count ["machine", "length", "tally"] []
  k_count : PySem.W.keepIn K (.ref a_count) = true
  m_count : mg "count" = some (.ref a_count)
  a_count_staying : Addr
  fd_count_staying : FuncData
  F_count_staying : Fun K "count_staying" "count_staying" s_count_staying a_count_staying fd_count_staying
  b_count_staying : Binds K fd_count_staying ["machine", "length", "low", "high"] []
  k_count_staying : PySem.W.keepIn K (.ref a_count_staying) = true
  m_count_staying : mg "count_staying" = some (.ref a_count_staying)
  a_law_taken : Addr
  fd_law_taken : FuncData
  F_law_taken : Fun K "_law_taken" "_law_taken" s_law_taken a_law_taken fd_law_taken
  b_law_taken : Binds K fd_law_taken ["_law_row", "_law_many"] []
  k_law_taken : PySem.W.keepIn K (.ref a_law_taken) = true
  m_law_taken : mg "_law_taken" = some (.ref a_law_taken)
  a_law_refused : Addr
  fd_law_refused : FuncData
  F_law_refused : Fun K "_law_refused" "_law_refused" s_law_refused a_law_refused fd_law_refused
  b_law_refused : Binds K fd_law_refused ["_law_kind", "_law_length", "_law_one", "_law_other"] []
  k_law_refused : PySem.W.keepIn K (.ref a_law_refused) = true
  m_law_refused : mg "_law_refused" = some (.ref a_law_refused)
  a_law : Addr
  fd_law : FuncData
  F_law : Fun K "law" "law" s_law a_law fd_law
  b_law : Binds K fd_law ["_law_script"] []
  k_law : PySem.W.keepIn K (.ref a_law) = true
  m_law : mg "law" = some (.ref a_law)
  c_Machine : Addr
  cl_Machine : Cls K c_Machine
  m_Machine : mg "Machine" = some (.ref c_Machine)
  mk_Machine : Mk K c_Machine a_Machine_init
  n__stands : NoAttr K c_Machine "_stands"
  n__steps : NoAttr K c_Machine "_steps"
  n__ends : NoAttr K c_Machine "_ends"
  i1_Machine : PySem.W.findIn K (.ref c_Machine) "__class__" = some (some (.builtin "object.__class__"))
  i2_Machine : PySem.W.specialIn K (.builtin "object.__class__") "__get__" = some (some (.builtin "getset_descriptor.__get__"))
  i3_Machine : PySem.W.takesIn K (.builtin "object.__class__") = some true
  i4_Machine : PySem.W.mroIn K c_Machine (.type "object") = some true
  c_BadBounds : Addr
  m_BadBounds : mg "BadBounds" = some (.ref c_BadBounds)
  x_BadBounds : PySem.W.excIn K c_BadBounds [.type "ValueError", .type "Exception", .type "BaseException", .type "object"] "ValueError.__new__" = true
  k_BadBounds : PySem.W.keepIn K (.ref c_BadBounds) = true
  b_BadBounds : PySem.W.subIn K (.ref c_BadBounds) (.type "BaseException") = some true
  t_BadBounds : PySem.W.typeIn K (.ref c_BadBounds) = some (.type "type")
  e_BadBounds : PySem.W.exmOne K (.ref c_BadBounds) (.ref c_BadBounds) = some true
  c_BadNumber : Addr
  m_BadNumber : mg "BadNumber" = some (.ref c_BadNumber)
  o_BadNumber : OexC K c_BadNumber
  xf_BadNumber : XfC K c_BadNumber
  ie_BadNumber : PySem.W.findIn K (.ref c_BadNumber) "__init__" = some (some (.ref a_BadNumber_init))
  ti_BadNumber : PySem.W.typeIn K (.ref a_BadNumber_init) = some (.type "function")
  e_BadNumber : PySem.W.exmOne K (.ref c_BadNumber) (.ref c_BadNumber) = some true
  no_BadNumber_n : PySem.W.findIn K (.ref c_BadNumber) "n" = some none
  c_TallyError : Addr
  m_TallyError : mg "TallyError" = some (.ref c_TallyError)
  rd_TallyError : PySem.W.readsIn K c_TallyError (.type "type") = true
  fv_TallyError : PySem.W.findCls K (.ref c_TallyError) (.type "type") "__init__" = some (.val (.builtin "ValueError.__init__"))
  sg_TallyError : PySem.W.specialIn K (.ref c_TallyError) "__getattribute__" = some (some (.builtin "type.__getattribute__"))
  er_BadBounds_BadNumber : PySem.W.exmOne K (.ref c_BadBounds) (.ref c_BadNumber) = some false
  u_MOST_STANDS : Value
  m_MOST_STANDS : mg "MOST_STANDS" = some u_MOST_STANDS
  r_MOST_STANDS : RelV (V.int 8) u_MOST_STANDS
  u_MOST_GAIN : Value
  m_MOST_GAIN : mg "MOST_GAIN" = some u_MOST_GAIN
  r_MOST_GAIN : RelV (V.int 1000000000000000000000000000000) u_MOST_GAIN
  a_LETTERS : Addr
  m_LETTERS : mg "LETTERS" = some (.ref a_LETTERS)
  r_LETTERS : RelV (V.ref a_LETTERS) (.ref a_LETTERS)
  s_LETTERS : ∀ H, SqT K H a_LETTERS [V.str "a", V.str "b", V.str "c", V.str "d"]
  u_MOST_LENGTH : Value
  m_MOST_LENGTH : mg "MOST_LENGTH" = some u_MOST_LENGTH
  r_MOST_LENGTH : RelV (V.int 12) u_MOST_LENGTH
  u_MOST_NUMBER : Value
  m_MOST_NUMBER : mg "MOST_NUMBER" = some u_MOST_NUMBER
  r_MOST_NUMBER : RelV (V.int 10000000000000000000000000000000000000000) u_MOST_NUMBER
  z_bool : mg "bool" = none
  z_enumerate : mg "enumerate" = none
  z_int : mg "int" = none
  z_isinstance : mg "isinstance" = none
  z_len : mg "len" = none
  z_list : mg "list" = none
  z_range : mg "range" = none
  z_str : mg "str" = none
  z_tuple : mg "tuple" = none
  bs_law : ∀ (s : Shared) (v : Value), BindsTo s fd_law ⟨[v], []⟩ [("_law_script", v)]
/-! ### heaps -/
/-- all but a stands as it was -/
def Keep (a : Addr) (H H' : Hp) : Prop := ∀ b o, b ≠ a → H b = some o → H' b = some o
theorem Keep.refl (a : Addr) (H : Hp) : Keep a H H := fun _ _ _ h => h
theorem Keep.trans {a : Addr} {H H1 H2 : Hp} (x : Keep a H H1) (y : Keep a H1 H2) : Keep a H H2 := fun b o n h => y b o n (x b o n h)
theorem Keep.at_ {a : Addr} {H : Hp} {o : HO} : Keep a H (upd H a o) := fun b u n h => by rw [upd_ne n]; exact h
theorem Keep.new {a p : Addr} {H : Hp} {o : HO} (hp : H p = none) : Keep a H (upd H p o) := fun b u _ h => by rw [upd_ne (ne_of_none h hp)]; exact h
theorem Keep.of_same {a : Addr} {H H' : Hp} (x : Same H H') : Keep a H H' := fun b o _ h => x b o h
theorem Same.new {p : Addr} {H : Hp} {o : HO} (hp : H p = none) : Same H (upd H p o) := fun b u h => by rw [upd_ne (ne_of_none h hp)]; exact h
theorem Keep.free {a p : Addr} {H H' : Hp} (x : Keep a H H') (n : p ≠ a) (h : H' p = none) : H p = none := by
  cases q : H p with
  | none => rfl
  | some o => rw [x p o n q] at h; cases h
/-- what H does not know may change -/
theorem Keep.mut {a p : Addr} {H H' : Hp} {o : HO} (x : Keep a H H') (hp : H p = none) : Keep a H (upd H' p o) := fun b u n h => by rw [upd_ne (ne_of_none h hp)]; exact x b u n h
theorem Keep.tup {K : PySem.W.Frag} {a b : Addr} {H H' : Hp} {xs : List V} (x : Keep a H H') (ha : ∃ l, H a = some (.lst l)) (h : SqT K H b xs) : SqT K H' b xs := by
  obtain ⟨l, ha⟩ := ha
  rcases h with (h | ⟨o, h⟩) | h
  · exact .inl (.inl (x _ _ (fun e => by rw [e, ha] at h; cases h) h))
  · exact .inl (.inr ⟨o, x _ _ (fun e => by rw [e, ha] at h; cases h) h⟩)
  · exact .inr h
theorem Keep.lst {K : PySem.W.Frag} {a b : Addr} {H H' : Hp} {xs : List V} (x : Keep a H H') (n : b ≠ a) (h : SqL K H b xs) : SqL K H' b xs := by
  rcases h with (h | ⟨o, h⟩) | h
  · exact .inl (.inl (x _ _ n h))
  · exact .inl (.inr ⟨o, x _ _ n h⟩)
  · exact .inr h
/-- the script: known to the object, or of the written part -/
def ScAt (K : PySem.W.Frag) (H : Hp) (b : Addr) (xs : List V) : Prop := (∃ o, H b = some (.frz o (.lst xs))) ∨ ∀ H', SqL K H' b xs
theorem ScAt.sq {K : PySem.W.Frag} {H : Hp} {b : Addr} {xs : List V} (h : ScAt K H b xs) : SqL K H b xs := by
  rcases h with ⟨o, h⟩ | h
  · exact .inl (.inr ⟨o, h⟩)
  · exact h H
theorem ScAt.keep {K : PySem.W.Frag} {a b : Addr} {H H' : Hp} {xs l : List V} (h : ScAt K H b xs) (k : Keep a H H') (ha : H a = some (.lst l)) : ScAt K H' b xs := by
  rcases h with ⟨o, h⟩ | h
  · exact .inl ⟨o, k _ _ (fun z => by rw [z, ha] at h; cases h) h⟩
  · exact .inr h
theorem ScAt.same {K : PySem.W.Frag} {b : Addr} {H H' : Hp} {xs : List V} (h : ScAt K H b xs) (k : Same H H') : ScAt K H' b xs := by
  rcases h with ⟨o, h⟩ | h
  · exact .inl ⟨o, k _ _ h⟩
  · exact .inr h
/-- the draws' row at a: the script, how many were read, the mixed number, the rest -/
def RowOk (K : PySem.W.Frag) (H : Hp) (a : Addr) : Prop := ∃ (sc : Addr) (ns : List Int) (i z r : Int), H a = some (.lst [.ref sc, .int i, .int z, .int r]) ∧ ScAt K H sc (ns.map V.int) ∧ ns.length ≤ 63 ∧ 0 ≤ i ∧ 0 ≤ z ∧ z < 2147483647
theorem RowOk.lst {K : PySem.W.Frag} {H : Hp} {a : Addr} (h : RowOk K H a) : ∃ l, H a = some (.lst l) := by
  obtain ⟨_, _, _, _, _, e, _⟩ := h; exact ⟨_, e⟩
/-- behind a step that leaves the row and the script as they were -/
theorem RowOk.same {K : PySem.W.Frag} {H H' : Hp} {a : Addr} (h : RowOk K H a) (s : Same H H') : RowOk K H' a := by
  obtain ⟨sc, ns, i, z, r, e, q, rest⟩ := h
  exact ⟨sc, ns, i, z, r, s _ _ e, q.same s, rest⟩
theorem RowOk.keep {K : PySem.W.Frag} {H H' : Hp} {a l : Addr} {xs : List V} (h : RowOk K H a) (n : a ≠ l) (e : H l = some (.lst xs)) (k : Keep l H H') : RowOk K H' a := by
  obtain ⟨sc, is, i, z, r, ea, q, rest⟩ := h
  exact ⟨sc, is, i, z, r, k _ _ n ea, q.keep k e, rest⟩
theorem RowOk.ne {K : PySem.W.Frag} {H : Hp} {a p : Addr} (h : RowOk K H a) (e : H p = none) : a ≠ p := by
  obtain ⟨l, q⟩ := h.lst
  exact ne_of_none q e
/-! ### steps: one a combinator -/
section
variable {K : PySem.W.Frag} {σ : L2.St} {H : Hp} {D : Ends} {Q : VK}
theorem k_seq {t u : TS} (h : t { D with nx := u D } σ H) : tSeq t u D σ H := h
theorem k_ifS {c : TT} {t u : TS} (h : c σ H fun b H1 => if b = true then t D σ H1 else u D σ H1) : tIfS c t u D σ H := h
theorem k_asg {te : TE} {g : TG} (h : te σ H fun x H1 => g x σ H1 D.nx) : tAsg te g D σ H := h
theorem k_ret {te : TE} (h : te σ H D.rt) : tRet te D σ H := h
theorem k_retN (h : D.rt .non H) : tRetN D σ H := h
theorem k_next (h : D.nx σ H) : tNext D σ H := h
theorem k_cont (h : D.ct σ H) : tCont D σ H := h
theorem k_break (h : D.bk σ H) : tBreak D σ H := h
theorem k_drop {te : TE} (h : te σ H fun _ H1 => D.nx σ H1) : tDrop te D σ H := h
theorem k_par {i j : Nat} {ta : TA} (h : ta σ H fun vs H1 => ∃ v w, vs = [v, w] ∧ D.nx ((σ.set i (some v)).set j (some w)) H1) : tPar i j ta D σ H := h
theorem k_two {p : V → V → Prop} {a b : V} (h : p a b) : ∃ v w, [a, b] = [v, w] ∧ p v w := ⟨a, b, rfl, h⟩
theorem k_var {i : Nat} {v : V} (e : σ[i]? = some (some v)) (h : Q v H) : tVar i σ H Q := ⟨v, e, h⟩
theorem k_c {v : V} (h : Q v H) : tC v σ H Q := h
theorem k_op {r : R2} {ta tb : TE} (h : ta σ H fun x H1 => tb σ H1 fun y H2 => r x y H2 Q) : tOp r ta tb σ H Q := h
theorem k_un {r : V → Hp → VK → Prop} {ta : TE} (h : ta σ H fun x H1 => r x H1 Q) : tUn r ta σ H Q := h
theorem k_cb {r : List V → Hp → VK → Prop} {t : TA} (h : t σ H fun vs H1 => r vs H1 Q) : tCB r t σ H Q := h
theorem k_cons {ta : TE} {tr : TA} {R : List V → Hp → Prop} (h : ta σ H fun x H1 => tr σ H1 fun xs H2 => R (x :: xs) H2) : tCons ta tr σ H R := h
theorem k_nil {R : List V → Hp → Prop} (h : R [] H) : tNil σ H R := h
theorem k_call {sp : Sp} {dvs : List V} {E : XK} {t : TA} (h : t σ H fun vs H1 => sp (vs ++ dvs) H1 Q E) : tCall sp dvs E t σ H Q := h
theorem k_make {C : Addr} {sp : Sp} {dvs : List V} {E : XK} {t : TA} (h : t σ H fun vs H1 => ∀ x dx, H1 x = none → H1 dx = none → dx ≠ x →
  sp (.ref x :: (vs ++ dvs)) (upd (upd H1 dx (.own x)) x (.ins C dx [])) (fun v H2 => v = .non ∧ Q (.ref x) H2) E) : tMake C sp dvs E t σ H Q := h
theorem k_test {t : TE} {R : Bool → Hp → Prop} (h : t σ H fun x H' => ∃ k, x = .bl k ∧ R k H') : tTest t σ H R := h
theorem k_tB {t : TE} {R : Bool → Hp → Prop} (h : t σ H fun x H' => ∃ k, x = .bl k ∧ R k H') : tB t σ H R := h
theorem k_bl {b : Bool} {R : Bool → Prop} (h : R b) : ∃ k, V.bl b = .bl k ∧ R k := ⟨b, rfl, h⟩
theorem k_and {t u : TT} {R : Bool → Hp → Prop} (h : t σ H fun c H1 => if c = true then u σ H1 R else R false H1) : tAnd t u σ H R := h
theorem k_or {t u : TT} {R : Bool → Hp → Prop} (h : t σ H fun c H1 => if c = true then R true H1 else u σ H1 R) : tOr t u σ H R := h
theorem k_not {t : TT} {R : Bool → Hp → Prop} (h : t σ H fun c H1 => R (!c) H1) : tNot t σ H R := h
theorem k_andV {ta tb : TE} (h : ta σ H fun x H1 => ∃ c, x = .bl c ∧ if c = true then tb σ H1 Q else Q (.bl false) H1) : tAndV ta tb σ H Q := h
theorem k_orV {ta tb : TE} (h : ta σ H fun x H1 => ∃ c, x = .bl c ∧ if c = true then Q (.bl true) H1 else tb σ H1 Q) : tOrV ta tb σ H Q := h
theorem k_notV {ta : TE} (h : ta σ H fun x H1 => ∃ c, x = .bl c ∧ Q (.bl (!c)) H1) : tNotV ta σ H Q := h
theorem k_ifE {t : TT} {ta tb : TE} (h : t σ H fun c H1 => if c = true then ta σ H1 Q else tb σ H1 Q) : tIf t ta tb σ H Q := h
theorem k_isN {ta : TE} (h : ta σ H fun x H1 => Q (.bl (decide (x = .non))) H1) : tIsN ta σ H Q := h
theorem k_notN {ta : TE} (h : ta σ H fun x H1 => Q (.bl (!decide (x = .non))) H1) : tNotN ta σ H Q := h
theorem k_name {i : Nat} {v : V} {R : L2.St → Hp → Prop} (h : R (σ.set i (some v)) H) : gName i v σ H R := h
theorem k_sub {to ti : TE} {t : TSet} {v : V} {R : L2.St → Hp → Prop} (h : to σ H fun o H1 => ti σ H1 fun i H2 => t o i v H2 fun H3 => R σ H3) : gSub to ti t v σ H R := h
theorem k_gt {n : Nat} {t : TGs} {R : L2.St → Hp → Prop} {a : Addr} {xs : List V} (h : SqT K H a xs) (e : xs.length = n) (q : t xs σ H R) : gTup K n t (.ref a) σ H R := ⟨a, xs, rfl, h, e, q⟩
theorem k_gn {R : L2.St → Hp → Prop} (h : R σ H) : gNil [] σ H R := ⟨rfl, h⟩
theorem k_gc {t : TG} {u : TGs} {v : V} {vs : List V} {R : L2.St → Hp → Prop} (h : t v σ H fun σ' H' => u vs σ' H' R) : gCons t u (v :: vs) σ H R := ⟨v, vs, rfl, h⟩
theorem k_I0 {g : Int → Int → V} {i j : Int} (h : Q (g i j) H) : rI0 g (.int i) (.int j) H Q := ⟨i, j, rfl, rfl, h⟩
theorem k_I {C : Int → Int → Prop} {g : Int → Int → V} {i j : Int} (c : C i j) (h : Q (g i j) H) : rI C g (.int i) (.int j) H Q := ⟨i, j, rfl, rfl, c, h⟩
theorem k_U {g : Int → V} {i : Int} (h : Q (g i) H) : rU g (.int i) H Q := ⟨i, rfl, h⟩
theorem k_eq {x y : V} (e : scal x y = true) (h : Q (.bl (decide (x = y))) H) : rEq x y H Q := ⟨e, h⟩
theorem k_ne {x y : V} (e : scal x y = true) (h : Q (.bl (!decide (x = y))) H) : rNe x y H Q := ⟨e, h⟩
theorem k_ixL {p : Addr} {xs : List V} {i : Int} {v : V} (h : SqL K H p xs) (e : atI xs i = some v) (q : Q v H) : rIxL K (.ref p) (.int i) H Q := ⟨p, xs, i, v, rfl, rfl, h, e, q⟩
theorem k_ixT {p : Addr} {xs : List V} {i : Int} {v : V} (h : SqT K H p xs) (e : atI xs i = some v) (q : Q v H) : rIxT K (.ref p) (.int i) H Q := ⟨p, xs, i, v, rfl, rfl, h, e, q⟩
theorem k_setL {p : Addr} {xs : List V} {k : Int} {j : Nat} {v : V} {R : Hp → Prop} (h : H p = some (.lst xs)) (e : ixN xs.length k = some j) (q : R (upd H p (.lst (xs.set j v)))) : rSetL (.ref p) (.int k) v H R := ⟨p, xs, k, j, rfl, rfl, h, e, q⟩
theorem k_tup {t : TA} (h : t σ H fun xs H1 => xs.length ≤ sizeLine ∧ ∀ p, H1 p = none → Q (.ref p) (upd H1 p (.tup xs))) : tTup t σ H Q := h
theorem k_lst {t : TA} (h : t σ H fun xs H1 => xs.length ≤ sizeLine ∧ ∀ p, H1 p = none → Q (.ref p) (upd H1 p (.lst xs))) : tLst t σ H Q := h
theorem k_bm {T : String} {r : V → List V → Hp → VK → Prop} {to : TE} {t : TA} (h : to σ H fun x H1 => tyV K T x H1 ∧ t σ H1 fun xs H2 => r x xs H2 Q) : tBM K T r to t σ H Q := h
theorem k_append {l : Addr} {xs : List V} {y : V} (h : H l = some (.lst xs)) (e : xs.length < sizeLine) (q : Q .non (upd H l (.lst (xs ++ [y])))) : rAppend (.ref l) [y] H Q := ⟨l, xs, y, rfl, rfl, h, e, q⟩
theorem k_dget {td ty : TE} (h : td σ H fun x H1 => ty σ H1 fun y H2 => ∃ a v, x = .ref a ∧ DGet H2 a y (some v) ∧ Q v H2) : tDGet td ty σ H Q := h
theorem k_dg {a : Addr} {y v : V} (h : DGet H a y (some v)) (q : Q v H) : ∃ b u, V.ref a = .ref b ∧ DGet H b y (some u) ∧ Q u H := ⟨a, v, rfl, h, q⟩
theorem k_fld {ta : TE} {f : Str} (h : ta σ H fun x H1 => ∃ a C dx fs v, x = .ref a ∧ H1 a = some (.ins C dx fs) ∧ Cls K C ∧ NoAttr K C f ∧ fs.lookup f = some v ∧ Q v H1) : tFld K ta f σ H Q := h
theorem k_sl {r : V → Option Int → Option Int → Hp → VK → Prop} {te : TE} {tl th : TO} (h : te σ H fun x H1 => tl σ H1 fun l H2 => th σ H2 fun u H3 => r x l u H3 Q) : L2.tSl r te tl th σ H Q := h
theorem k_noPart {R : Option Int → Hp → Prop} (h : R none H) : tNoPart σ H R := h
theorem k_part {t : TE} {R : Option Int → Hp → Prop} (h : t σ H fun x H1 => ∃ i, x = .int i ∧ R (some i) H1) : tPart t σ H R := h
theorem k_int {i : Int} {R : Int → Prop} (h : R i) : ∃ k, V.int i = .int k ∧ R k := ⟨i, rfl, h⟩
theorem k_int1 {i : Int} {R : Int → Prop} {R' : Bool → Prop} (h : R i) : (∃ j, [V.int i] = [V.int j] ∧ R j) ∨ (∃ k, [V.int i] = [V.bl k] ∧ R' k) := .inl ⟨i, rfl, h⟩
theorem k_len {a : Addr} {ys : List V} {R : List V → Prop} (h : SqL K H a ys ∨ SqT K H a ys) (q : R ys) : ∃ p xs, [V.ref a] = [V.ref p] ∧ (SqL K H p xs ∨ SqT K H p xs) ∧ R xs := ⟨a, ys, rfl, h, q⟩
theorem k_disp {trs : List (TE × TE)} (h : ∀ p, H p = none → tPairs trs σ (upd H p (.dK [])) fun ps H2 => H2 p = some (.dK []) ∧ ∃ kvs : List (Key × V), ps = kvs.map (fun kv => (kV kv.1, kv.2)) ∧ kvs.length ≤ 15 ∧ Q (.ref p) (upd H2 p (.dK (mergeK [] kvs)))) : tDisp trs σ H Q := h
theorem k_cut {t u : TS} (M : L2.St → Hp → Prop) (h : t { D with nx := M } σ H) (k : ∀ σ' H', M σ' H' → u D σ' H') : C8.tCut t u D σ H := ⟨M, h, k⟩
theorem k_rng1 {ta : TA} {R : It → Hp → Prop} (h : ta σ H fun vs H1 => ∃ j : Int, vs = [.int j] ∧ -(2 ^ 62) ≤ j ∧ j < 2 ^ 62 ∧ R (Itr 0 j.toNat) H1) : iRng1 ta σ H R := h
theorem k_rg {j : Int} {R : Int → Prop} (h1 : 0 ≤ j) (h2 : j < 2 ^ 62) (q : R j) : ∃ i : Int, [V.int j] = [V.int i] ∧ -(2 ^ 62) ≤ i ∧ i < 2 ^ 62 ∧ R i := ⟨j, rfl, by omega, h2, q⟩
theorem k_for {wi : TI} {g : TG} {tb : TS} (h : wi σ H fun J H1 => ∃ W : Nat → Nat → L2.St → Hp → Prop, (∃ m, W 0 m σ H1) ∧ ∀ i m σ H, W i m σ H →
  (J.stop i H ∧ D.nx σ H) ∨ (J.go i H ∧ ∃ N : L2.St → Hp → Prop, (∀ σ' H', N σ' H' → ∃ m', m' < m ∧ W (i + 1) m' σ' H') ∧ ∀ x H', J.yld i H x H' → g x σ H' fun σ2 H2 => tb { D with nx := N, ct := N, bk := D.nx } σ2 H2)) : tFor wi g tb D σ H := h
theorem k_lc {wi : TI} {g : TG} {tt : TT} {te : TE} {vs : List Nat} (h : wi σ H fun J H1 => ∀ D, H1 D = none → ∃ W : Nat → Nat → Hp → Prop, (∃ m, W 0 m (upd H1 D (.lst []))) ∧ ∀ i m H, W i m H →
  (J.stop i H ∧ Q (.ref D) H) ∨ (J.go i H ∧ ∃ Nx : Hp → Prop, (∀ H', Nx H' → ∃ m', m' < m ∧ W (i + 1) m' H') ∧ ∀ x H', J.yld i H x H' → g x (wipe σ vs) H' fun σ2 H2 => wipe σ2 vs = wipe σ vs ∧ tt σ2 H2 fun b H3 =>
    if b = true then te σ2 H3 fun y H4 => ∃ acc, H4 D = some (.lst acc) ∧ acc.length < sizeLine ∧ Nx (upd H4 D (.lst (acc ++ [y]))) else Nx H3)) : tLc wi g tt te vs σ H Q := h
theorem k_yesT {R : Bool → Hp → Prop} (h : R true H) : tYes σ H R := h
theorem k_str {te : TE} {R : It → Hp → Prop} (h : te σ H fun v H1 => ∃ x, v = .str x ∧ R (Its x) H1) : iStr te σ H R := h
theorem k_slS {z : Str} {lo hi : Option Int} (e : z.length ≤ sizeLine) (q : Q (.str (cutS z lo hi)) H) : rSlS (.str z) lo hi H Q := ⟨z, rfl, e, q⟩
theorem k_prs {tk tv : TE} {r : List (TE × TE)} {R : List (V × V) → Hp → Prop} (h : tk σ H fun x H1 => tv σ H1 fun y H2 => tPairs r σ H2 fun ps H3 => R ((x, y) :: ps) H3) : tPairs ((tk, tv) :: r) σ H R := h
theorem k_prn {R : List (V × V) → Hp → Prop} (h : R [] H) : tPairs [] σ H R := h
theorem k_aug {i : Nat} {te : TE} {ti : TIp} {x : V} (e : σ[i]? = some (some x)) (h : te σ H fun y H1 => ti x y H1 fun z H2 => D.nx (σ.set i (some z)) H2) : tAug i te ti D σ H := ⟨x, e, h⟩
theorem k_ipI {f : Int → Int → Int} {i j : Int} (h : Q (.int (f i j)) H) : ipI f (.int i) (.int j) H Q := ⟨i, j, rfl, rfl, h⟩
theorem k_din {ty td : TE} (h : ty σ H fun y H1 => td σ H1 fun x H2 => ∃ a o, x = .ref a ∧ DGet H2 a y o ∧ Q (.bl o.isSome) H2) : tDIn ty td σ H Q := h
theorem k_dnotin {ty td : TE} (h : ty σ H fun y H1 => td σ H1 fun x H2 => ∃ a o, x = .ref a ∧ DGet H2 a y o ∧ Q (.bl (!o.isSome)) H2) : tDNotIn ty td σ H Q := h
theorem k_dput {td ty tv : TE} (h : tv σ H fun v H1 => td σ H1 fun x H2 => ty σ H2 fun y H3 => ∃ a H4, x = .ref a ∧ DPut H3 a y v H4 ∧ D.nx σ H4) : sDPut td ty tv D σ H := h
theorem k_prop {C : Addr} {sp : Sp} {dvs : List V} {E : XK} {ta : TE} (h : ta σ H fun x H1 => ∃ a dx fs, x = .ref a ∧ H1 a = some (.ins C dx fs) ∧ sp (.ref a :: dvs) H1 Q E) : tProp C sp dvs E ta σ H Q := h
theorem k_itup {tl : TE} {R : It → Hp → Prop} (h : tl σ H fun x H1 => ∃ a, x = .ref a ∧ (∃ xs, SqT K H1 a xs) ∧ R (Itt K a) H1) : iTup K tl σ H R := h
theorem k_ilst {tl : TE} {R : It → Hp → Prop} (h : tl σ H fun x H1 => ∃ a, x = .ref a ∧ (∃ xs, SqL K H1 a xs) ∧ R (Itl K a) H1) : iList K tl σ H R := h
theorem k_bm0 {T : String} {r : V → List V → Hp → VK → Prop} {to : TE} (h : to σ H fun x H1 => tyV K T x H1 ∧ r x [] H1 Q) : tBM0 K T r to σ H Q := h
theorem k_dc {wi : TI} {g : TG} {tt : TT} {tk tv : TE} {vs : List Nat} (h : wi σ H fun J H1 => ∀ D, H1 D = none → ∃ W : Nat → Nat → Hp → Prop, (∃ m, W 0 m (upd H1 D (.dK []))) ∧ ∀ i m H, W i m H →
  (J.stop i H ∧ Q (.ref D) H) ∨ (J.go i H ∧ ∃ Nx : Hp → Prop, (∀ H', Nx H' → ∃ m', m' < m ∧ W (i + 1) m' H') ∧ ∀ x H', J.yld i H x H' → g x (wipe σ vs) H' fun σ2 H2 => wipe σ2 vs = wipe σ vs ∧ tt σ2 H2 fun b H3 =>
    if b = true then tk σ2 H3 fun y H4 => tv σ2 H4 fun z H5 => ∃ kvs k, y = kV k ∧ H5 D = some (.dK kvs) ∧ kvs.length < sizeLine ∧ Nx (upd H5 D (.dK (putK kvs k z))) else Nx H3)) : tDc wi g tt tk tv vs σ H Q := h
theorem k_whl {c : TT} {tb : TS} (W : Nat → L2.St → Hp → Prop) (h0 : ∃ m, W m σ H) (h : ∀ m σ H, W m σ H → c σ H fun b H1 => if b = true then tb { D with nx := fun σ' H' => ∃ m', m' < m ∧ W m' σ' H', ct := fun σ' H' => ∃ m', m' < m ∧ W m' σ' H', bk := D.nx } σ H1 else D.nx σ H1)
    (mono : ∀ σ H (R R' : Bool → Hp → Prop), (∀ b H1, R b H1 → R' b H1) → c σ H R → c σ H R') : tWhile c tb D σ H := by
  refine ⟨W, h0, fun m σ H w => mono _ _ _ _ (fun b H1 q => ?_) (h m σ H w)⟩
  cases b with
  | false => exact q
  | true => exact ⟨_, fun _ _ z => z, q⟩
theorem k_ite {p A B : Prop} [Decidable p] (h1 : p → A) (h2 : ¬ p → B) : if decide p = true then A else B := by
  by_cases h : p
  · rw [decide_eq_true h]; exact iteT (h1 h)
  · rw [decide_eq_false h]; exact iteF (h2 h)
theorem k_iteN {p A B : Prop} [Decidable p] (h1 : p → B) (h2 : ¬ p → A) : if (!decide p) = true then A else B := by
  by_cases h : p
  · rw [decide_eq_true h]; exact iteF (h1 h)
  · rw [decide_eq_false h]; exact iteT (h2 h)
theorem k_yes {c : Bool} {A B : Prop} (e : c = true) (h : A) : if c = true then A else B := by rw [e]; exact iteT h
theorem k_no {c : Bool} {A B : Prop} (e : c = false) (h : B) : if c = true then A else B := by rw [e]; exact iteF h
theorem k_bool {c : Bool} {A B : Prop} (h1 : c = true → A) (h2 : c = false → B) : if c = true then A else B := by cases c; exact iteF (h2 rfl); exact iteT (h1 rfl)
end
section
variable {K : PySem.W.Frag} {σ : L2.St} {H : Hp} {D : Ends} {Q : VK}
theorem k_par3 {i j l : Nat} {ta : TA} (h : ta σ H fun vs H1 => ∃ u v w, vs = [u, v, w] ∧ D.nx (((σ.set i (some u)).set j (some v)).set l (some w)) H1) : tPar3 i j l ta D σ H := h
theorem k_three {p : V → V → V → Prop} {a b c : V} (h : p a b c) : ∃ u v w, [a, b, c] = [u, v, w] ∧ p u v w := ⟨a, b, c, rfl, h⟩
theorem k_neD {x y : V} {d e : PyData} (h1 : Dp K H x d) (h2 : Dp K H y e) (s1 : SeqAt.shaped d = true) (s2 : SeqAt.shaped e = true) (q : Q (.bl (!PyData.eqv d e)) H) : rNeD K x y H Q := ⟨d, e, h1, h2, s1, s2, q⟩
theorem k_eqD {x y : V} {d e : PyData} (h1 : Dp K H x d) (h2 : Dp K H y e) (s1 : SeqAt.shaped d = true) (s2 : SeqAt.shaped e = true) (q : Q (.bl (PyData.eqv d e)) H) : rEqD K x y H Q := ⟨d, e, h1, h2, s1, s2, q⟩
theorem k_lenS {z : Str} {R : Int → Prop} (h : z.length ≤ sizeLine) (q : R z.length) : ∃ y : Str, [V.str z] = [V.str y] ∧ y.length ≤ sizeLine ∧ R y.length := ⟨z, rfl, h, q⟩
end
local macro_rules | `(tactic| walk_at "st") => `(tactic| first
  | ((with_reducible show tVar _ _ _ _); refine k_var rfl ?_)
  | (with_reducible first
    | refine k_c ?_ | refine k_op ?_ | refine k_I0 ?_ | refine k_seq ?_ | refine k_asg ?_ | refine k_name ?_ | refine k_cons ?_ | refine k_nil ?_ | refine k_cb ?_
    | refine k_ret ?_ | refine k_ifS ?_ | refine k_test ?_ | refine k_tB ?_ | refine k_bl ?_ | refine k_call ?_ | refine k_make ?_ | refine k_par3 ?_ | refine k_three ?_ | refine k_ipI ?_ | refine k_din ?_ | refine k_dnotin ?_ | refine k_dput ?_ | refine k_prop ?_ | refine k_itup ?_ | refine k_ilst ?_ | refine k_bm0 ?_ | refine k_dc ?_ | refine k_prs ?_ | refine k_prn ?_ | refine k_lc ?_ | refine k_yesT ?_ | refine k_str ?_ | refine k_disp ?_ | refine k_for ?_ | refine k_rng1 ?_ | refine k_drop ?_ | refine k_next ?_ | refine k_sub ?_ | refine k_un ?_ | refine k_U ?_
    | refine k_par ?_ | refine k_two ?_ | refine k_and ?_ | refine k_or ?_ | refine k_not ?_ | refine k_andV ?_ | refine k_orV ?_ | refine k_notV ?_ | refine k_ifE ?_ | refine k_isN ?_ | refine k_notN ?_
    | refine k_gn ?_ | refine k_gc ?_ | refine k_tup ?_ | refine k_lst ?_ | refine k_bm ?_ | refine k_dget ?_ | refine k_fld ?_ | refine k_sl ?_ | refine k_noPart ?_ | refine k_part ?_ | refine k_int ?_
    | refine k_int1 ?_ | refine k_retN ?_ | refine k_cont ?_ | refine k_break ?_)
  | ((with_reducible show rIxL _ _ _ _ _); refine k_ixL (SqL.of (by first | assumption | exact upd_same)) rfl ?_)
  | ((with_reducible show rSetL _ _ _ _ _); refine k_setL (by first | assumption | exact upd_same) rfl ?_)
  | ((with_reducible show tAug _ _ _ _ _ _); refine k_aug rfl ?_)
  | ((with_reducible show rEq _ _ _ _); refine k_eq rfl ?_)
  | ((with_reducible show rNe _ _ _ _); refine k_ne rfl ?_))
local macro_rules | `(tactic| walk_at "go") => `(tactic| repeat (walk_at "st"))
local macro_rules | `(tactic| walk_at "begin") => `(tactic| ((try dsimp only [cxOf]); simp only [L2.start, List.map_cons, List.map_nil, List.length_cons, List.length_nil, Nat.reduceAdd, Nat.reduceSub, List.replicate_succ, List.replicate_zero, List.cons_append, List.nil_append]))
/-! ### a draw: any number below the most -/
def sp_taken (K : PySem.W.Frag) : Sp := fun vs H Q _ => ∃ (a : Addr) (m : Int), vs = [.ref a, .int m] ∧ 0 < m ∧ m.natAbs < 2 ^ 8000 ∧ RowOk K H a ∧
  ∀ (x : Int) (H' : Hp), 0 ≤ x → x < m → RowOk K H' a → Keep a H H' → Q (.int x) H'
section
variable {P : Program} {w : World} {K : PySem.W.Frag} {mg : Str → Option Value} {base : Heap}
theorem ok_law_taken (T : Txt K mg) : FnOk P w K mg base (L2.CX P w) 1 T.a_law_taken T.fd_law_taken ["_law_row", "_law_many"] (sp_taken K) := by
  refine T.F_law_taken.okX sc_law_taken (fun vs H Q E h => ?_) (fun cdv A outer s H vs Q E hr h => ?_)
  · obtain ⟨a, m, rfl, _⟩ := h
    rfl
  · obtain ⟨a, m, rfl, m0, mb, ⟨sc, ns, i, z, r, ea, hs, hn, i0, z0, z1⟩, k⟩ := h
    refine ⟨_, (PSs.nox (pss_cons (ps_if (pt_cmpR op_gt (pe_ix ix_list (pv 0) pe_int (fun _ _ => rfl)) pe_int (nomark _))
  (pss_cons (ps_set (i := 2) sc_law_taken.nd rfl (Or.inl rfl) (pe_op op_mod (pe_callTy call_int1 (by rfl) T.z_int PySem.Pv.boot_int (pa_cons (pe_ix ix_list (pv 0) pe_int (fun _ _ => rfl)) pa_nil)) (pv 1)))
  (pss_cons (ps_asg (pe_op op_fdivW (pe_ix ix_list (pv 0) pe_int (fun _ _ => rfl)) (pv 1)) (pg_sub (pv 0) pe_int set_list))
  (pss_one (ps_ret (pv 2)))))
  pss_nil)
  (pss_cons (ps_asg (pe_op op_add (pe_ix ix_list (pv 0) pe_int (fun _ _ => rfl)) pe_int) (pg_sub (pv 0) pe_int set_list))
  (pss_cons (ps_if (pt_cmpR op_gt (pe_ix ix_list (pv 0) pe_int (fun _ _ => rfl)) (pe_callB call_len_seq (by rfl) T.z_len PySem.boot_len (pa_cons (pe_ix ix_list (pv 0) pe_int (fun _ _ => rfl)) pa_nil)) (nomark _))
  (pss_cons (ps_asg (pe_op op_mod (pe_callTy call_int1 (by rfl) T.z_int PySem.Pv.boot_int (pa_cons (pe_op op_add (pe_op op_mulW (pe_ix ix_list (pv 0) pe_int (fun _ _ => rfl)) pe_int) pe_int) pa_nil)) pe_int) (pg_sub (pv 0) pe_int set_list))
  (pss_one (ps_ret (pe_op op_mod (pe_callTy call_int1 (by rfl) T.z_int PySem.Pv.boot_int (pa_cons (pe_op op_fdivW (pe_ix ix_list (pv 0) pe_int (fun _ _ => rfl)) pe_int) pa_nil)) (pv 1)))))
  pss_nil)
  (pss_cons (ps_set (i := 3) sc_law_taken.nd rfl (Or.inl rfl) (pe_ix ix_list (pe_ix ix_list (pv 0) pe_int (fun _ _ => rfl)) (pe_op op_sub (pe_ix ix_list (pv 0) pe_int (fun _ _ => rfl)) pe_int) (fun _ _ => rfl)))
  (pss_cons (ps_asg (pe_op op_mod (pe_callTy call_int1 (by rfl) T.z_int PySem.Pv.boot_int (pa_cons (pe_op op_add (pe_op op_add (pe_op op_mulW (pe_ix ix_list (pv 0) pe_int (fun _ _ => rfl)) pe_int) (pv 3)) pe_int) pa_nil)) pe_int) (pg_sub (pv 0) pe_int set_list))
  (pss_cons (ps_if (pt_cmpR op_ge (pv 3) (pe_op op_pow pe_int pe_int) (nomark _))
  (pss_one (ps_asg (pe_op op_fdivW (pv 3) (pv 1)) (pg_sub (pv 0) pe_int set_list)))
  pss_nil)
  (pss_one (ps_ret (pe_op op_mod (pe_callTy call_int1 (by rfl) T.z_int PySem.Pv.boot_int (pa_cons (pv 3) pa_nil)) (pv 1))))))))))), ?_⟩
    walk_at "begin"
    walk_at "go"
    have CD : CDivW r m := wide_div m0 mb (by decide) (by decide)
    have CZ : CMulW z 48271 := wide_mul (a := 31) (b := 16) (by omega) (by decide) (by decide) (by decide) (by decide)
    refine k_ite (fun c => ?_) (fun c => ?_)
    · walk_at "go"
      refine k_I m0 ?_
      walk_at "go"
      refine k_I CD ?_
      walk_at "go"
      exact k _ _ (Int.emod_nonneg _ (by omega)) (Int.emod_lt_of_pos _ m0) ⟨sc, ns, i, z, r / m, upd_same, hs.keep Keep.at_ ea, hn, i0, z0, z1⟩ Keep.at_
    · walk_at "go"
      have K1 : Keep a H (upd H a (HO.lst ([V.ref sc, V.int i, V.int z, V.int r].set (Int.toNat 1) (V.int (i + 1))))) := Keep.at_
      refine k_len (.inl (hs.keep K1 ea).sq) ?_
      walk_at "go"
      have zn : ∀ q : Int, 0 ≤ q % 2147483647 ∧ q % 2147483647 < 2147483647 := fun q => ⟨Int.emod_nonneg _ (by decide), Int.emod_lt_of_pos _ (by decide)⟩
      have mn : ∀ q : Int, 0 ≤ q % m ∧ q % m < m := fun q => ⟨Int.emod_nonneg _ (by omega), Int.emod_lt_of_pos _ m0⟩
      refine k_ite (fun c1 => ?_) (fun c1 => ?_)
      · walk_at "go"
        refine k_I CZ ?_
        walk_at "go"
        refine k_I (by decide) ?_
        walk_at "go"
        refine k_I (wide_div (b := 3) (by decide) (by decide) (by decide) (by decide)) ?_
        walk_at "go"
        refine k_I m0 ?_
        exact k _ _ (mn _).1 (mn _).2 ⟨sc, ns, i + 1, _, r, upd_same, (hs.keep K1 ea).keep Keep.at_ upd_same, hn, by omega, (zn _).1, (zn _).2⟩ (K1.trans Keep.at_)
      · walk_at "go"
        rw [List.length_map] at c1
        have hl : (i + 1 - 1).toNat < ns.length := by omega
        refine k_ixL (hs.keep K1 ea).sq (v := V.int (ns[(i + 1 - 1).toNat]'hl)) (at_of (j := (i + 1 - 1).toNat) (by omega) (by rw [List.getElem?_map, List.getElem?_eq_getElem hl]; rfl)) ?_
        generalize ns[(i + 1 - 1).toNat]'hl = cell
        walk_at "go"
        refine k_I CZ ?_
        walk_at "go"
        refine k_I (by decide) ?_
        walk_at "go"
        refine k_I (by exact ⟨by decide, by decide, by decide⟩) ?_
        walk_at "go"
        refine k_ite (fun c2 => ?_) (fun c2 => ?_)
        · walk_at "go"
          refine k_I (wide_div m0 mb (by decide) (by decide)) ?_
          walk_at "go"
          refine k_I m0 ?_
          exact k _ _ (mn _).1 (mn _).2 ⟨sc, ns, i + 1, _, _, upd_same, ((hs.keep K1 ea).keep Keep.at_ upd_same).keep Keep.at_ upd_same, hn, by omega, (zn _).1, (zn _).2⟩ ((K1.trans Keep.at_).trans Keep.at_)
        · walk_at "go"
          refine k_I m0 ?_
          exact k _ _ (mn _).1 (mn _).2 ⟨sc, ns, i + 1, _, _, upd_same, (hs.keep K1 ea).keep Keep.at_ upd_same, hn, by omega, (zn _).1, (zn _).2⟩ (K1.trans Keep.at_)
end
/-! ### enumerate over a tuple -/
section
open Builtin
theorem meets_enumT (t : Addr) (its : Array Value) : Meets (Builtin.«enumerate.__new__» ⟨[.type "enumerate", .ref t], []⟩) (fun _ R st => st.heap.IsTuple t its ∧
    R (.ok (.ret (.ref (st.heap.objs.size + 1)))) { st with heap := (st.heap.push { cls := .type "tuple_iterator", data := .fields #[.ref t, .int 0 0] }).push { cls := .type "enumerate", data := .fields #[.none, .bool false, .ref st.heap.objs.size, rawInt 0, .none, .none] } }) := by
  refine Meets.of_wp fun prog w A R st hh => ?_
  rcases st with ⟨h0, g0, d0, t0, o0⟩
  obtain ⟨isT, q⟩ := hh
  have sub := sub_enumerate
  have L : Heap.IsTuple (Shared.heap ⟨h0, g0, d0, t0, o0⟩) t its := isT
  obtain ⟨ob, e0, c0, n0, dt0⟩ := L
  have z : (Heap.push h0 { cls := .type "tuple_iterator", data := .fields #[.ref t, .int 0 0] }).objs.size = h0.objs.size + 1 := Heap.size_push ..
  have q' := q
  rw [← z] at q'
  wp_walk using PySem.wpAny_pyIter_tuple isT
  refine wpAny_stack_any fun fr => wpAny_pure ?_
  split
  · rename_i cc _ _ _ _ _
    cases (cc == Value.type "enumerate")
    · wp_walk using PySem.wpAny_pyIter_tuple isT
      exact ⟨_, rfl, q'⟩
    · wp_walk using PySem.wpAny_pyIter_tuple isT
      exact ⟨_, rfl, q'⟩
  · wp_walk using PySem.wpAny_pyIter_tuple isT
    exact ⟨_, rfl, q'⟩
end
section
variable {prog : Program} {w : World} {A : Around} {E : Value → Shared → Prop} {s : Shared}
theorem call_enumT {t : Addr} {its : Array Value} {Q : Value → Shared → Prop} (isT : s.heap.IsTuple t its)
    (k : ∀ h', IsEnum h' (s.heap.objs.size + 1) s.heap.objs.size 0 .none → h'.IsTupleIter s.heap.objs.size t 0 → (∀ b o, s.heap.get? b = some o → h'.get? b = some o) →
      Q (.ref (s.heap.objs.size + 1)) { s with heap := h' }) : wpAny (model prog w) A (call (.type "enumerate") [.ref t]) Q E s := by
  have m := meets_enumT t its
  refine callType_new F.called_enumerate (by decide) (F.typeCall_enumerate_1 _) (F.newCall_enumerate_1 _) (fun o => F.args_object_init_2 o _) F.entry_enumerate_new m ⟨isT, ?_⟩
  have z : (Heap.push s.heap { cls := .type "tuple_iterator", data := .fields #[.ref t, .int 0 0] }).objs.size = s.heap.objs.size + 1 := Heap.size_push ..
  have g := Heap.get?_push_size (Heap.push s.heap { cls := .type "tuple_iterator", data := .fields #[.ref t, .int 0 0] })
    (o := { cls := .type "enumerate", data := .fields #[.none, .bool false, .ref s.heap.objs.size, rawInt 0, .none, .none] }) rfl
  rw [z] at g
  exact ⟨⟨_, g, rfl⟩, k _ g ⟨_, Heap.get?_push_of_some _ (Heap.get?_push_size _ rfl), rfl, rfl⟩ fun b o x => Heap.get?_push_of_some _ (Heap.get?_push_of_some _ x)⟩
end
/-- the i-th pair is new: its place and the tuple's item -/
def Iet (K : PySem.W.Frag) (a : Addr) : It :=
  ⟨fun i H => ∃ (xs : List V) (x : V), SqT K H a xs ∧ xs[i]? = some x,
   fun i H v H' => ∃ p x, v = .ref p ∧ H p = none ∧ H' = upd H p (.tup [.int (i : Nat), x]) ∧ ∀ xs, SqT K H a xs → xs[i]? = some x,
   fun i H => ∃ xs : List V, SqT K H a xs ∧ xs.length ≤ i⟩
theorem turn_enumT {P : Program} {w : World} {K : PySem.W.Frag} {es : List Expr} {c : Nat} {tp : Pos} (a e it : Addr) :
    Turn P w K (.Tuple es c tp) (Iet K a) [e, it] e (fun i h => (∃ old, IsEnum h e it ((i : Nat) : Int) old) ∧ h.IsTupleIter it a i ∧ e ≠ it) := by
  have two : ∀ b, b ∈ [e, it] → b = e ∨ b = it := fun b hb => by simpa using hb
  constructor
  case mem => simp
  case obj =>
    rintro i h ⟨⟨old, he⟩, ⟨o, ho, hc, hd⟩, _⟩ b hb
    rcases two b hb with rfl | rfl
    · exact ⟨_, he, fun v q => nomatch q⟩
    · exact ⟨o, ho, fun v q => by rw [hd] at q; cases q⟩
  case keep =>
    rintro i h h' ⟨⟨old, he⟩, hi, ne⟩ k
    exact ⟨⟨old, k e (by simp) _ he⟩, hi.at fun o q => k it (by simp) o q, ne⟩
  case item =>
    rintro X rfl rfl rfl hC i pins s σ H E I hf ⟨⟨old, he⟩, hit, ne⟩ ⟨xs, x, hq, hx⟩
    obtain ⟨its, rv, p, hz⟩ := I.tuple hq
    obtain ⟨u, hu, ru⟩ := rv.get hx
    have le : e < s.heap.objs.size := Heap.lt_size he
    have li : it < s.heap.objs.size := by obtain ⟨_, q, _⟩ := hit; exact Heap.lt_size q
    have pt : s.heap.IsTuple a its.toArray := p
    have na : a ≠ it := fun z => by
      obtain ⟨o1, q1, c1, _⟩ := hit
      obtain ⟨o2, q2, c2, _⟩ := pt
      rw [z, q1] at q2
      cases q2
      rw [c1] at c2
      exact absurd c2 (by simp)
    have nb : e ≠ a := fun z => by
      obtain ⟨o2, q2, c2, _⟩ := pt
      have q3 : s.heap.get? e = _ := he
      rw [z, q2] at q3
      cases q3
      exact absurd c2 (by simp)
    have Dr := Draws.tuple (prog := X.prog) (w := X.w) (A := X.A.in1) (I.ok.hd hC) it a na its.toArray
    refine wpAny_pyNext_enum_itemD (i := i) Dr he ⟨hit, pt⟩ (by simpa using (List.getElem?_eq_some_iff.mp hu).1) ne (by simp [ne, nb]) fun x' h' tk px ho st hT hsz hk => ?_
    have ex : x' = u := by
      have q : its.toArray[i]? = some x' := px
      rw [List.getElem?_toArray, hu] at q
      exact (Option.some.inj q).symm
    subst ex
    refine ⟨_, rfl, wpAny_letOwnedTupleGo_enum (s := { s with heap := h', toks := tk + 1 }) ho fun h2 he2 sb => ?_⟩
    have hT2 : h2.get? s.heap.objs.size = some { cls := .type "tuple", data := .seq #[.int i tk, x'] } := (sb.2 _ (Nat.ne_of_gt le)).trans hT
    have new : ObjOk X.prog X.w (upd H s.heap.objs.size (.tup [.int (i : Nat), x])) h2 s.heap.objs.size (.tup [.int (i : Nat), x]) :=
      ⟨(by decide : 2 ≤ sizeLine), [.int i tk, x'], .cons ⟨_, rfl⟩ (.cons ru .nil), ⟨_, hT2, rfl, _, rfl⟩⟩
    have I1 : Inv X pins σ (upd H s.heap.objs.size (.tup [.int (i : Nat), x])) { s with heap := h2, toks := tk + 1 } :=
      I.turnedNew (ch := [e, it]) (fun b ob hb q => (sb.2 b (fun z => hb (by simp [z]))).trans (hk b ob (fun z => hb (by simp [z])) (fun z => hb (by simp [z])) q)) hf (Nat.le_refl _) new
    refine ⟨.ref s.heap.objs.size, _, I1, rfl, ⟨_, x, rfl, I.hok.fresh (Nat.le_refl _), rfl, fun ys hy => ?_⟩, ⟨⟨x', ?_⟩, ?_, ne⟩, fun b hb => ?_⟩
    · rw [I.tuple_inj hy hq]; exact hx
    · have e1 : ((i + 1 : Nat) : Int) = (i : Int) + 1 := by omega
      rw [e1]; exact he2
    · exact st.1.at fun o q => (sb.2 it (Ne.symm ne)).trans q
    · have lb : b < s.heap.objs.size := by rcases two b hb with rfl | rfl <;> assumption
      rw [upd_ne (Nat.ne_of_lt lb)]
      exact (hf b hb).1
  case done =>
    rintro X rfl rfl rfl hC i pins s σ H E I hf ⟨⟨old, he⟩, hit, ne⟩ ⟨xs, hq, hx⟩
    obtain ⟨its, rv, p, hz⟩ := I.tuple hq
    have pt : s.heap.IsTuple a its.toArray := p
    have na : a ≠ it := fun z => by
      obtain ⟨o1, q1, c1, _⟩ := hit
      obtain ⟨o2, q2, c2, _⟩ := pt
      rw [z, q1] at q2
      cases q2
      rw [c1] at c2
      exact absurd c2 (by simp)
    have out : its.toArray[i]? = none := by
      have hl := rv.length
      rw [List.getElem?_toArray]
      exact List.getElem?_eq_none (by omega)
    have Dr : Draws X.prog X.w X.A.in1 it [it, a] i (fun _ _ => True) (fun j h => j = i ∧ h.IsTupleIter it a j ∧ h.IsTuple a its.toArray) :=
      { live := fun j h st => by obtain ⟨_, ⟨o, ho, _⟩, _⟩ := st; exact ⟨o, ho⟩
        frame := fun j h h' st hk => ⟨st.1, st.2.1.at fun o e => hk it (by simp) o e, st.2.2.at fun o e => hk a (by simp) o e⟩
        item := fun j s Q E hj st hQ => absurd st.1 (Nat.ne_of_lt hj)
        done := fun s Q E st hE => wpAny_nextOf_tuple_end (A := X.A.in1) (I.ok.hd hC) st.2.1 st.2.2 out hE }
    obtain ⟨f0, f1, f2, f3, f4, f5⟩ := hf it (by simp)
    exact wpAny_pyNext_enum_endD Dr he ⟨rfl, hit, pt⟩ fun h' eb => ⟨rfl, I.turned (t' := s.toks) (fun b o hb q => eb b o hb q) f0 f1 f3 f4 f5⟩
  case self =>
    rintro A i s Q E ⟨⟨_, he⟩, _⟩ h
    exact wpAny_pyIter_enum he h
def iEnumT (K : PySem.W.Frag) (ta : TA) : TI := fun σ H R => ta σ H fun vs H1 => ∃ a xs, vs = [.ref a] ∧ SqT K H1 a xs ∧ R (Iet K a) H1
theorem pi_enumT {X : Cx} {e : Expr} {ta : TA} {p pos tpos : Pos} {es : List Expr} {c : Nat} (hg : Gl X "enumerate") (hm : X.mg "enumerate" = none) (ha : PA X [e] ta)
    (hs : starEach [e] X.env = [(false, eval e X.env)] := by rfl) : PI X (.Tuple es c tpos) (.Call (.Name "enumerate" p) [e] [] pos) (iEnumT X.K ta) := by
  constructor
  intro pins s σ H R I h
  refine PyProof.Rows.Call_ (ld_blt I hg hm (show bootBuiltins "enumerate" = some (.type "enumerate") by decide +kernel) (PyProof.Rows.callWith_type1 (thn (ha.run pos pins s σ H _ I h) ?_) hs rfl))
  rintro us s1 ⟨vs, H1, I1, r1, a, xs, rfl, hq, q⟩
  obtain ⟨u, rfl, ru⟩ := vals1 r1
  cases ru
  obtain ⟨its, rv, p', hz⟩ := I1.tuple hq
  have pt : s1.heap.IsTuple a its.toArray := p'
  refine call_enumT pt fun h' he hit hk => wpAny_pyIter_enum he ?_
  have I2 : Inv X pins σ H1 { s1 with heap := h' } := I1.kept (t' := s1.toks) hk
  refine ⟨s1.heap.objs.size + 1, [s1.heap.objs.size + 1, s1.heap.objs.size], _, _, H1, rfl, I2, turn_enumT a (s1.heap.objs.size + 1) s1.heap.objs.size, ⟨⟨.none, he⟩, hit, Nat.succ_ne_self _⟩, fun b hb => ?_, q⟩
  have lb : s1.heap.objs.size ≤ b := by
    have two : b = s1.heap.objs.size + 1 ∨ b = s1.heap.objs.size := by simpa using hb
    rcases two with rfl | rfl
    · exact Nat.le_succ _
    · exact Nat.le_refl _
  exact I1.fpOk lb (I1.hok.fresh lb)
/-- over a tuple that stands still, the place and the item in a new pair -/
theorem for_enumT {K : PySem.W.Frag} {a : Addr} {xs : List V} {g : TG} {tb : TS} {D : Ends} {σ : L2.St} {H : Hp} (Pv : Nat → L2.St → Hp → Prop) (h0 : Pv 0 σ H) (hl : ∀ i σ H, i ≤ xs.length → Pv i σ H → SqT K H a xs)
    (hs : ∀ i x p σ H, xs[i]? = some x → Pv i σ H → H p = none → g (.ref p) σ (upd H p (.tup [.int (i : Nat), x])) fun σ2 H2 => tb { D with nx := Pv (i + 1), ct := Pv (i + 1), bk := D.nx } σ2 H2) (hd : ∀ σ H, Pv xs.length σ H → D.nx σ H) :
    ∃ W : Nat → Nat → L2.St → Hp → Prop, (∃ m, W 0 m σ H) ∧ ∀ i m σ H, W i m σ H → ((Iet K a).stop i H ∧ D.nx σ H) ∨
      ((Iet K a).go i H ∧ ∃ N : L2.St → Hp → Prop, (∀ σ' H', N σ' H' → ∃ m', m' < m ∧ W (i + 1) m' σ' H') ∧ ∀ x H', (Iet K a).yld i H x H' → g x σ H' fun σ2 H2 => tb { D with nx := N, ct := N, bk := D.nx } σ2 H2) := by
  refine ⟨fun i m σ H => m + i = xs.length ∧ Pv i σ H, ⟨xs.length, by simp, h0⟩, fun i m σ H ⟨em, hP⟩ => ?_⟩
  have sq := hl i σ H (by omega) hP
  by_cases c : i < xs.length
  · refine .inr ⟨⟨xs, xs[i], sq, List.getElem?_eq_getElem c⟩, Pv (i + 1), fun σ' H' z => ⟨m - 1, by omega, by omega, z⟩, ?_⟩
    rintro v H' ⟨p, x, rfl, hp, rfl, hx⟩
    exact hs i x p σ H (hx xs sq) hP hp
  · have e : i = xs.length := by omega
    exact .inl ⟨⟨xs, sq, by omega⟩, hd σ H (e ▸ hP)⟩
/-! ### machines as data -/
structure Stp where
  b : Nat
  c : Nat
  e : Nat
  g : Int
structure MD where
  n : Nat
  ss : List Stp
  es : List Nat
def stpV (s : Stp) : List V := [.int (s.b : Nat), .str ⟨#[s.c]⟩, .int (s.e : Nat), .int s.g]
structure Stp.Ok (n : Nat) (s : Stp) : Prop where
  b : s.b < n
  c : 97 ≤ s.c
  c' : s.c ≤ 100
  e : s.e < n
  g : -(10 ^ 30) ≤ s.g
  g' : s.g ≤ 10 ^ 30
def Stp.lt (s t : Stp) : Prop := s.b < t.b ∨ (s.b = t.b ∧ s.c < t.c)
structure MD.Ok (m : MD) : Prop where
  n1 : 1 ≤ m.n
  n8 : m.n ≤ 8
  ok : ∀ s ∈ m.ss, s.Ok m.n
  up : m.ss.Pairwise Stp.lt
  len : m.ss.length ≤ 32
  eb : ∀ e ∈ m.es, e < m.n
  eu : m.es.Pairwise (· < ·)
  el : m.es.length ≤ 8
/-- steps alone, whatever the number of stands -/
structure StOk (N : Nat) (s : Stp) : Prop where
  b : s.b < N
  c : 97 ≤ s.c
  c' : s.c ≤ 100
  e : s.e < N
  g : -(10 ^ 32) ≤ s.g
  g' : s.g ≤ 10 ^ 32
structure SsOk (N : Nat) (ss : List Stp) : Prop where
  n1 : 1 ≤ N
  n64 : N ≤ 63
  ok : ∀ s ∈ ss, StOk N s
  len : ss.length ≤ 300
theorem MD.Ok.sok {m : MD} (o : m.Ok) : SsOk m.n m.ss := ⟨o.n1, by have := o.n8; omega, fun s h => let k := o.ok s h; ⟨k.b, k.c, k.c', k.e, by have := k.g; omega, by have := k.g'; omega⟩, by have := o.len; omega⟩
/-- the steps' tuples -/
def StpsAt (K : PySem.W.Frag) (H : Hp) (vs : List V) (ss : List Stp) : Prop := vs.length = ss.length ∧ ∀ (i : Nat) (s : Stp), ss[i]? = some s → ∃ p, vs[i]? = some (V.ref p) ∧ SqT K H p (stpV s)
def nats (es : List Nat) : List V := es.map fun e => V.int (e : Nat)
def StAt (K : PySem.W.Frag) (H : Hp) (t : Addr) (ss : List Stp) : Prop := ∃ us, SqT K H t us ∧ StpsAt K H us ss
/-- steps and ends as they stand -/
def PartsAt (K : PySem.W.Frag) (H : Hp) (t u : Addr) (m : MD) : Prop := (∃ vs, SqT K H t vs ∧ StpsAt K H vs m.ss) ∧ SqT K H u (nats m.es)
def DAt (K : PySem.W.Frag) (H : Hp) (d : Addr) (m : MD) : Prop := ∃ t u, H d = some (.dK [(.inr "stands", .int (m.n : Nat)), (.inr "steps", .ref t), (.inr "ends", .ref u)]) ∧ PartsAt K H t u m
def mfs (n : Nat) (t u : Addr) : List (Str × V) := [("_stands", .int (n : Nat)), ("_steps", .ref t), ("_ends", .ref u)]
def MAt (K : PySem.W.Frag) (C : Addr) (H : Hp) (x : Addr) (m : MD) : Prop := ∃ dx t u, H x = some (.ins C dx (mfs m.n t u)) ∧ PartsAt K H t u m
section
variable {K : PySem.W.Frag} {a : Addr} {H H' : Hp}
/-- tuples stay -/
def Tups (H H' : Hp) : Prop := (∀ b xs, H b = some (.tup xs) → H' b = some (.tup xs)) ∧ ∀ b o xs, H b = some (.frz o (.tup xs)) → H' b = some (.frz o (.tup xs))
theorem Tups.trans {H H1 H2 : Hp} (a : Tups H H1) (b : Tups H1 H2) : Tups H H2 := ⟨fun c xs e => b.1 c xs (a.1 c xs e), fun c o xs e => b.2 c o xs (a.2 c o xs e)⟩
theorem Tups.sq {p : Addr} {xs : List V} (k : Tups H H') (h : SqT K H p xs) : SqT K H' p xs := by
  rcases h with (h | ⟨o, h⟩) | h
  · exact .inl (.inl (k.1 _ _ h))
  · exact .inl (.inr ⟨o, k.2 _ _ _ h⟩)
  · exact .inr h
theorem Tups.steps {vs : List V} {ss : List Stp} (k : Tups H H') (h : StpsAt K H vs ss) : StpsAt K H' vs ss := ⟨h.1, fun i s e => let ⟨p, e1, q⟩ := h.2 i s e; ⟨p, e1, k.sq q⟩⟩
theorem Tups.stAt {t : Addr} {ss : List Stp} (k : Tups H H') (h : StAt K H t ss) : StAt K H' t ss := let ⟨us, q, z⟩ := h; ⟨us, k.sq q, k.steps z⟩
theorem Tups.parts {t u : Addr} {m : MD} (k : Tups H H') (h : PartsAt K H t u m) : PartsAt K H' t u m := let ⟨⟨vs, q, z⟩, r⟩ := h; ⟨⟨vs, k.sq q, k.steps z⟩, k.sq r⟩
theorem same_tups (k : Same H H') : Tups H H' := ⟨fun _ _ e => k _ _ e, fun _ _ _ e => k _ _ e⟩
theorem Keep.tups {l : List V} (k : Keep a H H') (ha : H a = some (.lst l)) : Tups H H' := ⟨fun b _ e => k _ _ (fun z => by rw [z, ha] at e; cases e) e, fun b _ _ e => k _ _ (fun z => by rw [z, ha] at e; cases e) e⟩
theorem Tups.new {p : Addr} {o : HO} (h : H p = none) : Tups H (upd H p o) := same_tups (Same.new h)
theorem Tups.lst {p : Addr} {xs : List V} {o : HO} (h : H p = some (.lst xs)) : Tups H (upd H p o) := Keep.tups (Keep.at_) h
theorem DAt.keep {d : Addr} {m : MD} {l : List V} (h : DAt K H d m) (k : Keep a H H') (ha : H a = some (.lst l)) : DAt K H' d m :=
  let ⟨t, u, e, q⟩ := h; ⟨t, u, k _ _ (fun z => by rw [z, ha] at e; cases e) e, (k.tups ha).parts q⟩
theorem MAt.keep {C x : Addr} {m : MD} {l : List V} (h : MAt K C H x m) (k : Keep a H H') (ha : H a = some (.lst l)) : MAt K C H' x m :=
  let ⟨dx, t, u, e, q⟩ := h; ⟨dx, t, u, k _ _ (fun z => by rw [z, ha] at e; cases e) e, (k.tups ha).parts q⟩
theorem DAt.same {d : Addr} {m : MD} (h : DAt K H d m) (k : Same H H') : DAt K H' d m := let ⟨t, u, e, q⟩ := h; ⟨t, u, k _ _ e, (same_tups k).parts q⟩
theorem MAt.same {C x : Addr} {m : MD} (h : MAt K C H x m) (k : Same H H') : MAt K C H' x m := let ⟨dx, t, u, e, q⟩ := h; ⟨dx, t, u, k _ _ e, (same_tups k).parts q⟩
theorem StpsAt.snoc {vs : List V} {ss : List Stp} {p : Addr} {s : Stp} (h : StpsAt K H vs ss) (q : SqT K H p (stpV s)) : StpsAt K H (vs ++ [V.ref p]) (ss ++ [s]) := by
  refine ⟨by rw [List.length_append, List.length_append, h.1]; rfl, fun i t e => ?_⟩
  by_cases c : i < ss.length
  · rw [List.getElem?_append_left c] at e
    obtain ⟨r, e1, q1⟩ := h.2 i t e
    exact ⟨r, by rw [List.getElem?_append_left (by rw [h.1]; exact c)]; exact e1, q1⟩
  · rw [List.getElem?_append_right (by omega)] at e
    have z : i - ss.length = 0 := by
      have := (List.getElem?_eq_some_iff.mp e).1
      simp at this
      omega
    rw [z] at e
    cases e
    exact ⟨p, by rw [List.getElem?_append_right (by rw [h.1]; omega), h.1, z]; rfl, q⟩
end
/-! ### what a machine checks -/
def NotInt (K : PySem.W.Frag) (H : Hp) (v : V) : Prop := (∃ b, v = .bl b) ∨ ∃ t, TyX K H v t ∧ PySem.W.kitOne K t (.type "int") = some false
theorem k_isi {K : PySem.W.Frag} {H : Hp} {Q : VK} {x c : V} {t u : Value} {b : Bool} (hc : ClsV c u) (ht : TyX K H x t) (hk : PySem.W.kitOne K t u = some b) (h : Q (.bl b) H) : rIsi K [x, c] H Q := ⟨x, c, t, u, b, rfl, hc, ht, hk, h⟩
theorem k_chain {r r' : R2} {ta tb tc : TE} {σ : L2.St} {H : Hp} {Q : VK} (h : ta σ H fun x H1 => tb σ H1 fun y H2 => r x y H2 fun z H3 => ∃ k, z = .bl k ∧
  (if k = true then tc σ H3 fun w' H4 => r' y w' H4 Q else Q (.bl false) H3)) : tChain r r' ta tb tc σ H Q := h
def sp_whole (K : PySem.W.Frag) : Sp := fun vs H Q _ => ∃ v : V, vs = [v] ∧ ((∃ i, v = .int i ∧ Q (.bl true) H) ∨ (NotInt K H v ∧ Q (.bl false) H))
def sp_between (K : PySem.W.Frag) : Sp := fun vs H Q _ => ∃ (v : V) (lo hi : Int), vs = [v, .int lo, .int hi] ∧ ((∃ i, v = .int i ∧ Q (.bl (decide (lo ≤ i ∧ i ≤ hi))) H) ∨ (NotInt K H v ∧ Q (.bl false) H))
def sp_is_stand (K : PySem.W.Frag) : Sp := fun vs H Q _ => ∃ (v : V) (n : Int), vs = [.int n, v] ∧ ((∃ i, v = .int i ∧ Q (.bl (decide (0 ≤ i ∧ i < n))) H) ∨ (NotInt K H v ∧ Q (.bl false) H))
def sp_check_stands (K : PySem.W.Frag) : Sp := fun vs H Q _ => ∃ n : Int, vs = [.int n] ∧ 1 ≤ n ∧ n ≤ 8 ∧ Q .non H
section
variable {P : Program} {w : World} {K : PySem.W.Frag} {mg : Str → Option Value} {base : Heap}
theorem ok_is_whole_number (T : Txt K mg) : FnOk P w K mg base (L2.CX P w) 1 T.a_is_whole_number T.fd_is_whole_number ["value"] (sp_whole K) := by
  refine T.F_is_whole_number.okX sc_is_whole_number (fun vs H Q E h => ?_) (fun cdv A outer s H vs Q E hr h => ?_)
  · obtain ⟨v, rfl, _⟩ := h
    rfl
  · obtain ⟨v, rfl, k⟩ := h
    refine ⟨_, (PSs.nox (pss_one (ps_ret (pe_and (pe_callB call_isi (by rfl) T.z_isinstance (by decide +kernel) (pa_cons (pv 0) (pa_cons (pe_bltn (v := .ty "int") (by rfl) T.z_int (by decide +kernel) rfl) pa_nil))) (pe_one (pe_not (pe_callB call_isi (by rfl) T.z_isinstance (by decide +kernel) (pa_cons (pv 0) (pa_cons (pe_bltn (v := .ty "bool") (by rfl) T.z_bool (by decide +kernel) rfl) pa_nil))))))))), ?_⟩
    walk_at "begin"
    walk_at "go"
    rcases k with ⟨i, rfl, k⟩ | ⟨⟨b, rfl⟩ | ⟨t, ht, hk⟩, k⟩
    · refine k_isi (.ty _) (.base (.int i)) (kit_ty (b := "int") (r := true) (by decide +kernel)) ?_
      walk_at "go"
      refine iteT ?_
      walk_at "go"
      refine k_isi (.ty _) (.base (.int i)) (kit_ty (b := "bool") (r := false) (by decide +kernel)) ?_
      walk_at "go"
      exact k
    · refine k_isi (.ty _) (.base (.bl b)) (kit_ty (b := "int") (r := true) (by decide +kernel)) ?_
      walk_at "go"
      refine iteT ?_
      walk_at "go"
      refine k_isi (.ty _) (.base (.bl b)) (kit_ty (b := "bool") (r := true) (by decide +kernel)) ?_
      walk_at "go"
      exact k
    · refine k_isi (.ty _) ht hk ?_
      walk_at "go"
      exact iteF k
theorem ok_is_integer_between (T : Txt K mg) : FnOk P w K mg base (L2.CX P w) 2 T.a_is_integer_between T.fd_is_integer_between ["value", "least", "most"] (sp_between K) := by
  refine T.F_is_integer_between.okX sc_is_integer_between (fun vs H Q E h => ?_) (fun cdv A outer s H vs Q E hr h => ?_)
  · obtain ⟨v, lo, hi, rfl, _⟩ := h
    rfl
  · obtain ⟨v, lo, hi, rfl, k⟩ := h
    refine ⟨_, (PSs.nox (pss_one (ps_ret (pe_and (pe_call (ok_is_whole_number T) (hr.mono (by decide)) (by rfl) T.m_is_whole_number T.k_is_whole_number T.b_is_whole_number .nil passL (pa_cons (pv 0) pa_nil)) (pe_one (pe_chain op_le op_le (pv 1) (pv 0) (pv 2))))))), ?_⟩
    walk_at "begin"
    walk_at "go"
    rcases k with ⟨i, rfl, k⟩ | ⟨ni, k⟩
    · refine ⟨_, rfl, .inl ⟨i, rfl, ?_⟩⟩
      walk_at "go"
      refine iteT (k_chain ?_)
      walk_at "go"
      refine k_ite (fun c => ?_) (fun c => ?_)
      · walk_at "go"
        rw [decide_eq_decide.mpr (show lo ≤ i ∧ i ≤ hi ↔ i ≤ hi from ⟨fun z => z.2, fun z => ⟨c, z⟩⟩)] at k
        exact k
      · walk_at "go"
        rw [decide_eq_false (show ¬ (lo ≤ i ∧ i ≤ hi) from fun z => c z.1)] at k
        exact k
    · refine ⟨_, rfl, .inr ⟨ni, ?_⟩⟩
      walk_at "go"
      exact iteF k
theorem ok_is_stand (T : Txt K mg) : FnOk P w K mg base (L2.CX P w) 3 T.a_is_stand T.fd_is_stand ["stands", "value"] (sp_is_stand K) := by
  refine T.F_is_stand.okX sc_is_stand (fun vs H Q E h => ?_) (fun cdv A outer s H vs Q E hr h => ?_)
  · obtain ⟨v, n, rfl, _⟩ := h
    rfl
  · obtain ⟨v, n, rfl, k⟩ := h
    refine ⟨_, (PSs.nox (pss_one (ps_ret (pe_call (ok_is_integer_between T) (hr.mono (by decide)) (by rfl) T.m_is_integer_between T.k_is_integer_between T.b_is_integer_between .nil passL (pa_cons (pv 1) (pa_cons pe_int (pa_cons (pe_op op_sub (pv 0) pe_int) pa_nil))))))), ?_⟩
    walk_at "begin"
    walk_at "go"
    refine ⟨v, 0, n - 1, rfl, ?_⟩
    rcases k with ⟨i, rfl, k⟩ | ⟨ht, k⟩
    · refine .inl ⟨i, rfl, ?_⟩
      rw [decide_eq_decide.mpr (show (0 ≤ i ∧ i < n) ↔ (0 ≤ i ∧ i ≤ n - 1) by omega)] at k
      exact k
    · exact .inr ⟨ht, k⟩
theorem ok_check_stands (T : Txt K mg) : FnOk P w K mg base (L2.CX P w) 3 T.a_check_stands T.fd_check_stands ["stands"] (sp_check_stands K) := by
  refine T.F_check_stands.okX sc_check_stands (fun vs H Q E h => ?_) (fun cdv A outer s H vs Q E hr h => ?_)
  · obtain ⟨n, rfl, _⟩ := h
    rfl
  · obtain ⟨n, rfl, n1, n8, k⟩ := h
    refine ⟨_, (PSs.nox (pss_one (ps_if (pt_not (pt_val (pe_call (ok_is_integer_between T) (hr.mono (by decide)) (by rfl) T.m_is_integer_between T.k_is_integer_between T.b_is_integer_between .nil passL (pa_cons (pv 0) (pa_cons pe_int (pa_cons (pe_glob (by rfl) T.m_MOST_STANDS T.r_MOST_STANDS) pa_nil))))))
  (pss_one ps_never)
  pss_nil))), ?_⟩
    walk_at "begin"
    walk_at "go"
    refine ⟨_, 1, 8, rfl, .inl ⟨n, rfl, ?_⟩⟩
    rw [decide_eq_true (show 1 ≤ n ∧ n ≤ 8 from ⟨n1, n8⟩)]
    walk_at "go"
    refine iteF ?_
    walk_at "go"
    exact k
end
/-! ### (int, text) <= (int, text) -/
def le2 (i : Int) (s : Str) (j : Int) (t : Str) : Bool := if i = j then (if s = t then true else !decide (t.cps.toList < s.cps.toList)) else decide (i ≤ j)
def rLe2 (K : PySem.W.Frag) : R2 := fun x y H Q => ∃ (a b : Addr) (i j : Int) (s t : Str), x = .ref a ∧ y = .ref b ∧ SqT K H a [.int i, .str s] ∧ SqT K H b [.int j, .str t] ∧ Q (.bl (le2 i s j t)) H
theorem op_le2 {X : Cx} (hu : X.A.units < cLine) : OpR X (compareOp .LtE) (rLe2 X.K) := by
  rintro pins st σ H x y v u Q I rx ry ⟨a, b, i, j, s, t, rfl, rfl, ha, hb, q⟩
  cases rx
  cases ry
  obtain ⟨us, r1, p1, _⟩ := I.tuple ha
  obtain ⟨ws, r2, p2, _⟩ := I.tuple hb
  obtain ⟨u1, u2, rfl, ⟨k1, rfl⟩, ⟨k2, rfl⟩⟩ := vals2 r1
  obtain ⟨w1, w2, rfl, ⟨l1, rfl⟩, ⟨l2, rfl⟩⟩ := vals2 r2
  have R := Ob.RcOp.tuples_le (A := X.A) (s := st) (e := fun n => if n = 0 then (i == j) else decide (s = t)) (r := fun n => if n = 0 then decide (i ≤ j) else !decide (t.cps.toList < s.cps.toList)) p1 p2 hu
    (fun n h1 h2 => by
      have n2 : n < 2 := h1
      match n, n2 with
      | 0, _ => exact SeqAt.EqAt.int_int _ _ _ _
      | 1, _ => exact SeqAt.EqAt.str_str _ _ _ _)
    (fun n h1 h2 _ => by
      have n2 : n < 2 := h1
      match n, n2 with
      | 0, _ => exact Ob.RcOp.le_int _ _ _ _
      | 1, _ => exact fun prog w E Q hQ => PySem.P.le_str hQ)
  have z : Ob.lexAt (fun n => if n = 0 then (i == j) else decide (s = t)) (fun n => if n = 0 then decide (i ≤ j) else !decide (t.cps.toList < s.cps.toList)) (decide ((2 : Nat) ≤ 2)) 0 (min 2 2) = le2 i s j t := by
    show Ob.lexAt _ _ _ 0 2 = _
    rw [Ob.lexAt_succ]
    unfold le2
    by_cases c : i = j
    · have c' : (i == j) = true := beq_iff_eq.mpr c
      simp only [if_pos, c', if_pos c]
      rw [Ob.lexAt_succ]
      by_cases d : s = t
      · simp [d, Ob.lexAt_zero]
      · simp [d]
    · have c' : (i == j) = false := beq_eq_false_iff_ne.mpr c
      simp [c']
      exact fun z => absurd z c
  have R' := R X.prog X.w X.xe (EP X pins σ Q) ⟨.bl _, H, I, rfl, (by rw [← z] at q; exact q)⟩
  exact R'
/-! ### steps, ends, machines -/
theorem ty_tup {K : PySem.W.Frag} {H : Hp} {p : Addr} {xs : List V} (h : SqT K H p xs) : TyX K H (.ref p) (.type "tuple") := by
  rcases h with (h | ⟨o, h⟩) | ⟨o, its, n, h, hc, _⟩
  · exact .base (.tup h)
  · exact .fTuple h
  · exact .kTuple h hc
theorem k_in {K : PySem.W.Frag} {neg : Bool} {H : Hp} {Q : VK} {p : Addr} {x : V} {xs : List V} (h : SqL K H p xs ∨ SqT K H p xs) (fx : flatV x = true) (fa : xs.all flatV = true) (q : Q (.bl (if neg then !inV x xs else inV x xs)) H) : rIn K neg x (.ref p) H Q := ⟨p, xs, rfl, h, fx, fa, q⟩
theorem letter_in {c : Nat} (h : 97 ≤ c) (h' : c ≤ 100) : inV (.str ⟨#[c]⟩) [V.str "a", V.str "b", V.str "c", V.str "d"] = true := by
  have z : c = 97 ∨ c = 98 ∨ c = 99 ∨ c = 100 := by omega
  rcases z with rfl | rfl | rfl | rfl <;> decide
theorem k_slA2 {K : PySem.W.Frag} {H : Hp} {Q : VK} {a : Addr} {x y z u : V} (h : SqT K H a [x, y, z, u]) (q : ∀ p, H p = none → Q (.ref p) (upd H p (.tup [x, y]))) : rSlA K (.ref a) none (some 2) H Q :=
  ⟨a, _, rfl, h, fun e => absurd e (by show ¬ ((0 : Nat) = 0 ∧ (2 : Nat) = 4); decide), fun _ p hp => q p hp⟩
theorem le2_no {s t : Stp} (h : s.lt t) : le2 (t.b : Nat) ⟨#[t.c]⟩ (s.b : Nat) ⟨#[s.c]⟩ = false := by
  unfold le2
  rcases h with h | ⟨h1, h2⟩
  · rw [if_neg (by omega), decide_eq_false (by omega)]
  · rw [if_pos (by omega), if_neg (by intro z; injection z with z; simp at z; omega)]
    simp
    exact List.Lex.rel h2
theorem few {n : Nat} (k : Nat) (h : k < 1000) (q : n ≤ k) : n < 1000 := Nat.lt_of_le_of_lt q h
def sp_is_step (K : PySem.W.Frag) : Sp := fun vs H Q _ => ∃ (n : Nat) (p : Addr) (s : Stp), vs = [.int (n : Nat), .ref p] ∧ SqT K H p (stpV s) ∧ s.Ok n ∧ Q (.bl true) H
def sp_check_steps (K : PySem.W.Frag) : Sp := fun vs H Q _ => ∃ (t : Addr) (us : List V) (m : MD), vs = [.int (m.n : Nat), .ref t] ∧ SqT K H t us ∧ StpsAt K H us m.ss ∧ m.Ok ∧ ∀ H', Same H H' → Q .non H'
def sp_check_ends (K : PySem.W.Frag) : Sp := fun vs H Q _ => ∃ (t : Addr) (m : MD), vs = [.int (m.n : Nat), .ref t] ∧ SqT K H t (nats m.es) ∧ m.Ok ∧ ∀ H', Same H H' → Q .non H'
/-- whether values are ascending integers from l to below n -/
def ascV (n : Int) : Int → List V → Bool
  | _, [] => true
  | l, .int j :: r => decide (l ≤ j ∧ j ≤ n - 1) && ascV n (j + 1) r
  | _, _ => false
theorem ascV_odd {n l : Int} {x : V} {r : List V} (h : ∀ j, x ≠ .int j) : ascV n l (x :: r) = false := by
  cases x with
  | int j => exact (h j rfl).elim
  | _ => rfl
theorem ascV_nats {n : Nat} : ∀ {es : List Nat} {l : Nat}, (∀ e ∈ es, e < n) → es.Pairwise (· < ·) → (∀ e ∈ es, l ≤ e) → ascV (n : Nat) (l : Nat) (nats es) = true
  | [], _, _, _, _ => rfl
  | e :: es, l, h1, h2, h3 => by
    show (decide (((l : Nat) : Int) ≤ (e : Nat) ∧ ((e : Nat) : Int) ≤ (n : Nat) - 1) && ascV (n : Nat) (((e + 1 : Nat)) : Int) (nats es)) = true
    have a := h1 e (List.mem_cons_self ..)
    have b := h3 e (List.mem_cons_self ..)
    have c := List.pairwise_cons.mp h2
    rw [decide_eq_true (by omega), ascV_nats (fun x hx => h1 x (List.mem_cons_of_mem _ hx)) c.2 (fun x hx => c.1 x hx)]
    rfl
def sp_asc (K : PySem.W.Frag) : Sp := fun vs H Q _ => ∃ (v : V) (n : Int), vs = [v, .int n] ∧ ((∃ ty, TyX K H v ty ∧ PySem.W.kitOne K ty (.type "tuple") = some false ∧ Q (.bl false) H) ∨
  ∃ t xs, v = .ref t ∧ SqT K H t xs ∧ (∀ x ∈ xs, (∃ j, x = .int j) ∨ (NotInt K H x ∧ ∀ j, x ≠ .int j)) ∧ Q (.bl (ascV n 0 xs)) H)
def sp_init (K : PySem.W.Frag) (C : Addr) : Sp := fun vs H Q _ => ∃ (x dx t u : Addr) (m : MD), vs = [.ref x, .int (m.n : Nat), .ref t, .ref u] ∧ H x = some (.ins C dx []) ∧ PartsAt K H t u m ∧ m.Ok ∧
  ∀ H', Keep x H H' → H' x = some (.ins C dx (mfs m.n t u)) → Q .non H'
def sp_machine (K : PySem.W.Frag) (C : Addr) : Sp := fun vs H Q _ => ∃ (d : Addr) (m : MD), vs = [.ref d] ∧ DAt K H d m ∧ m.Ok ∧ ∀ x H', Same H H' → H x = none → MAt K C H' x m → Q (.ref x) H'
section
variable {P : Program} {w : World} {K : PySem.W.Frag} {mg : Str → Option Value} {base : Heap}
theorem ok_is_step (T : Txt K mg) : FnOk P w K mg base (L2.CX P w) 4 T.a_is_step T.fd_is_step ["stands", "value"] (sp_is_step K) := by
  refine T.F_is_step.okX sc_is_step (fun vs H Q E h => ?_) (fun cdv A outer s H vs Q E hr h => ?_)
  · obtain ⟨n, p, s, rfl, _⟩ := h
    rfl
  · obtain ⟨n, p, t, rfl, hp, o, k⟩ := h
    refine ⟨_, (PSs.nox (pss_cons (ps_if (PW.pt (pw_or (pt_not (pt_val (pe_callB call_isi (by rfl) T.z_isinstance (by decide +kernel) (pa_cons (pv 1) (pa_cons (pe_bltn (v := .ty "tuple") (by rfl) T.z_tuple (by decide +kernel) rfl) pa_nil))))) (pw_or1 (pt_cmpR op_ne (pe_callB call_len_seq (by rfl) T.z_len PySem.boot_len (pa_cons (pv 1) pa_nil)) pe_int (nomark _)))))
  (pss_one (ps_ret pe_bl))
  pss_nil)
  (pss_cons (ps_asg (pv 1) (pg_tup rfl (pgs_cons (pg_name (i := 2) sc_is_step.nd rfl (Or.inl rfl)) (pgs_cons (pg_name (i := 3) sc_is_step.nd rfl (Or.inl rfl)) (pgs_cons (pg_name (i := 4) sc_is_step.nd rfl (Or.inl rfl)) (pgs_cons (pg_name (i := 5) sc_is_step.nd rfl (Or.inl rfl)) pgs_nil))))))
  (pss_one (ps_ret (pe_and (pe_call (ok_is_stand T) (hr.mono (by decide)) (by rfl) T.m_is_stand T.k_is_stand T.b_is_stand .nil passL (pa_cons (pv 0) (pa_cons (pv 2) pa_nil))) (pe_and (pe_cmpR op_in_seq (pv 3) (pe_glob (by rfl) T.m_LETTERS T.r_LETTERS) (by rfl)) (pe_and (pe_call (ok_is_stand T) (hr.mono (by decide)) (by rfl) T.m_is_stand T.k_is_stand T.b_is_stand .nil passL (pa_cons (pv 0) (pa_cons (pv 4) pa_nil))) (pe_one (pe_call (ok_is_integer_between T) (hr.mono (by decide)) (by rfl) T.m_is_integer_between T.k_is_integer_between T.b_is_integer_between .nil passL (pa_cons (pv 5) (pa_cons (pe_un un_neg (pe_glob (by rfl) T.m_MOST_GAIN T.r_MOST_GAIN)) (pa_cons (pe_glob (by rfl) T.m_MOST_GAIN T.r_MOST_GAIN) pa_nil))))))))))))), ?_⟩
    walk_at "begin"
    walk_at "go"
    refine k_isi (.ty _) (ty_tup hp) (kit_ty (b := "tuple") (r := true) (by decide +kernel)) ?_
    walk_at "go"
    refine iteF ?_
    walk_at "go"
    refine k_len (.inr hp) ?_
    walk_at "go"
    refine iteF ?_
    walk_at "go"
    refine k_gt hp rfl ?_
    unfold stpV
    walk_at "go"
    refine ⟨_, _, rfl, .inl ⟨_, rfl, ?_⟩⟩
    rw [decide_eq_true (show 0 ≤ ((t.b : Nat) : Int) ∧ ((t.b : Nat) : Int) < (n : Nat) from ⟨Int.natCast_nonneg _, by have := o.b; omega⟩)]
    walk_at "go"
    refine iteT ?_
    walk_at "go"
    refine k_in (.inr (T.s_LETTERS _)) rfl (by decide) ?_
    rw [letter_in o.c o.c']
    walk_at "go"
    refine iteT ?_
    walk_at "go"
    refine ⟨_, _, rfl, .inl ⟨_, rfl, ?_⟩⟩
    rw [decide_eq_true (show 0 ≤ ((t.e : Nat) : Int) ∧ ((t.e : Nat) : Int) < (n : Nat) from ⟨Int.natCast_nonneg _, by have := o.e; omega⟩)]
    walk_at "go"
    refine iteT ?_
    walk_at "go"
    refine ⟨_, _, _, rfl, .inl ⟨_, rfl, ?_⟩⟩
    rw [decide_eq_true (show -1000000000000000000000000000000 ≤ t.g ∧ t.g ≤ 1000000000000000000000000000000 from ⟨by have := o.g; omega, by have := o.g'; omega⟩)]
    exact k
theorem ok_check_steps (T : Txt K mg) : FnOk P w K mg base (L2.CX P w) 5 T.a_check_steps T.fd_check_steps ["stands", "steps"] (sp_check_steps K) := by
  refine T.F_check_steps.okX sc_check_steps (fun vs H Q E h => ?_) (fun cdv A outer s H vs Q E hr h => ?_)
  · obtain ⟨t, us, m, rfl, _⟩ := h
    rfl
  · obtain ⟨t, us, m, rfl, ht, hs, o, k⟩ := h
    refine ⟨_, (PSs.nox (pss_cons (ps_if (pt_not (pt_val (pe_callB call_isi (by rfl) T.z_isinstance (by decide +kernel) (pa_cons (pv 1) (pa_cons (pe_bltn (v := .ty "tuple") (by rfl) T.z_tuple (by decide +kernel) rfl) pa_nil)))))
  (pss_one ps_never)
  pss_nil)
  (pss_one (ps_for PassesOwn.never rfl (pi_enumT (by rfl) T.z_enumerate (pa_cons (pv 1) pa_nil)) (pg_tup rfl (pgs_cons (pg_name (i := 2) sc_check_steps.nd rfl (Or.inl rfl)) (pgs_cons (pg_name (i := 3) sc_check_steps.nd rfl (Or.inl rfl)) pgs_nil)))
  (pss_cons (ps_if (pt_not (pt_val (pe_call (ok_is_step T) (hr.mono (by decide)) (by rfl) T.m_is_step T.k_is_step T.b_is_step .nil passL (pa_cons (pv 0) (pa_cons (pv 3) pa_nil)))))
  (pss_one ps_never)
  pss_nil)
  (pss_one (ps_if (PW.pt (pw_and (pt_cmpR op_gt (pv 2) pe_int (nomark _)) (pw_and1 (pt_cmpR (op_le2 hr.units0) (pe_slice sl_tupA (pv 3) po_none (po_some pe_int)) (pe_slice sl_tupA (pe_ix ix_tup (pv 1) (pe_op op_sub (pv 2) pe_int) (fun _ _ => rfl)) po_none (po_some pe_int)) (nomark _)))))
  (pss_one ps_never)
  pss_nil))))))), ?_⟩
    walk_at "begin"
    walk_at "go"
    refine k_isi (.ty _) (ty_tup ht) (kit_ty (b := "tuple") (r := true) (by decide +kernel)) ?_
    walk_at "go"
    refine iteF ?_
    walk_at "go"
    refine ⟨_, rfl, t, us, rfl, ht, for_enumT (xs := us) (fun i σ H' => Same H H' ∧ ∃ a b, σ = [some (.int (m.n : Nat)), some (.ref t), a, b]) ⟨Same.refl _, _, _, rfl⟩ (fun i σ H' _ ⟨z, _⟩ => (same_tups z).sq ht) ?_ ?_⟩
    · rintro i x p σ H1 hx ⟨z, a, b, rfl⟩ hp
      have il : i < m.ss.length := by rw [← hs.1]; exact (List.getElem?_eq_some_iff.mp hx).1
      obtain ⟨q, eq, hq⟩ := hs.2 i _ (List.getElem?_eq_getElem il)
      rw [hx] at eq
      cases eq
      have z1 : Same H (upd H1 p (.tup [.int (i : Nat), .ref q])) := z.trans (Same.new hp)
      have hq1 := (same_tups z1).sq hq
      have ok1 := o.ok _ (List.getElem_mem il)
      refine k_gt (SqT.of upd_same) rfl ?_
      walk_at "go"
      refine ⟨m.n, q, _, rfl, hq1, ok1, ?_⟩
      walk_at "go"
      refine iteF ?_
      walk_at "go"
      refine k_ite (fun c => ?_) (fun c => iteF ?_)
      · walk_at "go"
        have jl : i - 1 < m.ss.length := by omega
        obtain ⟨q2, eq2, hq2⟩ := hs.2 (i - 1) _ (List.getElem?_eq_getElem jl)
        refine k_slA2 hq1 fun p1 n1 => ?_
        have z2 := z1.trans (Same.new (o := .tup [.int ((m.ss[i]'il).b : Nat), .str ⟨#[(m.ss[i]'il).c]⟩]) n1)
        walk_at "go"
        refine k_ixT ((same_tups z2).sq ht) (v := .ref q2) (at_of (j := i - 1) (by omega) eq2) ?_
        walk_at "go"
        refine k_slA2 ((same_tups z2).sq hq2) fun p2 n2 => ?_
        have z3 := z2.trans (Same.new (o := .tup [.int ((m.ss[i - 1]'jl).b : Nat), .str ⟨#[(m.ss[i - 1]'jl).c]⟩]) n2)
        refine ⟨p1, p2, _, _, _, _, rfl, rfl, SqT.of (Same.new n2 _ _ upd_same), SqT.of upd_same, ?_⟩
        · have up := List.pairwise_iff_getElem.mp o.up (i - 1) i jl il (by omega)
          rw [le2_no up]
          walk_at "go"
          refine iteF ?_
          walk_at "go"
          exact ⟨z3, _, _, rfl⟩
      · walk_at "go"
        exact ⟨z1, _, _, rfl⟩
    · rintro σ H1 ⟨z, _⟩
      exact k H1 z
theorem ok_is_ascending (T : Txt K mg) : FnOk P w K mg base (L2.CX P w) 3 T.a_is_ascending T.fd_is_ascending ["value", "many"] (sp_asc K) := by
  refine T.F_is_ascending.okX sc_is_ascending (fun vs H Q E h => ?_) (fun cdv A outer s H vs Q E hr h => ?_)
  · obtain ⟨v, n, rfl, _⟩ := h
    rfl
  · obtain ⟨v, n, rfl, h⟩ := h
    refine ⟨_, (PSs.nox (pss_cons (ps_if (pt_not (pt_val (pe_callB call_isi (by rfl) T.z_isinstance (by decide +kernel) (pa_cons (pv 0) (pa_cons (pe_bltn (v := .ty "tuple") (by rfl) T.z_tuple (by decide +kernel) rfl) pa_nil)))))
  (pss_one (ps_ret pe_bl))
  pss_nil)
  (pss_cons (ps_set (i := 2) sc_is_ascending.nd rfl (Or.inl rfl) pe_int)
  (pss_cons (ps_for PassesOwn.never rfl (pi_tup (pv 0)) (pg_name (i := 3) sc_is_ascending.nd rfl (Or.inl rfl))
  (pss_cons (ps_if (pt_not (pt_val (pe_call (ok_is_integer_between T) (hr.mono (by decide)) (by rfl) T.m_is_integer_between T.k_is_integer_between T.b_is_integer_between .nil passL (pa_cons (pv 3) (pa_cons (pv 2) (pa_cons (pe_op op_sub (pv 1) pe_int) pa_nil))))))
  (pss_one (ps_ret pe_bl))
  pss_nil)
  (pss_one (ps_set (i := 2) sc_is_ascending.nd rfl (Or.inl rfl) (pe_op op_add (pv 3) pe_int)))))
  (pss_one (ps_ret pe_bl)))))), ?_⟩
    walk_at "begin"
    walk_at "go"
    rcases h with ⟨ty, h1, h2, k⟩ | ⟨t, xs, rfl, ht, hx, k⟩
    · refine k_isi (.ty _) h1 h2 ?_
      walk_at "go"
      refine iteT ?_
      walk_at "go"
      exact k
    · refine k_isi (.ty _) (ty_tup ht) (kit_ty (b := "tuple") (r := true) (by decide +kernel)) ?_
      walk_at "go"
      refine iteF ?_
      walk_at "go"
      refine ⟨t, rfl, ⟨_, ht⟩, ?_⟩
      refine for_tup (xs := xs) (fun i σ H' => H' = H ∧ ∃ (l : Int) (a : Option V), σ = [some (.ref t), some (.int n), some (.int l), a] ∧ ascV n 0 xs = ascV n l (xs.drop i)) ⟨rfl, 0, _, rfl, rfl⟩ (fun i σ H' _ ⟨e, _⟩ => by rw [e]; exact ht) ?_ ?_
      · rintro i x σ H1 hx1 ⟨rfl, l, a, rfl, eq⟩
        have il : i < xs.length := (List.getElem?_eq_some_iff.mp hx1).1
        have dr : xs.drop i = x :: xs.drop (i + 1) := by rw [List.drop_eq_getElem_cons il, (List.getElem?_eq_some_iff.mp hx1).2]
        rw [dr] at eq
        walk_at "go"
        rcases hx x (List.mem_of_getElem? hx1) with ⟨j, rfl⟩ | ⟨ni, nj⟩
        · refine ⟨_, _, _, rfl, .inl ⟨j, rfl, ?_⟩⟩
          by_cases c : l ≤ j ∧ j ≤ n - 1
          · rw [decide_eq_true c]
            walk_at "go"
            refine iteF ?_
            walk_at "go"
            refine ⟨rfl, _, _, rfl, ?_⟩
            rw [eq]
            show (decide (l ≤ j ∧ j ≤ n - 1) && ascV n (j + 1) (xs.drop (i + 1))) = _
            rw [decide_eq_true c]
            rfl
          · rw [decide_eq_false c]
            walk_at "go"
            refine iteT ?_
            walk_at "go"
            have e2 : ascV n 0 xs = false := by
              rw [eq]
              show (decide (l ≤ j ∧ j ≤ n - 1) && ascV n (j + 1) (xs.drop (i + 1))) = _
              rw [decide_eq_false c]
              rfl
            rw [e2] at k
            exact k
        · refine ⟨_, _, _, rfl, .inr ⟨ni, ?_⟩⟩
          walk_at "go"
          refine iteT ?_
          walk_at "go"
          have e2 : ascV n 0 xs = false := by
            rw [eq]
            exact ascV_odd nj
          rw [e2] at k
          exact k
      · rintro σ H1 ⟨rfl, l, a, rfl, eq⟩
        rw [List.drop_length] at eq
        rw [eq] at k
        walk_at "go"
        exact k
theorem ok_check_ends (T : Txt K mg) : FnOk P w K mg base (L2.CX P w) 4 T.a_check_ends T.fd_check_ends ["stands", "ends"] (sp_check_ends K) := by
  refine T.F_check_ends.okX sc_check_ends (fun vs H Q E h => ?_) (fun cdv A outer s H vs Q E hr h => ?_)
  · obtain ⟨t, m, rfl, _⟩ := h
    rfl
  · obtain ⟨t, m, rfl, ht, o, k⟩ := h
    refine ⟨_, (PSs.nox (pss_one (ps_if (pt_not (pt_val (pe_call (ok_is_ascending T) (hr.mono (by decide)) (by rfl) T.m_is_ascending T.k_is_ascending T.b_is_ascending .nil passL (pa_cons (pv 1) (pa_cons (pv 0) pa_nil)))))
  (pss_one ps_never)
  pss_nil))), ?_⟩
    walk_at "begin"
    walk_at "go"
    refine ⟨_, _, rfl, .inr ⟨t, _, rfl, ht, fun x h => ?_, ?_⟩⟩
    · obtain ⟨e, _, rfl⟩ := List.mem_map.mp h
      exact .inl ⟨_, rfl⟩
    rw [show ascV (m.n : Nat) 0 (nats m.es) = true from ascV_nats (l := 0) (fun e h => o.eb e h) o.eu (fun _ _ => Nat.zero_le _)]
    walk_at "go"
    refine iteF ?_
    walk_at "go"
    exact k H (Same.refl _)
theorem ok_Machine_init (T : Txt K mg) : FnOk P w K mg base (L2.CX P w) 6 T.a_Machine_init T.fd_Machine_init ["self", "stands", "steps", "ends"] (sp_init K T.c_Machine) := by
  refine T.F_Machine_init.okX sc_Machine_init (fun vs H Q E h => ?_) (fun cdv A outer s H vs Q E hr h => ?_)
  · obtain ⟨x, dx, t, u, m, rfl, _⟩ := h
    rfl
  · obtain ⟨x, dx, t, u, m, rfl, hx, ⟨⟨us, ht, hs⟩, hu⟩, o, k⟩ := h
    refine ⟨_, (PSs.nox (pss_cons (ps_expr (pe_call (ok_check_stands T) (hr.mono (by decide)) (by rfl) T.m_check_stands T.k_check_stands T.b_check_stands .nil passL (pa_cons (pv 1) pa_nil)))
  (pss_cons (ps_expr (pe_call (ok_check_steps T) (hr.mono (by decide)) (by rfl) T.m_check_steps T.k_check_steps T.b_check_steps .nil passL (pa_cons (pv 1) (pa_cons (pv 2) pa_nil))))
  (pss_cons (ps_expr (pe_call (ok_check_ends T) (hr.mono (by decide)) (by rfl) T.m_check_ends T.k_check_ends T.b_check_ends .nil passL (pa_cons (pv 1) (pa_cons (pv 3) pa_nil))))
  (pss_cons (ps_fld (pv 0) (pv 1) rfl)
  (pss_cons (ps_fld (pv 0) (pv 2) rfl)
  (pss_one (ps_fld (pv 0) (pv 3) rfl)))))))), ?_⟩
    walk_at "begin"
    walk_at "go"
    refine ⟨_, rfl, by have := o.n1; omega, by have := o.n8; omega, ?_⟩
    walk_at "go"
    refine ⟨t, us, m, rfl, ht, hs, o, fun H1 z1 => ?_⟩
    walk_at "go"
    refine ⟨u, m, rfl, (same_tups z1).sq hu, o, fun H2 z2 => ?_⟩
    walk_at "go"
    have e2 : H2 x = some (.ins T.c_Machine dx []) := z2 _ _ (z1 _ _ hx)
    refine ⟨_, rfl, _, rfl, x, _, dx, _, rfl, e2, T.cl_Machine, T.n__stands, (by decide : 0 < 1000), ?_⟩
    refine ⟨_, rfl, _, rfl, x, _, dx, _, rfl, upd_same, T.cl_Machine, T.n__steps, few 1 (by decide) (length_putF _ _ _), ?_⟩
    refine ⟨_, rfl, _, rfl, x, _, dx, _, rfl, upd_same, T.cl_Machine, T.n__ends, few 2 (by decide) (Nat.le_trans (length_putF _ _ _) (Nat.succ_le_succ (length_putF _ _ _))), ?_⟩
    refine k _ (((Keep.of_same (z1.trans z2)).trans Keep.at_).trans (Keep.at_.trans Keep.at_)) ?_
    rw [upd_same]
    rfl
end
/-! ### what is never reached needs no reading -/
theorem ps_any {X : Cx} {st : Stmt} : PS X st (fun _ _ _ => False) := ⟨fun _ _ _ _ _ _ h => h.elim⟩
theorem pss_any {X : Cx} {l : List Stmt} : PSs X l (fun _ _ _ => False) := ⟨fun _ _ _ _ _ _ h => h.elim⟩
theorem pe_any {X : Cx} {e : Expr} : PE X e (fun _ _ _ => False) := ⟨fun _ _ _ _ _ _ h => h.elim⟩
/-! ### an own object whose __init__ may be left by an error -/
def tMakeS (C : Addr) (sp : Sp) (E : L2.St → XK) (t : TA) : TE := fun σ H Q => t σ H fun vs H1 => ∀ x dx, H1 x = none → H1 dx = none → dx ≠ x → sp (.ref x :: vs) (upd (upd H1 dx (.own x)) x (.ins C dx [])) (fun v H2 => v = .non ∧ Q (.ref x) H2) (E σ)
theorem k_makeS {C : Addr} {sp : Sp} {E : L2.St → XK} {t : TA} {σ : L2.St} {H : Hp} {Q : VK} (h : t σ H fun vs H1 => ∀ x dx, H1 x = none → H1 dx = none → dx ≠ x → sp (.ref x :: vs) (upd (upd H1 dx (.own x)) x (.ins C dx [])) (fun v H2 => v = .non ∧ Q (.ref x) H2) (E σ)) : tMakeS C sp E t σ H Q := h
section
variable {X : Cx} {k : Nat} {f C : Addr} {fd : FuncData} {ps : List Str} {sp : Sp} {E : L2.St → XK} {x : Str} {p pos : Pos} {e : Expr} {es : List Expr} {t : TA}
theorem run_makeS {pins : List (Addr × Obj)} {σ : L2.St} {H : Hp} {s : Shared} {Q : VK} {us : List Value} {vs : List V} (M : Mk X.K C f) (F : FnOk X.prog X.w X.K X.mg X.base (L2.CX X.prog X.w) k f fd ps sp) (hr : Room (k + 1) X.A) (hb : Binds X.K fd ps [])
    (hx : PassesAt (L2.CX X.prog X.w) X σ (E σ)) (I : Inv X pins σ H s) (r : Vals vs us)
    (h : ∀ x dx, H x = none → H dx = none → dx ≠ x → sp (.ref x :: vs) (upd (upd H dx (.own x)) x (.ins C dx [])) (fun v H2 => v = .non ∧ Q (.ref x) H2) (E σ)) :
    wpAny (model X.prog X.w) X.A (call (.ref C) us) (EP X pins σ Q) X.xe s := by
  have hq := h (s.heap.objs.size + 1) s.heap.objs.size (I.hok.fresh (Nat.le_succ _)) (I.hok.fresh (Nat.le_refl _)) (Nat.ne_of_lt (Nat.lt_succ_self _))
  have I2 := Inv.made (C := C) I
  have r2 : Vals (V.ref (s.heap.objs.size + 1) :: vs) (Value.ref (s.heap.objs.size + 1) :: us) := .cons rfl r
  have hl : (Value.ref (s.heap.objs.size + 1) :: us ++ []).length = ps.length := by
    have e := r2.length
    rw [F.len _ _ _ _ hq] at e
    rw [List.append_nil]
    exact e.symm
  have b := hb _ (Value.ref (s.heap.objs.size + 1) :: us) I2.kIn hl
  rw [List.append_nil] at b
  refine wpAny_call (make_map (f := f) I.kIn M.makes M.init (beq_iff_eq.mp M.fn) (codeAny_mono (F.run _ X.stack _ _ ⟨Value.ref (s.heap.objs.size + 1) :: us, []⟩ (Value.ref (s.heap.objs.size + 1) :: us) _ _ (E σ) (hr.make C us [])
    (I2.env0.make C us []) b r2 hq) fun r s' hq' => ?_))
  cases r with
  | error e => exact hx pins _ _ e s' I2 hq'
  | ok fl =>
    cases fl with
    | ret u =>
      obtain ⟨v, H', I3, rv, ev, q3⟩ := I2.after hq'
      subst ev
      exact ⟨rv, ⟨V.ref (s.heap.objs.size + 1), H', I3, rfl, q3⟩⟩
    | next => exact False.elim hq'
    | brk => exact False.elim hq'
    | cont => exact False.elim hq'
theorem pe_makeS (M : Mk X.K C f) (F : FnOk X.prog X.w X.K X.mg X.base (L2.CX X.prog X.w) k f fd ps sp) (hr : Room (k + 1) X.A) (hg : Gl X x) (hm : X.mg x = some (.ref C)) (hb : Binds X.K fd ps []) (hx : ∀ σ, PassesAt (L2.CX X.prog X.w) X σ (E σ))
    (ha : PA X (e :: es) t) (hdb : (x == ("__debug__" : Str)) = false := by decide) (he : starEach (e :: es) X.env = (false, eval e X.env) :: starEach es X.env := by rfl) (hpl : (backTo pos (starEach es X.env)).any (·.1) = false := by rfl) :
    PE X (.Call (.Name x p) (e :: es) [] pos) (tMakeS C sp E t) := by
  refine ⟨fun pins s σ H Q I h => ?_⟩
  refine wpAny_Call_Name_kw (ld_glob I hg hm ?_ hdb)
  refine PySem.W.callWith_K (h₀ := X.base) I.ok.mod.kin M.kp (thn (ha.run pos pins s σ H _ I h) fun us s1 ⟨vs, H1, I1, r, q⟩ => ⟨I1.kIn, ?_⟩) he hpl
  exact run_makeS M F hr hb (hx σ) I1 r q
end
theorem exc_rel {K : PySem.W.Frag} {S C : Addr} {b : Bool} (hb : PySem.W.subIn K (.ref C) (.type "BaseException") = some true) (hc : PySem.W.isClsIn K C = true) (ht : PySem.W.typeIn K (.ref C) = some (.type "type")) (hs : PySem.W.subIn K (.ref S) (.ref C) = some b) : PySem.W.exmOne K (.ref S) (.ref C) = some b := by
  have hc' : (PySem.W.clsIn K C).isSome = true := hc
  unfold PySem.W.exmOne PySem.W.kitCls
  simp only [hb, ht, hc', hs, beq_self_eq_true, Bool.and_self, if_true]
/-! ### several except clauses, some of them with a name -/
/-- what the clauses wish of an exception of the body, one after the other; some i: the slot of the clause's name -/
def wManyA (K : PySem.W.Frag) (Wout : WX) (D : Ends) : List (Value × Option Nat × (Addr → Value → Option Addr → TS)) → WX
  | [] => Wout
  | (c, none, ts) :: r => fun cls d σ H => ∃ b, PySem.W.exmOne K cls c = some b ∧ (b = true → ∀ a, H a = none → ts a cls d D σ H) ∧ (b = false → wManyA K Wout D r cls d σ H)
  | (c, some i, ts) :: r => fun cls d σ H => ∃ b, PySem.W.exmOne K cls c = some b ∧ (b = true → ∀ a, H a = none → ts a cls d { nx := fun σ' H' => D.nx (σ'.set i none) H', rt := D.rt, bk := fun σ' H' => D.bk (σ'.set i none) H', ct := fun σ' H' => D.ct (σ'.set i none) H' } (σ.set i (some (.ref a))) H) ∧
      (b = false → wManyA K Wout D r cls d σ H)
inductive HdsOkA (X : Cx) : List ExceptHandler → List (Value × Option Nat × (Addr → Value → Option Addr → TS)) → Prop
  | nil : HdsOkA X [] []
  | cons {x : Str} {c : Value} {ts : Addr → Value → Option Addr → TS} {b₀ : Stmt} {suite : List Stmt} {np pos' : Pos} {hds : List ExceptHandler} {l : List (Value × Option Nat × (Addr → Value → Option Addr → TS))} (hc : Names X x c)
      (hsu : ∀ (a : Addr) (oe : Obj) (cls : Value) (d : Option Addr) (pn : List (Addr × Obj)), Zc cls d oe → (∃ vs, oe.data = .fields vs) → PSs (X.suite a ((a, oe) :: pn)) (b₀ :: suite) (ts a cls d)) (r : HdsOkA X hds l) :
      HdsOkA X (.ExceptHandler (some (.Name x np)) none (b₀ :: suite) pos' :: hds) ((c, none, ts) :: l)
  | consA {x n : Str} {i : Nat} {c : Value} {ts : Addr → Value → Option Addr → TS} {b₀ : Stmt} {suite : List Stmt} {np pos' : Pos} {hds : List ExceptHandler} {l : List (Value × Option Nat × (Addr → Value → Option Addr → TS))} (hN : X.N.Nodup) (hi : X.N[i]? = some n) (hln : X.env.kindOf n = some .local) (hc : Names X x c)
      (hsu : ∀ (a : Addr) (oe : Obj) (cls : Value) (d : Option Addr) (pn : List (Addr × Obj)), Zc cls d oe → (∃ vs, oe.data = .fields vs) → PSs (X.suite a ((a, oe) :: pn)) (b₀ :: suite) (ts a cls d)) (r : HdsOkA X hds l) :
      HdsOkA X (.ExceptHandler (some (.Name x np)) (some n) (b₀ :: suite) pos' :: hds) ((c, some i, ts) :: l)
section
variable {X : Cx} {body : List Stmt} {h₀ : ExceptHandler} {hds : List ExceptHandler} {l : List (Value × Option Nat × (Addr → Value → Option Addr → TS))} {pos : Pos} {tb : WX → TS} {Wout : WX}
theorem ps_try_manyA (hs : X.stack = X.env :: X.outer) (hf : X.env.frame = some X.env.locals) (tk : Takes X Wout)
    (hb : ∀ (W : WX) (pn : List (Addr × Obj)) (xe : Value → Shared → Prop), Takes (X.tr pn xe) W → PassesOwn (model X.prog X.w) X.A X.env xe → PSs (X.tr pn xe) body (tb W))
    (hh : HdsOkA X (h₀ :: hds) l) : PS X (.Try body (h₀ :: hds) [] [] pos) (fun D σ H => tb (wManyA X.K Wout D l) D σ H) := by
  refine ⟨fun pins s σ H D I h => ?_⟩
  have ok := I.ok
  have hfr : X.A.frames = some (X.env :: X.outer) := by rw [ok.frames, hs]
  refine PySem.wpAny_Try_except ?_
  refine wpAny_mono ((hb (wManyA X.K Wout D l) (X.pn ++ pins) (fun e s₁ => wpAny (model X.prog X.w) X.A (noteFrame e X.env) (fun _ s₂ => wpAny (model X.prog X.w) X.A (setFlight e none) (fun _ s₃ =>
    wpAny (model X.prog X.w) X.A (handleBy e X.env (h₀ :: hds)) (SP X pins D) X.xe s₃) X.xe s₂) X.xe s₁) (fun u s' xx => ?_) PassesOwn.looking).run [] s σ H D (I.toTry _) h) (fun f s1 hsp => ?_) (fun e s1 he => he)
  · -- the catch
    obtain ⟨a, B, sI, pins', σ', H', cls, d, rfl, J', nb, up, sky, na, os, ag, w⟩ := xx
    have J : Inv X pins σ' H' sI := J'.ofTry ok
    have sky' : Sky B (X.env :: X.outer) a (Zc cls d) X.env.locals s'.heap := by rw [← hs]; exact sky
    show wpAny (model X.prog X.w) X.A (noteFrame (.ref a) X.env) _ _ _
    refine Sky.land Zc.steady hfr hf sky' fun h3 fl3 up3 => ?_
    have J3 : Inv X pins σ' H' { s' with heap := h3 } := J.landed nb fl3.1 (up.trans up3) os ag
    obtain ⟨oe3, vs3, he3, hz3, hd3⟩ := fl3.there
    have notFr : ∀ {h : Heap} {o : Obj} {vs : Array Value}, h.FunFrames B (X.env :: X.outer) → h.get? a = some o → o.data = .fields vs → a ∉ frs (X.env :: X.outer) := fun {h o vs} ff e dd hm => by
      obtain ⟨_, o', e', hnf⟩ := ff.mem hm
      rw [e] at e'; cases e'
      exact hnf _ dd
    have nfr := notFr fl3.2.2.1 he3 hd3
    have nL : a ≠ X.env.locals := fun z => nfr (List.mem_filterMap.mpr ⟨X.env, List.mem_cons_self, by rw [hf, z]⟩)
    have nF : a ∉ X.fs := fun hm => by
      obtain ⟨e, he, q⟩ := List.mem_filterMap.mp hm
      exact nfr (List.mem_filterMap.mpr ⟨e, List.mem_cons_of_mem _ he, q⟩)
    have S3 := J3.suite he3 hd3 na nL nF
    have go : ∀ {hds' : List ExceptHandler} {l' : List (Value × Option Nat × (Addr → Value → Option Addr → TS))}, HdsOkA X hds' l' → wManyA X.K Wout D l' cls d σ' H' →
        wpAny (model X.prog X.w) X.A (handleBy (.ref a) X.env hds') (SP X pins D) X.xe { s' with heap := h3 } := by
      intro hds' l' hk
      induction hk with
      | nil =>
        intro w
        refine PySem.wpAny_handleBy_nil ?_
        obtain ⟨k1, k2, k3, oe, vs, T, oT, ts', he, hz, hd, h1, hr⟩ := id fl3
        unfold PySem.passOn
        refine wpAny_bind (wpAny_field he hd h1 ?_)
        rw [if_neg (show ¬ ((Value.ref T == Value.none) = true) from by simp)]
        have fin : wpAny (model X.prog X.w) X.A (setFlight (.ref a) X.env.frame) (fun _ s4 => wpAny (model X.prog X.w) X.A (throw (.ref a) : Sem Flow) (SP X pins D) X.xe s4) X.xe { s' with heap := h3 } := by
          rw [hf]
          refine HandSPX.setFlight_upZ fl3 fun h4 hh4 up4 => wpAny_throw (tk _ _ ?_)
          exact ⟨a, B, sI, pins, σ', H', cls, d, rfl, J, nb, (up.trans up3).trans up4, .inr (.inr (by rw [hs]; exact hh4)), na, os, ag, w⟩
        first
          | exact wpAny_bind (wpAny_pure (wpAny_bind fin))
          | exact wpAny_bind fin
      | @cons x c ts b₀ suite np pos' hds2 l2 hc hsu r ih =>
        intro w
        obtain ⟨b, hb1, hyes, hno⟩ := w
        refine wpAny_handleBy_cons (codeAny_handlers_test ?_) (by intro q; cases q)
        have LT : PySem.W.Looks (model X.prog X.w) h3 (typeOf (.ref a)) cls := fun A Q E s k q => wpAny_typeOf_ref (k _ _ he3) (by rw [hz3.1]; exact q)
        have LM := PySem.W.exm_one (M := model X.prog X.w) (J3.kIn) LT hb1
        have test : ∀ {Q : Value → Shared → Prop} {E : Value → Shared → Prop}, Q c { s' with heap := h3 } → wpAny (model X.prog X.w) (X.A.mark (some (.ref a))) (eval (.Name x np) X.env) Q E { s' with heap := h3 } := fun {Q E} q => by
          obtain ⟨hg, hdbg, hm | ⟨hm, hv, hnn⟩⟩ := hc
          · exact ld_glob (X := X.suite a ((a, oe3) :: (X.pn ++ pins))) S3 hg hm q hdbg
          · exact ld_blt (X := X.suite a ((a, oe3) :: (X.pn ++ pins))) S3 hg hm hv q hnn hdbg
        refine test (LM.here ?_)
        cases b with
        | true =>
          refine codeAny_handlers_suite ?_
          refine HandSPX.lands_againZ fl3 fun h4 fl4 up4 => ?_
          have J4 : Inv X pins σ' H' { s' with heap := h4 } := J.landed nb fl4.1 ((up.trans up3).trans up4) os ag
          obtain ⟨oe4, vs4, he4, hz4, hd4⟩ := fl4.there
          have S4 := J4.suite he4 hd4 na nL nF
          refine wpAny_mono ((hsu a oe4 cls d (X.pn ++ pins) hz4 ⟨_, hd4⟩).run [] _ _ H' _ S4 (hyes rfl a na)) (fun f s6 hsp => ?_) (fun _ _ z => False.elim z)
          cases f with
          | next =>
            obtain ⟨σ6, H6, S6, q6⟩ := hsp
            exact ⟨_, _, S6.unsuite ok, q6⟩
          | brk =>
            obtain ⟨σ6, H6, S6, q6⟩ := hsp
            exact ⟨_, _, S6.unsuite ok, q6⟩
          | cont =>
            obtain ⟨σ6, H6, S6, q6⟩ := hsp
            exact ⟨_, _, S6.unsuite ok, q6⟩
          | ret u =>
            obtain ⟨v6, σ6, H6, S6, r6, q6⟩ := hsp
            exact ⟨_, _, _, S6.unsuite ok, r6, q6⟩
        | false =>
          show wpAny _ X.A (handleBy (.ref a) X.env hds2) _ _ _
          exact ih (hno rfl)
      | @consA x n i c ts b₀ suite np pos' hds2 l2 hN hi hln hc hsu r ih =>
        intro w
        obtain ⟨b, hb1, hyes, hno⟩ := w
        have hloc : Loc X.env.scope n := .inl hln
        refine wpAny_handleBy_cons (codeAny_handlers_test ?_) (by intro q; cases q)
        have LT : PySem.W.Looks (model X.prog X.w) h3 (typeOf (.ref a)) cls := fun A Q E s k q => wpAny_typeOf_ref (k _ _ he3) (by rw [hz3.1]; exact q)
        have LM := PySem.W.exm_one (M := model X.prog X.w) (J3.kIn) LT hb1
        have test : ∀ {Q : Value → Shared → Prop} {E : Value → Shared → Prop}, Q c { s' with heap := h3 } → wpAny (model X.prog X.w) (X.A.mark (some (.ref a))) (eval (.Name x np) X.env) Q E { s' with heap := h3 } := fun {Q E} q => by
          obtain ⟨hg, hdbg, hm | ⟨hm, hv, hnn⟩⟩ := hc
          · exact ld_glob (X := X.suite a ((a, oe3) :: (X.pn ++ pins))) S3 hg hm q hdbg
          · exact ld_blt (X := X.suite a ((a, oe3) :: (X.pn ++ pins))) S3 hg hm hv q hnn hdbg
        refine test (LM.here ?_)
        cases b with
        | true =>
          refine codeAny_handlers_suite_as ?_
          refine HandSPX.lands_againZ fl3 fun h4 fl4 up4 => ?_
          have J4 : Inv X pins σ' H' { s' with heap := h4 } := J.landed nb fl4.1 ((up.trans up3).trans up4) os ag
          obtain ⟨oe4, vs4, he4, hz4, hd4⟩ := fl4.there
          have S4 := J4.suite he4 hd4 na nL nF
          refine store_ok (X := X.suite a ((a, oe4) :: (X.pn ++ pins))) (v := .ref a) S4 hN hi hloc rfl (fun s5 S5 => ?_) (.inr hln)
          refine wpAny_mono ((hsu a oe4 cls d (X.pn ++ pins) hz4 ⟨_, hd4⟩).run [] s5 _ H' _ S5 (hyes rfl a na)) (fun f s6 hsp => ?_) (fun _ _ z => False.elim z)
          have end_ : ∀ {σ6 : L2.St} {H6 : Hp} {Q : Shared → Prop}, Inv (X.suite a ((a, oe4) :: (X.pn ++ pins))) [] σ6 H6 s6 → (∀ s7, Inv X pins (σ6.set i none) H6 s7 → Q s7) →
              wpAny (model X.prog X.w) X.A (do bindName X.env n .none; unbindBehindTheSuite X.env n pos') (fun _ s7 => Q s7) X.xe s6 := fun {σ6 H6 Q} S6 hq => gone_ok (S6.unsuite ok) hN hi hln hq
          cases f with
          | next =>
            obtain ⟨σ6, H6, S6, q6⟩ := hsp
            exact end_ S6 fun s7 J7 => ⟨_, _, J7, q6⟩
          | brk =>
            obtain ⟨σ6, H6, S6, q6⟩ := hsp
            exact end_ S6 fun s7 J7 => ⟨_, _, J7, q6⟩
          | cont =>
            obtain ⟨σ6, H6, S6, q6⟩ := hsp
            exact end_ S6 fun s7 J7 => ⟨_, _, J7, q6⟩
          | ret u =>
            obtain ⟨v6, σ6, H6, S6, r6, q6⟩ := hsp
            exact end_ S6 fun s7 J7 => ⟨_, _, _, J7, r6, q6⟩
        | false =>
          show wpAny _ X.A (handleBy (.ref a) X.env hds2) _ _ _
          exact ih (hno rfl)
    exact go hh w
  · cases f with
    | next =>
      obtain ⟨σ', H', J', q⟩ := hsp
      exact PySem.wpAny_execs_nil ⟨σ', H', J'.ofTry ok, q⟩
    | brk =>
      obtain ⟨σ', H', J', q⟩ := hsp
      exact ⟨σ', H', J'.ofTry ok, q⟩
    | cont =>
      obtain ⟨σ', H', J', q⟩ := hsp
      exact ⟨σ', H', J'.ofTry ok, q⟩
    | ret u =>
      obtain ⟨v, σ', H', J', r, q⟩ := hsp
      exact ⟨v, σ', H', J'.ofTry ok, r, q⟩
end
/-! ### an own error whose __init__ calls its base's, and that is told by a field -/
theorem pe_tveinit {X : Cx} {e : Expr} {es : List Expr} {ta : TA} {p1 p2 pos : Pos} {x : Str} {CB : Addr} {pl : Sem Bool} (hg : Gl X x) (hm : X.mg x = some (.ref CB)) (hr : PySem.W.readsIn X.K CB (.type "type") = true)
    (vV : PySem.W.findCls X.K (.ref CB) (.type "type") "__init__" = some (.val (.builtin "ValueError.__init__"))) (sg : PySem.W.specialIn X.K (.ref CB) "__getattribute__" = some (some (.builtin "type.__getattribute__"))) (ha : PA X (e :: es) ta)
    (hdb : (x == ("__debug__" : Str)) = false := by decide)
    (hc : eval (.Call (.Attribute (.Name x p1) "__init__" p2) (e :: es) [] pos) X.env = (do
      let ov ← eval (.Name x p1) X.env
      standAt p2.atName
      let (f, first) ← holding [ov] (getMethod ov "__init__" pl)
      callWith pos f first (backTo pos (starEach (e :: es) X.env)) (backToKw pos (keywordEach [] X.env))) := by rfl)
    (he : starEach (e :: es) X.env = (false, eval e X.env) :: starEach es X.env := by rfl) (hpl : (backTo pos (starEach es X.env)).any (·.1) = false := by rfl) :
    PE X (.Call (.Attribute (.Name x p1) "__init__" p2) (e :: es) [] pos) (tVeI X.K ta) := by
  refine ⟨fun pins s σ H Q I h => ?_⟩
  refine PySem.W.methodCall_KW (ld_glob I hg hm ?_ hdb) hc
  refine PySem.W.method_cls I.kIn sg (PySem.W.cls_value I.kIn hr vV rfl ?_)
  show wpAny _ _ (callWith pos (Value.builtin "ValueError.__init__") [] (backTo pos (starEach (e :: es) X.env)) []) _ _ _
  refine PyProof.Rows.callWith_method1 (thn (ha.run pos pins _ σ H _ (I.tok _) h) fun us s1 ⟨vs, H1, I1, r1, a, C, ws, ev, hl, T, ea, q⟩ => ?_) he hpl
  subst ev
  cases r1 with
  | @cons _ u0 _ ur ra rw' =>
    obtain rfl : u0 = Value.ref a := ra
    have hlen : ur.length ≤ sizeLine := by
      rw [← Paired.length rw', sizeLine_eq]
      omega
    exact oinit_ok T I1 ea hlen fun s' J => ⟨.non, H1, J, rfl, q⟩
/-- what __init__ of such an error is called with, and leaves -/
def sp_einit (K : PySem.W.Frag) (C : Addr) (f : Str) : Sp := fun vs H Q _ => ∃ (a : Addr) (v : V), vs = [.ref a, v] ∧ H a = some (exo a C none) ∧ ∀ dx, H dx = none → dx ≠ a → Q .non (upd (upd H dx (exd dx [(f, v)])) a (exo a C (some dx)))
theorem k_vei {K : PySem.W.Frag} {ta : TA} {σ : L2.St} {H : Hp} {Q : VK} (h : ta σ H fun vs H1 => ∃ (a C : Addr) (ws : List V), vs = .ref a :: ws ∧ ws.length ≤ 1000 ∧ OexC K C ∧ H1 a = some (exo a C none) ∧ Q .non H1) : tVeI K ta σ H Q := h
theorem k_ost {K : PySem.W.Frag} {f : Str} {to te : TE} {D : Ends} {σ : L2.St} {H : Hp} (h : te σ H fun y H1 => to σ H1 fun x H2 => ∃ a C : Addr, x = .ref a ∧ OexC K C ∧ PySem.W.findIn K (.ref C) f = some none ∧
  ((H2 a = some (exo a C none) ∧ ∀ dx, H2 dx = none → dx ≠ a → D.nx σ (upd (upd H2 dx (exd dx [(f, y)])) a (exo a C (some dx)))) ∨
    ∃ (dx : Addr) (fs : List (Str × V)), H2 a = some (exo a C (some dx)) ∧ H2 dx = some (exd dx fs) ∧ fs.length ≤ 900 ∧ D.nx σ (upd H2 dx (exd dx ((f, y) :: fs))))) : tOst K f to te D σ H := h
theorem k_mkO {C : Addr} {sp : Sp} {dvs : List V} {ta : TA} {σ : L2.St} {H : Hp} {Q : XK} (h : ta σ H fun vs H1 => vs.length ≤ 1000 ∧ ∀ a, H1 a = none → sp (.ref a :: (vs ++ dvs)) (upd H1 a (exo a C none))
  (fun v H2 => v = .non ∧ ∃ (d : Addr) (fs : List (Str × V)), H2 a = some (exo a C (some d)) ∧ H2 d = some (exd d fs) ∧ H1 d = none ∧ Q (.ref C) (some d) (upd (del H2 a) d (.xd fs))) (fun _ _ _ => False)) : tMkO C sp dvs ta σ H Q := h
theorem k_xf {a : Addr} {cls : Value} {d : Option Addr} {C : Addr} {f : Str} {te : TE} {σ : L2.St} {H : Hp} {Q : VK} (h : te σ H fun x H1 => x = .ref a ∧ cls = .ref C ∧ ∃ (dd : Addr) (fs : List (Str × V)) (v : V), d = some dd ∧ H1 dd = some (.xd fs) ∧ fs.lookup f = some v ∧ Q v H1) : tXf a cls d C f te σ H Q := h
/-! ### a call that an error may leave -/
section
variable {K : PySem.W.Frag} {σ : L2.St} {H : Hp} {Q : VK}
theorem k_callS {sp : Sp} {E : L2.St → XK} {t : TA} (h : t σ H fun vs H1 => sp vs H1 Q (E σ)) : tCallS sp E t σ H Q := h
end
/-! ### a machine is one -/
def sp_check_machine (C : Addr) : Sp := fun vs H Q _ => ∃ x dx fs, vs = [.ref x] ∧ H x = some (.ins C dx fs) ∧ Q .non H
section
variable {P : Program} {w : World} {K : PySem.W.Frag} {mg : Str → Option Value} {base : Heap}
theorem ty_Machine (T : Txt K mg) {H : Hp} {x dx : Addr} {fs : List (Str × V)} (h : H x = some (.ins T.c_Machine dx fs)) : TyX K H (.ref x) (.ref T.c_Machine) := .base (.ins h T.cl_Machine T.i1_Machine T.i2_Machine T.i3_Machine T.i4_Machine)
theorem kit_self {C : Addr} : PySem.W.kitOne K (.ref C) (.ref C) = some true := by
  unfold PySem.W.kitOne
  rw [if_pos (by simp)]
theorem ok_check_machine (T : Txt K mg) : FnOk P w K mg base (L2.CX P w) 1 T.a_check_machine T.fd_check_machine ["value"] (sp_check_machine T.c_Machine) := by
  refine T.F_check_machine.okX sc_check_machine (fun vs H Q E h => ?_) (fun cdv A outer s H vs Q E hr h => ?_)
  · obtain ⟨x, dx, fs, rfl, _⟩ := h
    rfl
  · obtain ⟨x, dx, fs, rfl, hx, k⟩ := h
    refine ⟨_, (PSs.nox (pss_one (ps_if (pt_not (pt_val (pe_callB call_isi (by rfl) T.z_isinstance (by decide +kernel) (pa_cons (pv 0) (pa_cons (pe_glob (v := .ref T.c_Machine) (by rfl) T.m_Machine rfl) pa_nil)))))
  (pss_one ps_never)
  pss_nil))), ?_⟩
    walk_at "begin"
    walk_at "go"
    refine k_isi (.own _) (ty_Machine T hx) kit_self ?_
    walk_at "go"
    refine iteF ?_
    walk_at "go"
    exact k
end
/-! ### a number that is refused -/
/-- no integer from lo to hi, and stays so -/
def BadNum (K : PySem.W.Frag) (H : Hp) (lo hi : Int) (v : V) : Prop := (∃ i : Int, v = .int i ∧ ¬ (lo ≤ i ∧ i ≤ hi)) ∨ NotInt K H v
def sp_num (K : PySem.W.Frag) (B : Addr) : Sp := fun vs H Q E => ∃ (v : V) (lo hi : Int), vs = [v, .int lo, .int hi] ∧ ((∃ i : Int, v = .int i ∧ lo ≤ i ∧ i ≤ hi ∧ Q .non H) ∨ (BadNum K H lo hi v ∧ ∀ d H', Same H H' → H' d = some (.xd [("n", v)]) → E (.ref B) (some d) H'))
theorem exc_same {H : Hp} {a d C : Addr} {fs : List (Str × V)} {o : HO} (ha : H a = none) (hd : H d = none) : Same H (upd (del (upd (upd (upd H a (exo a C none)) d o) a (exo a C (some d))) a) d (.xd fs)) := fun b ob e => by
  rw [upd_ne (ne_of_none e hd), del_ne (ne_of_none e ha), upd_ne (ne_of_none e ha), upd_ne (ne_of_none e hd), upd_ne (ne_of_none e ha)]
  exact e
section
variable {P : Program} {w : World} {K : PySem.W.Frag} {mg : Str → Option Value} {base : Heap}
theorem ok_BadNumber_init (T : Txt K mg) : FnOk P w K mg base (L2.CX P w) 1 T.a_BadNumber_init T.fd_BadNumber_init ["self", "n"] (sp_einit K T.c_BadNumber "n") := by
  refine T.F_BadNumber_init.okX sc_BadNumber_init (fun vs H Q E h => ?_) (fun cdv A outer s H vs Q E hr h => ?_)
  · obtain ⟨a, v, rfl, _⟩ := h
    rfl
  · obtain ⟨a, v, rfl, ea, k⟩ := h
    refine ⟨_, (PSs.nox (pss_cons (ps_expr (pe_tveinit (by rfl) T.m_TallyError T.rd_TallyError T.fv_TallyError T.sg_TallyError (pa_cons (pv 0) (pa_cons pe_str pa_nil))))
  (pss_one (ps_ost (pv 0) (pv 1))))), ?_⟩
    walk_at "begin"
    walk_at "go"
    refine k_vei ?_
    walk_at "go"
    refine ⟨a, T.c_BadNumber, _, rfl, by decide, T.o_BadNumber, ea, ?_⟩
    dsimp only
    refine k_ost ?_
    walk_at "go"
    refine ⟨a, T.c_BadNumber, rfl, T.o_BadNumber, T.no_BadNumber_n, .inl ⟨ea, fun dx hd ne => ?_⟩⟩
    walk_at "go"
    exact k dx hd ne
theorem ok_check_number_bad (T : Txt K mg) : FnOk P w K mg base (L2.CX P w) 4 T.a_check_number T.fd_check_number ["value", "least", "most"] (sp_num K T.c_BadNumber) := by
  refine T.F_check_number.okX sc_check_number (fun vs H Q E h => ?_) (fun cdv A outer s H vs Q E hr h => ?_)
  · obtain ⟨v, lo, hi, rfl, _⟩ := h
    rfl
  · obtain ⟨v, lo, hi, rfl, h⟩ := h
    refine ⟨_, (pss_one (ps_if (pt_not (pt_val (pe_call (ok_is_integer_between T) (hr.mono (by decide)) (by rfl) T.m_is_integer_between T.k_is_integer_between T.b_is_integer_between .nil passL (pa_cons (pv 0) (pa_cons (pv 1) (pa_cons (pv 2) pa_nil))))))
  (pss_one (ps_raise rfl (takes_of rfl rfl rfl rfl) (pmk_oex T.o_BadNumber T.ie_BadNumber T.ti_BadNumber (ok_BadNumber_init T) (hr.mono (by decide)) T.b_BadNumber_init .nil passL (by rfl) T.m_BadNumber (pa_cons (pv 0) pa_nil))))
  pss_nil)), ?_⟩
    walk_at "begin"
    walk_at "go"
    refine ⟨_, _, _, rfl, ?_⟩
    rcases h with ⟨i, rfl, h1, h2, k⟩ | ⟨⟨i, rfl, hi⟩ | ni, k⟩
    · refine .inl ⟨i, rfl, ?_⟩
      rw [decide_eq_true ⟨h1, h2⟩]
      walk_at "go"
      refine iteF ?_
      walk_at "go"
      exact k
    · refine .inl ⟨i, rfl, ?_⟩
      rw [decide_eq_false hi]
      walk_at "go"
      refine iteT ?_
      walk_at "go"
      refine k_mkO ?_
      walk_at "go"
      refine ⟨(by decide : 1 ≤ 1000), fun a ha => ⟨a, _, rfl, upd_same, fun dx hd ne => ?_⟩⟩
      have hd' : H dx = none := by rw [upd_ne ne] at hd; exact hd
      exact ⟨rfl, dx, _, upd_same, by rw [upd_ne ne]; exact upd_same, hd', k _ _ (exc_same ha hd') upd_same⟩
    · refine .inr ⟨ni, ?_⟩
      walk_at "go"
      refine iteT ?_
      walk_at "go"
      refine k_mkO ?_
      walk_at "go"
      refine ⟨(by decide : 1 ≤ 1000), fun a ha => ⟨a, _, rfl, upd_same, fun dx hd ne => ?_⟩⟩
      have hd' : H dx = none := by rw [upd_ne ne] at hd; exact hd
      exact ⟨rfl, dx, _, upd_same, by rw [upd_ne ne]; exact upd_same, hd', k _ _ (exc_same ha hd') upd_same⟩
end
/-! ### bounds that are refused -/
def BadBnd (K : PySem.W.Frag) (H : Hp) (M : Int) (lo hi : V) : Prop := BadNum K H (-M) M lo ∨ ∃ i : Int, lo = .int i ∧ -M ≤ i ∧ i ≤ M ∧ BadNum K H i M hi
def sp_bnd (K : PySem.W.Frag) (B : Addr) : Sp := fun vs H Q E => ∃ (lo hi : V) (M : Int), vs = [lo, hi, .int M] ∧ ((∃ i j : Int, lo = .int i ∧ hi = .int j ∧ -M ≤ i ∧ i ≤ j ∧ j ≤ M ∧ Q .non H) ∨ (BadBnd K H M lo hi ∧ E (.ref B) none H))
section
variable {P : Program} {w : World} {K : PySem.W.Frag} {mg : Str → Option Value} {base : Heap}
theorem ok_check_bounds_bad (T : Txt K mg) : FnOk P w K mg base (L2.CX P w) 4 T.a_check_bounds T.fd_check_bounds ["low", "high", "most"] (sp_bnd K T.c_BadBounds) := by
  refine T.F_check_bounds.okX sc_check_bounds (fun vs H Q E h => ?_) (fun cdv A outer s H vs Q E hr h => ?_)
  · obtain ⟨lo, hi, M, rfl, _⟩ := h
    rfl
  · obtain ⟨lo, hi, M, rfl, h⟩ := h
    refine ⟨_, (pss_one (ps_if (PW.pt (pw_or (pt_not (pt_val (pe_call (ok_is_integer_between T) (hr.mono (by decide)) (by rfl) T.m_is_integer_between T.k_is_integer_between T.b_is_integer_between .nil passL (pa_cons (pv 0) (pa_cons (pe_un un_neg (pv 2)) (pa_cons (pv 2) pa_nil)))))) (pw_or1 (pt_not (pt_val (pe_call (ok_is_integer_between T) (hr.mono (by decide)) (by rfl) T.m_is_integer_between T.k_is_integer_between T.b_is_integer_between .nil passL (pa_cons (pv 1) (pa_cons (pv 0) (pa_cons (pv 2) pa_nil)))))))))
  (pss_one (ps_raise rfl (takes_of rfl rfl rfl rfl) (pmk_own PySem.F.excBase_ValueError T.x_BadBounds T.m_BadBounds T.k_BadBounds (raises_own T.b_BadBounds T.t_BadBounds) (by exact rfl))))
  pss_nil)), ?_⟩
    walk_at "begin"
    walk_at "go"
    refine ⟨_, _, _, rfl, ?_⟩
    rcases h with ⟨i, j, rfl, rfl, h1, h2, h3, k⟩ | ⟨(⟨i, rfl, hi⟩ | ni) | ⟨i, rfl, h1, h2, ⟨j, rfl, hj⟩ | nj⟩, k⟩
    · refine .inl ⟨i, rfl, ?_⟩
      rw [decide_eq_true ⟨h1, Int.le_trans h2 h3⟩]
      walk_at "go"
      refine iteF ?_
      walk_at "go"
      refine ⟨_, _, _, rfl, .inl ⟨j, rfl, ?_⟩⟩
      rw [decide_eq_true ⟨h2, h3⟩]
      walk_at "go"
      refine iteF ?_
      walk_at "go"
      exact k
    · refine .inl ⟨i, rfl, ?_⟩
      rw [decide_eq_false hi]
      walk_at "go"
      refine iteT ?_
      walk_at "go"
      exact k
    · refine .inr ⟨ni, ?_⟩
      walk_at "go"
      refine iteT ?_
      walk_at "go"
      exact k
    · refine .inl ⟨i, rfl, ?_⟩
      rw [decide_eq_true ⟨h1, h2⟩]
      walk_at "go"
      refine iteF ?_
      walk_at "go"
      refine ⟨_, _, _, rfl, .inl ⟨j, rfl, ?_⟩⟩
      rw [decide_eq_false hj]
      walk_at "go"
      refine iteT ?_
      walk_at "go"
      exact k
    · refine .inl ⟨i, rfl, ?_⟩
      rw [decide_eq_true ⟨h1, h2⟩]
      walk_at "go"
      refine iteF ?_
      walk_at "go"
      refine ⟨_, _, _, rfl, .inr ⟨nj, ?_⟩⟩
      walk_at "go"
      refine iteT ?_
      walk_at "go"
      exact k
end
/-! ### the counting functions refuse -/
def big40 : Int := 10000000000000000000000000000000000000000
def sp_tal (K : PySem.W.Frag) (C B : Addr) : Sp := fun vs H _ E => ∃ (x dx : Addr) (fs : List (Str × V)) (v : V), vs = [.ref x, v] ∧ H x = some (.ins C dx fs) ∧ BadNum K H 0 12 v ∧ ∀ d H', Same H H' → H' d = some (.xd [("n", v)]) → E (.ref B) (some d) H'
def sp_cnt (K : PySem.W.Frag) (C B : Addr) : Sp := fun vs H _ E => ∃ (x dx : Addr) (fs : List (Str × V)) (v u : V), vs = [.ref x, v, u] ∧ H x = some (.ins C dx fs) ∧
  ((BadNum K H 0 12 v ∧ ∀ d H', Same H H' → H' d = some (.xd [("n", v)]) → E (.ref B) (some d) H') ∨ ∃ i : Int, v = .int i ∧ 0 ≤ i ∧ i ≤ 12 ∧ BadNum K H (-big40) big40 u ∧ ∀ d H', Same H H' → H' d = some (.xd [("n", u)]) → E (.ref B) (some d) H')
def sp_cst (K : PySem.W.Frag) (C B B2 : Addr) : Sp := fun vs H _ E => ∃ (x dx : Addr) (fs : List (Str × V)) (v lo hi : V), vs = [.ref x, v, lo, hi] ∧ H x = some (.ins C dx fs) ∧
  ((BadNum K H 0 12 v ∧ ∀ d H', Same H H' → H' d = some (.xd [("n", v)]) → E (.ref B) (some d) H') ∨ ∃ i : Int, v = .int i ∧ 0 ≤ i ∧ i ≤ 12 ∧ BadBnd K H big40 lo hi ∧ E (.ref B2) none H)
section
variable {P : Program} {w : World} {K : PySem.W.Frag} {mg : Str → Option Value} {base : Heap}
theorem ok_tallies_bad (T : Txt K mg) : FnOk P w K mg base (L2.CX P w) 5 T.a_tallies T.fd_tallies ["machine", "length"] (sp_tal K T.c_Machine T.c_BadNumber) := by
  refine T.F_tallies.okX sc_tallies (fun vs H Q E h => ?_) (fun cdv A outer s H vs Q E hr h => ?_)
  · obtain ⟨x, dx, fs, v, rfl, _⟩ := h
    rfl
  · obtain ⟨x, dx, fs, v, rfl, hx, bad, k⟩ := h
    refine ⟨_, (pss_cons (ps_expr (pe_call (ok_check_machine T) (hr.mono (by decide)) (by rfl) T.m_check_machine T.k_check_machine T.b_check_machine .nil passL (pa_cons (pv 0) pa_nil)))
  (pss_cons (ps_expr (pe_callS (ok_check_number_bad T) (hr.mono (by decide)) (by rfl) T.m_check_number T.k_check_number T.b_check_number (fun σ => passAt (takes_of rfl rfl rfl rfl) σ) (pa_cons (pv 1) (pa_cons pe_int (pa_cons (pe_glob (by rfl) T.m_MOST_LENGTH T.r_MOST_LENGTH) pa_nil)))))
  pss_any)), ?_⟩
    walk_at "begin"
    walk_at "go"
    refine ⟨x, dx, fs, rfl, hx, ?_⟩
    walk_at "go"
    refine k_callS ?_
    walk_at "go"
    exact ⟨v, 0, 12, rfl, .inr ⟨bad, k⟩⟩
theorem ok_count_bad (T : Txt K mg) : FnOk P w K mg base (L2.CX P w) 5 T.a_count T.fd_count ["machine", "length", "tally"] (sp_cnt K T.c_Machine T.c_BadNumber) := by
  refine T.F_count.okX sc_count (fun vs H Q E h => ?_) (fun cdv A outer s H vs Q E hr h => ?_)
  · obtain ⟨x, dx, fs, v, u, rfl, _⟩ := h
    rfl
  · obtain ⟨x, dx, fs, v, u, rfl, hx, h⟩ := h
    refine ⟨_, (pss_cons (ps_expr (pe_call (ok_check_machine T) (hr.mono (by decide)) (by rfl) T.m_check_machine T.k_check_machine T.b_check_machine .nil passL (pa_cons (pv 0) pa_nil)))
  (pss_cons (ps_expr (pe_callS (ok_check_number_bad T) (hr.mono (by decide)) (by rfl) T.m_check_number T.k_check_number T.b_check_number (fun σ => passAt (takes_of rfl rfl rfl rfl) σ) (pa_cons (pv 1) (pa_cons pe_int (pa_cons (pe_glob (by rfl) T.m_MOST_LENGTH T.r_MOST_LENGTH) pa_nil)))))
  (pss_cons (ps_expr (pe_callS (ok_check_number_bad T) (hr.mono (by decide)) (by rfl) T.m_check_number T.k_check_number T.b_check_number (fun σ => passAt (takes_of rfl rfl rfl rfl) σ) (pa_cons (pv 2) (pa_cons (pe_un un_neg (pe_glob (by rfl) T.m_MOST_NUMBER T.r_MOST_NUMBER)) (pa_cons (pe_glob (by rfl) T.m_MOST_NUMBER T.r_MOST_NUMBER) pa_nil)))))
  pss_any))), ?_⟩
    walk_at "begin"
    walk_at "go"
    refine ⟨x, dx, fs, rfl, hx, ?_⟩
    walk_at "go"
    refine k_callS ?_
    walk_at "go"
    rcases h with ⟨bad, k⟩ | ⟨i, rfl, i0, i12, bad, k⟩
    · exact ⟨v, 0, 12, rfl, .inr ⟨bad, k⟩⟩
    · refine ⟨_, 0, 12, rfl, .inl ⟨i, rfl, i0, i12, ?_⟩⟩
      walk_at "go"
      refine k_callS ?_
      walk_at "go"
      exact ⟨u, _, _, rfl, .inr ⟨bad, k⟩⟩
theorem ok_count_staying_bad (T : Txt K mg) : FnOk P w K mg base (L2.CX P w) 5 T.a_count_staying T.fd_count_staying ["machine", "length", "low", "high"] (sp_cst K T.c_Machine T.c_BadNumber T.c_BadBounds) := by
  refine T.F_count_staying.okX sc_count_staying (fun vs H Q E h => ?_) (fun cdv A outer s H vs Q E hr h => ?_)
  · obtain ⟨x, dx, fs, v, lo, hi, rfl, _⟩ := h
    rfl
  · obtain ⟨x, dx, fs, v, lo, hi, rfl, hx, h⟩ := h
    refine ⟨_, (pss_cons (ps_expr (pe_call (ok_check_machine T) (hr.mono (by decide)) (by rfl) T.m_check_machine T.k_check_machine T.b_check_machine .nil passL (pa_cons (pv 0) pa_nil)))
  (pss_cons (ps_expr (pe_callS (ok_check_number_bad T) (hr.mono (by decide)) (by rfl) T.m_check_number T.k_check_number T.b_check_number (fun σ => passAt (takes_of rfl rfl rfl rfl) σ) (pa_cons (pv 1) (pa_cons pe_int (pa_cons (pe_glob (by rfl) T.m_MOST_LENGTH T.r_MOST_LENGTH) pa_nil)))))
  (pss_cons (ps_expr (pe_callS (ok_check_bounds_bad T) (hr.mono (by decide)) (by rfl) T.m_check_bounds T.k_check_bounds T.b_check_bounds (fun σ => passAt (takes_of rfl rfl rfl rfl) σ) (pa_cons (pv 2) (pa_cons (pv 3) (pa_cons (pe_glob (by rfl) T.m_MOST_NUMBER T.r_MOST_NUMBER) pa_nil)))))
  pss_any))), ?_⟩
    walk_at "begin"
    walk_at "go"
    refine ⟨x, dx, fs, rfl, hx, ?_⟩
    walk_at "go"
    refine k_callS ?_
    walk_at "go"
    rcases h with ⟨bad, k⟩ | ⟨i, rfl, i0, i12, bad, k⟩
    · exact ⟨v, 0, 12, rfl, .inr ⟨bad, k⟩⟩
    · refine ⟨_, 0, 12, rfl, .inl ⟨i, rfl, i0, i12, ?_⟩⟩
      walk_at "go"
      refine k_callS ?_
      walk_at "go"
      exact ⟨_, _, _, rfl, .inr ⟨bad, k⟩⟩
/-- what the law's own try is called with -/
def sp_ref (K : PySem.W.Frag) : Sp := fun vs H Q _ => ∃ (i : Int) (l o t : V), vs = [.int i, l, o, t] ∧ 0 ≤ i ∧ i < 3 ∧
  (((∀ H', Same H H' → BadNum K H' 0 12 l) ∧ ∀ p H', Same H H' → H' p = some (.lst [l]) → Q (.ref p) H') ∨
   (i = 1 ∧ (∃ j : Int, l = .int j ∧ 0 ≤ j ∧ j ≤ 12) ∧ (∀ H', Same H H' → BadNum K H' (-big40) big40 o) ∧ ∀ p H', Same H H' → H' p = some (.lst [o]) → Q (.ref p) H') ∨
   (i = 2 ∧ (∃ j : Int, l = .int j ∧ 0 ≤ j ∧ j ≤ 12) ∧ (∀ H', Same H H' → BadBnd K H' big40 o t) ∧ ∀ H', Same H H' → Q (.str "bounds") H'))
theorem md1_ok : (MD.mk 1 [⟨0, 97, 0, 1⟩] [0]).Ok := by
  refine ⟨Nat.le_refl 1, (by decide : 1 ≤ 8), fun s h => ?_, List.pairwise_singleton _ _, (by decide : 1 ≤ 32), fun s h => ?_, List.pairwise_singleton _ _, (by decide : 1 ≤ 8)⟩
  · rw [List.mem_singleton.mp h]
    exact ⟨by decide, by decide, by decide, by decide, by decide, by decide⟩
  · rw [List.mem_singleton.mp h]; decide
theorem ok_law_refused (T : Txt K mg) : FnOk P w K mg base (L2.CX P w) 8 T.a_law_refused T.fd_law_refused ["_law_kind", "_law_length", "_law_one", "_law_other"] (sp_ref K) := by
  refine T.F_law_refused.okX sc_law_refused (fun vs H Q E h => ?_) (fun cdv A outer s H vs Q E hr h => ?_)
  · obtain ⟨i, l, o, t, rfl, _⟩ := h
    rfl
  · obtain ⟨i, l, o, t, rfl, i0, i3, h⟩ := h
    refine ⟨_, (PSs.nox (pss_cons (ps_par (i := 4) (j := 5) (by rfl) sc_law_refused.nd rfl rfl (by decide) rfl rfl (pa_cons (pe_make T.mk_Machine (ok_Machine_init T) (hr.mono (by decide)) (by rfl) T.m_Machine T.b_Machine_init .nil passL (pa_cons pe_int (pa_cons (pe_tup (pa_cons (pe_tup (pa_cons pe_int (pa_cons pe_str (pa_cons pe_int (pa_cons pe_int pa_nil))))) pa_nil)) (pa_cons (pe_tup (pa_cons pe_int pa_nil)) pa_nil)))) (pa_cons pe_non pa_nil)) (by rfl))
  (pss_cons (ps_try_manyA rfl rfl takes0 (fun W pn xe tk _ => (pss_one (ps_if (pt_cmpR op_eq (pv 0) pe_int (nomark _))
  (pss_one (ps_expr (pe_callS (ok_tallies_bad T) (hr.mono (by decide)) (by rfl) T.m_tallies T.k_tallies T.b_tallies (fun σ => passAt tk σ) (pa_cons (pv 4) (pa_cons (pv 1) pa_nil)))))
  (pss_one (ps_if (pt_cmpR op_eq (pv 0) pe_int (nomark _))
  (pss_one (ps_expr (pe_callS (ok_count_bad T) (hr.mono (by decide)) (by rfl) T.m_count T.k_count T.b_count (fun σ => passAt tk σ) (pa_cons (pv 4) (pa_cons (pv 1) (pa_cons (pv 2) pa_nil))))))
  (pss_one (ps_expr (pe_callS (ok_count_staying_bad T) (hr.mono (by decide)) (by rfl) T.m_count_staying T.k_count_staying T.b_count_staying (fun σ => passAt tk σ) (pa_cons (pv 4) (pa_cons (pv 1) (pa_cons (pv 2) (pa_cons (pv 3) pa_nil)))))))))))) (.consA (i := 6) sc_law_refused.nd rfl rfl ⟨rfl, by decide, .inl T.m_BadNumber⟩ (fun a oe cls d pn hz hf => (pss_one (ps_set (i := 5) sc_law_refused.nd rfl (Or.inl rfl) (pe_lst (pa_cons (pe_xf T.xf_BadNumber T.no_BadNumber_n hz hf (pv 6)) pa_nil))))) (.cons ⟨rfl, by decide, .inl T.m_BadBounds⟩ (fun a oe cls d pn hz hf => (pss_one (ps_set (i := 5) sc_law_refused.nd rfl (Or.inl rfl) pe_str))) .nil)))
  (pss_one (ps_ret (pv 5)))))), ?_⟩
    walk_at "begin"
    walk_at "go"
    refine ⟨(by decide : 4 ≤ sizeLine), fun p1 h1 => ?_⟩
    have z1 := Same.new (o := .tup [V.int 0, V.str "a", V.int 0, V.int 1]) h1
    have e1 := upd_same (H := H) (a := p1) (o := .tup [V.int 0, V.str "a", V.int 0, V.int 1])
    generalize upd H p1 (.tup [V.int 0, V.str "a", V.int 0, V.int 1]) = H1 at z1 e1 ⊢
    walk_at "go"
    refine ⟨(by decide : 1 ≤ sizeLine), fun p2 h2 => ?_⟩
    have z2 := Same.new (o := .tup [V.ref p1]) h2
    have e2 := upd_same (H := H1) (a := p2) (o := .tup [V.ref p1])
    generalize upd H1 p2 (.tup [V.ref p1]) = H2 at z2 e2 ⊢
    walk_at "go"
    refine ⟨(by decide : 1 ≤ sizeLine), fun p3 h3 => ?_⟩
    have z3 := Same.new (o := .tup [V.int 0]) h3
    have e3 := upd_same (H := H2) (a := p3) (o := .tup [V.int 0])
    generalize upd H2 p3 (.tup [V.int 0]) = H3 at z3 e3 ⊢
    walk_at "go"
    intro x dx hx hdx ne
    have z4 : Same H3 (upd (upd H3 dx (.own x)) x (.ins T.c_Machine dx [])) := (Same.new hdx).trans (Same.new (by rw [upd_ne ne.symm]; exact hx))
    have f1 := z4 _ _ (z3 _ _ (z2 _ _ e1))
    have f2 := z4 _ _ (z3 _ _ e2)
    have f3 := z4 _ _ e3
    refine ⟨x, dx, p2, p3, MD.mk 1 [⟨0, 97, 0, 1⟩] [0], rfl, upd_same, ⟨⟨[.ref p1], .inl (.inl f2), rfl, fun i s e => ?_⟩, .inl (.inl f3)⟩, md1_ok, fun H5 k5 e5 => ⟨rfl, ?_⟩⟩
    · match i, e with
      | 0, e => cases e; exact ⟨p1, rfl, .inl (.inl f1)⟩
      | _ + 1, e => simp at e
    have z5 : Same H H5 := fun b ob e => k5 b ob (ne_of_none (z3 _ _ (z2 _ _ (z1 _ _ e))) hx) (z4 _ _ (z3 _ _ (z2 _ _ (z1 _ _ e))))
    clear z1 z2 z3 z4 f1 f2 f3 e1 e2 e3 k5
    walk_at "go"
    rcases h with ⟨bad, k⟩ | ⟨rfl, ⟨j, rfl, j0, j12⟩, bad, k⟩ | ⟨rfl, ⟨j, rfl, j0, j12⟩, bad, k⟩
    · have h : i = 0 ∨ i = 1 ∨ i = 2 := by omega
      rcases h with rfl | rfl | rfl
      · refine iteT ?_
        walk_at "go"
        refine k_callS ?_
        walk_at "go"
        refine ⟨x, dx, _, l, rfl, e5, bad _ z5, fun d H6 z6 ed => ⟨true, T.e_BadNumber, fun _ b hb => ?_, fun q => nomatch q⟩⟩
        dsimp only
        walk_at "go"
        refine k_xf ?_
        walk_at "go"
        refine ⟨rfl, rfl, d, _, _, rfl, ed, rfl, ?_⟩
        walk_at "go"
        refine ⟨(by decide : 1 ≤ sizeLine), fun q hq => ?_⟩
        walk_at "go"
        exact k q _ ((z5.trans z6).trans (Same.new hq)) upd_same
      · refine iteF ?_
        walk_at "go"
        refine iteT ?_
        walk_at "go"
        refine k_callS ?_
        walk_at "go"
        refine ⟨x, dx, _, l, o, rfl, e5, .inl ⟨bad _ z5, fun d H6 z6 ed => ⟨true, T.e_BadNumber, fun _ b hb => ?_, fun q => nomatch q⟩⟩⟩
        dsimp only
        walk_at "go"
        refine k_xf ?_
        walk_at "go"
        refine ⟨rfl, rfl, d, _, _, rfl, ed, rfl, ?_⟩
        walk_at "go"
        refine ⟨(by decide : 1 ≤ sizeLine), fun q hq => ?_⟩
        walk_at "go"
        exact k q _ ((z5.trans z6).trans (Same.new hq)) upd_same
      · refine iteF ?_
        walk_at "go"
        refine iteF ?_
        walk_at "go"
        refine k_callS ?_
        walk_at "go"
        refine ⟨x, dx, _, l, o, t, rfl, e5, .inl ⟨bad _ z5, fun d H6 z6 ed => ⟨true, T.e_BadNumber, fun _ b hb => ?_, fun q => nomatch q⟩⟩⟩
        dsimp only
        walk_at "go"
        refine k_xf ?_
        walk_at "go"
        refine ⟨rfl, rfl, d, _, _, rfl, ed, rfl, ?_⟩
        walk_at "go"
        refine ⟨(by decide : 1 ≤ sizeLine), fun q hq => ?_⟩
        walk_at "go"
        exact k q _ ((z5.trans z6).trans (Same.new hq)) upd_same
    · · refine iteF ?_
        walk_at "go"
        refine iteT ?_
        walk_at "go"
        refine k_callS ?_
        walk_at "go"
        refine ⟨x, dx, _, _, o, rfl, e5, .inr ⟨j, rfl, j0, j12, bad _ z5, fun d H6 z6 ed => ⟨true, T.e_BadNumber, fun _ b hb => ?_, fun q => nomatch q⟩⟩⟩
        dsimp only
        walk_at "go"
        refine k_xf ?_
        walk_at "go"
        refine ⟨rfl, rfl, d, _, _, rfl, ed, rfl, ?_⟩
        walk_at "go"
        refine ⟨(by decide : 1 ≤ sizeLine), fun q hq => ?_⟩
        walk_at "go"
        exact k q _ ((z5.trans z6).trans (Same.new hq)) upd_same
    · · refine iteF ?_
        walk_at "go"
        refine iteF ?_
        walk_at "go"
        refine k_callS ?_
        walk_at "go"
        refine ⟨x, dx, _, _, o, t, rfl, e5, .inr ⟨j, rfl, j0, j12, bad _ z5, ⟨false, T.er_BadBounds_BadNumber, (fun q => nomatch q), fun _ => ⟨true, T.e_BadBounds, fun _ b hb => ?_, fun q => nomatch q⟩⟩⟩⟩
        dsimp only
        walk_at "go"
        exact k _ z5
end
def BadL (K : PySem.W.Frag) (H : Hp) (a : Addr) (v : V) : Prop := (∀ H', Keep a H H' → BadNum K H' 0 12 v) ∧ ∃ d, SeqAt.shaped (.list [d]) = true ∧ (PyData.list [d]).canLay0 = true ∧ ∀ H', Keep a H H' → Dp K H' v d
def BadW (K : PySem.W.Frag) (v : V) : Prop := (∀ H', BadNum K H' (-big40) big40 v) ∧ ∃ d, SeqAt.shaped (.list [d]) = true ∧ (PyData.list [d]).canLay0 = true ∧ ∀ H', Dp K H' v d
theorem BadL.keep {K : PySem.W.Frag} {H H' : Hp} {a : Addr} {v : V} (h : BadL K H a v) (z : Keep a H H') : BadL K H' a v := ⟨fun H2 z2 => h.1 H2 (z.trans z2), let ⟨d, s, s0, q⟩ := h.2; ⟨d, s, s0, fun H2 z2 => q H2 (z.trans z2)⟩⟩
theorem ni_non {K : PySem.W.Frag} {H : Hp} : NotInt K H .non := .inr ⟨_, .base .non, kit_ty (b := "int") (r := false) (by decide +kernel)⟩
theorem ni_str {K : PySem.W.Frag} {H : Hp} {z : Str} : NotInt K H (.str z) := .inr ⟨_, .base (.str _), kit_ty (b := "int") (r := false) (by decide +kernel)⟩
theorem ni_tup {K : PySem.W.Frag} {H : Hp} {p : Addr} {xs : List V} (h : H p = some (.tup xs)) : NotInt K H (.ref p) := .inr ⟨_, .base (.tup h), kit_ty (b := "int") (r := false) (by decide +kernel)⟩
theorem low0 {K : PySem.W.Frag} {H : Hp} {v : V} (h : BadNum K H (-big40) big40 v) : BadNum K H 0 big40 v := h.imp (fun ⟨i, e, q⟩ => ⟨i, e, fun z => q ⟨by unfold big40; omega, z.2⟩⟩) id
def sp_law (K : PySem.W.Frag) : Sp := fun vs H Q _ => ∃ (sc : Addr) (ns : List Int), vs = [.ref sc] ∧ ScAt K H sc (ns.map V.int) ∧ ns.length ≤ 63 ∧ ∀ H', Q (.bl true) H'
section
variable {P : Program} {w : World} {K : PySem.W.Frag} {mg : Str → Option Value} {base : Heap}
theorem ok_law (T : Txt K mg) : FnOk P w K mg base (L2.CX P w) 10 T.a_law T.fd_law ["_law_script"] (sp_law K) := by
  refine T.F_law.okX sc_law (fun vs H Q E h => ?_) (fun cdv A outer s H vs Q E hr h => ?_)
  · obtain ⟨sc, ns, rfl, _⟩ := h
    rfl
  · obtain ⟨sc, ns, rfl, hsc, hns, k⟩ := h
    refine ⟨_, (PSs.nox (pss_cons (ps_set (i := 1) sc_law.nd rfl (Or.inl rfl) (pe_lst (pa_cons (pv 0) (pa_cons pe_int (pa_cons pe_int (pa_cons pe_int pa_nil))))))
  (pss_cons (ps_for PassesOwn.never rfl (pi_range1 (by rfl) T.z_range (pa_cons pe_int pa_nil)) (pg_name (i := 2) sc_law.nd rfl (Or.inl rfl))
  (pss_cons (ps_set (i := 3) sc_law.nd rfl (Or.inl rfl) (pe_ix ix_list (pe_lst (pa_cons pe_non (pa_cons (pe_un un_neg pe_int) (pa_cons pe_int (pa_cons pe_bl (pa_cons pe_str (pa_cons (pe_tup (pa_cons pe_int pa_nil)) pa_nil))))))) (pe_call (ok_law_taken T) (hr.mono (by decide)) (by rfl) T.m_law_taken T.k_law_taken T.b_law_taken .nil passL (pa_cons (pv 1) (pa_cons pe_int pa_nil))) (fun _ _ => rfl)))
  (pss_cons (ps_set (i := 4) sc_law.nd rfl (Or.inl rfl) (pe_ix ix_list (pe_lst (pa_cons pe_non (pa_cons (pe_op op_add (pe_op op_pow pe_int pe_int) pe_int) (pa_cons (pe_op op_sub (pe_un un_neg (pe_op op_pow pe_int pe_int)) pe_int) (pa_cons pe_bl (pa_cons pe_str pa_nil)))))) (pe_call (ok_law_taken T) (hr.mono (by decide)) (by rfl) T.m_law_taken T.k_law_taken T.b_law_taken .nil passL (pa_cons (pv 1) (pa_cons pe_int pa_nil))) (fun _ _ => rfl)))
  (pss_cons (ps_set (i := 5) sc_law.nd rfl (Or.inl rfl) (pe_call (ok_law_taken T) (hr.mono (by decide)) (by rfl) T.m_law_taken T.k_law_taken T.b_law_taken .nil passL (pa_cons (pv 1) (pa_cons pe_int pa_nil))))
  (pss_cons (ps_if (pt_cmpR (op_neD hr.units) (pe_call (ok_law_refused T) (hr.mono (by decide)) (by rfl) T.m_law_refused T.k_law_refused T.b_law_refused .nil passL (pa_cons (pe_call (ok_law_taken T) (hr.mono (by decide)) (by rfl) T.m_law_taken T.k_law_taken T.b_law_taken .nil passL (pa_cons (pv 1) (pa_cons pe_int pa_nil))) (pa_cons (pv 3) (pa_cons (pv 4) (pa_cons pe_non pa_nil))))) (pe_lst (pa_cons (pv 3) pa_nil)) (nomark _))
  (pss_one (ps_ret pe_bl))
  pss_nil)
  (pss_cons (ps_if (PW.pt (pw_or (pt_cmpR (op_neD hr.units) (pe_call (ok_law_refused T) (hr.mono (by decide)) (by rfl) T.m_law_refused T.k_law_refused T.b_law_refused .nil passL (pa_cons pe_int (pa_cons (pv 5) (pa_cons (pv 4) (pa_cons pe_non pa_nil))))) (pe_lst (pa_cons (pv 4) pa_nil)) (nomark _)) (pw_or1 (pt_cmpR op_ne (pe_call (ok_law_refused T) (hr.mono (by decide)) (by rfl) T.m_law_refused T.k_law_refused T.b_law_refused .nil passL (pa_cons pe_int (pa_cons (pv 5) (pa_cons (pv 4) (pa_cons (pe_op op_pow pe_int pe_int) pa_nil))))) pe_str (nomark _)))))
  (pss_one (ps_ret pe_bl))
  pss_nil)
  (pss_one (ps_if (PW.pt (pw_or (pt_cmpR op_ne (pe_call (ok_law_refused T) (hr.mono (by decide)) (by rfl) T.m_law_refused T.k_law_refused T.b_law_refused .nil passL (pa_cons pe_int (pa_cons (pv 5) (pa_cons pe_int (pa_cons pe_int pa_nil))))) pe_str (nomark _)) (pw_or1 (pt_cmpR op_ne (pe_call (ok_law_refused T) (hr.mono (by decide)) (by rfl) T.m_law_refused T.k_law_refused T.b_law_refused .nil passL (pa_cons pe_int (pa_cons (pv 5) (pa_cons pe_int (pa_cons (pv 4) pa_nil))))) pe_str (nomark _)))))
  (pss_one (ps_ret pe_bl))
  pss_nil))))))))
  (pss_one (ps_ret pe_bl))))), ?_⟩
    walk_at "begin"
    walk_at "go"
    refine ⟨(by decide : 4 ≤ sizeLine), fun a ha => ?_⟩
    have R1 : RowOk K (upd H a (.lst [.ref sc, .int 0, .int 224, .int 0])) a := ⟨sc, ns, 0, 224, 0, upd_same, hsc.same (Same.new ha), hns, by decide, by decide, by decide⟩
    generalize upd H a (.lst [.ref sc, .int 0, .int 224, .int 0]) = H1 at R1 ⊢
    walk_at "go"
    refine k_rg (by decide) (by decide) ?_
    refine for_range (lo := 0) (n := 9) (fun i σ H' => ∃ b2 b3 b4 b5, RowOk K H' a ∧ σ = [some (.ref sc), some (.ref a), b2, b3, b4, b5]) ⟨_, _, _, _, R1, rfl⟩ ?_ ?_
    · rintro i σ H2 hi ⟨b2, b3, b4, b5, R2, rfl⟩
      walk_at "go"
      refine ⟨(by decide : 1 ≤ sizeLine), fun p1 h1 => ?_⟩
      have e1 := upd_same (H := H2) (a := p1) (o := .tup [V.int 1])
      have R3 := R2.same (Same.new (o := .tup [V.int 1]) h1)
      generalize upd H2 p1 (.tup [V.int 1]) = H3 at e1 R3 ⊢
      walk_at "go"
      refine ⟨(by decide : 6 ≤ sizeLine), fun L hL => ?_⟩
      have zL := Same.new (o := .lst [V.non, .int (-1), .int 13, .bl true, .str "3", .ref p1]) hL
      have eL := upd_same (H := H3) (a := L) (o := .lst [V.non, .int (-1), .int 13, .bl true, .str "3", .ref p1])
      have nL := R3.ne hL
      have R4 := R3.same zL
      have e1 := zL _ _ e1
      walk_at "go"
      generalize upd H3 L (.lst [V.non, .int (-1), .int 13, .bl true, .str "3", .ref p1]) = H4 at e1 R4 eL ⊢
      refine ⟨a, 6, rfl, by decide, by decide, R4, fun x H5 x0 x6 R5 k5 => ?_⟩
      have z5 : ∀ {H' : Hp}, Keep a H5 H' → Keep a H4 H' := fun z => k5.trans z
      have done : ∃ v, atI [V.non, .int (-1), .int 13, .bl true, .str "3", .ref p1] x = some v ∧ BadL K H5 a v := by
        have h : x = 0 ∨ x = 1 ∨ x = 2 ∨ x = 3 ∨ x = 4 ∨ x = 5 := by omega
        have n1 : p1 ≠ a := fun z => by
          obtain ⟨l, e⟩ := R4.lst
          rw [z, e] at e1
          cases e1
        rcases h with rfl | rfl | rfl | rfl | rfl | rfl
        · exact ⟨_, rfl, fun _ _ => .inr ni_non, _, rfl, rfl, fun _ _ => .non⟩
        · exact ⟨_, rfl, fun _ _ => .inl ⟨_, rfl, by decide⟩, _, rfl, rfl, fun _ _ => .int _⟩
        · exact ⟨_, rfl, fun _ _ => .inl ⟨_, rfl, by decide⟩, _, rfl, rfl, fun _ _ => .int _⟩
        · exact ⟨_, rfl, fun _ _ => .inr (.inl ⟨_, rfl⟩), _, rfl, rfl, fun _ _ => .bl _⟩
        · exact ⟨_, rfl, fun _ _ => .inr ni_str, .str "3", by decide +kernel, by decide +kernel, fun _ _ => .str _⟩
        · exact ⟨_, rfl, fun _ z => .inr (ni_tup (z5 z _ _ n1 e1)), .tuple [.int 1], rfl, rfl, fun _ z => .tup (SqT.of (z5 z _ _ n1 e1)) (.cons (.int _) .nil)⟩
      obtain ⟨v, ev, hv⟩ := done
      refine k_ixL (SqL.of (k5 _ _ nL.symm eL)) ev ?_
      walk_at "go"
      clear z5 k5 ev eL e1 R4 R3 zL R2
      refine k_I (by exact ⟨by decide, by decide, by decide⟩) ?_
      walk_at "go"
      refine k_I (by exact ⟨by decide, by decide, by decide⟩) ?_
      walk_at "go"
      refine ⟨(by decide : 5 ≤ sizeLine), fun L hL => ?_⟩
      have nL := R5.ne hL
      have zL := Same.new (o := .lst [V.non, .int (10 ^ Int.toNat 40 + 1), .int (-(10 ^ Int.toNat 40) - 1), .bl true, .str "3"]) hL
      have eL := upd_same (H := H5) (a := L) (o := .lst [V.non, .int (10 ^ Int.toNat 40 + 1), .int (-(10 ^ Int.toNat 40) - 1), .bl true, .str "3"])
      have R6 := R5.same zL
      have hv6 := hv.keep (Keep.of_same zL)
      generalize upd H5 L (.lst [V.non, .int (10 ^ Int.toNat 40 + 1), .int (-(10 ^ Int.toNat 40) - 1), .bl true, .str "3"]) = H6 at eL R6 hv6 ⊢
      clear zL R5 hv
      walk_at "go"
      refine ⟨a, 5, rfl, by decide, by decide, R6, fun x H7 x0 x5 R7 k7 => ?_⟩
      have done : ∃ v, atI [V.non, .int (10 ^ Int.toNat 40 + 1), .int (-(10 ^ Int.toNat 40) - 1), .bl true, .str "3"] x = some v ∧ BadW K v := by
        have h : x = 0 ∨ x = 1 ∨ x = 2 ∨ x = 3 ∨ x = 4 := by omega
        rcases h with rfl | rfl | rfl | rfl | rfl
        · exact ⟨_, rfl, fun _ => .inr ni_non, _, rfl, rfl, fun _ => .non⟩
        · exact ⟨_, rfl, fun _ => .inl ⟨_, rfl, by decide +kernel⟩, _, rfl, rfl, fun _ => .int _⟩
        · exact ⟨_, rfl, fun _ => .inl ⟨_, rfl, by decide +kernel⟩, _, rfl, rfl, fun _ => .int _⟩
        · exact ⟨_, rfl, fun _ => .inr (.inl ⟨_, rfl⟩), _, rfl, rfl, fun _ => .bl _⟩
        · exact ⟨_, rfl, fun _ => .inr ni_str, .str "3", by decide +kernel, by decide +kernel, fun _ => .str _⟩
      obtain ⟨w, ew, hw, dw, sw, sw0, hdw⟩ := done
      refine k_ixL (SqL.of (k7 _ _ nL.symm eL)) ew ?_
      walk_at "go"
      have hv7 := hv6.keep k7
      refine ⟨a, 13, rfl, by decide, by decide, R7, fun j H8 j0 j13 R8 k8 => ?_⟩
      have hv8 := hv7.keep k8
      clear k7 k8 eL hv6 hv7 R6 R7 ew
      walk_at "go"
      refine ⟨a, 3, rfl, by decide, by decide, R8, fun i3 H9 i0 i3' R9 k9 => ?_⟩
      obtain ⟨hb, d, sd, sd0, hd⟩ := hv8.keep k9
      walk_at "go"
      refine ⟨_, _, _, _, rfl, i0, i3', .inl ⟨fun H' z => hb _ (Keep.of_same z), fun p H10 z10 ep => ?_⟩⟩
      walk_at "go"
      refine ⟨(by decide : 1 ≤ sizeLine), fun q hq => ?_⟩
      have zq := Same.new (o := .lst [v]) hq
      refine k_neD (Dp.lst (SqL.of (zq _ _ ep)) (.cons (hd _ (Keep.of_same (z10.trans zq))) .nil)) (Dp.lst (SqL.of upd_same) (.cons (hd _ (Keep.of_same (z10.trans zq))) .nil)) sd sd ?_
      rw [SeqAt.eqv_refl _ sd0]
      walk_at "go"
      refine iteF ?_
      have R11 := (R9.same z10).same zq
      generalize upd H10 q (.lst [v]) = H11 at R11 ⊢
      clear hb hd sd R9 R8 z10 zq ep k9 hv8 hq
      walk_at "go"
      refine ⟨_, _, _, _, rfl, by decide, by decide, .inr (.inl ⟨rfl, ⟨j, rfl, j0, by omega⟩, fun H' _ => hw H', fun p H12 z12 ep => ?_⟩)⟩
      walk_at "go"
      refine ⟨(by decide : 1 ≤ sizeLine), fun q hq => ?_⟩
      have zq := Same.new (o := .lst [w]) hq
      refine k_neD (Dp.lst (SqL.of (zq _ _ ep)) (.cons (hdw _) .nil)) (Dp.lst (SqL.of upd_same) (.cons (hdw _) .nil)) sw sw ?_
      rw [SeqAt.eqv_refl _ sw0]
      have R13 := (R11.same z12).same zq
      generalize upd H12 q (.lst [w]) = H13 at R13 ⊢
      walk_at "go"
      refine iteF ?_
      walk_at "go"
      refine k_I (by exact ⟨by decide, by decide, by decide⟩) ?_
      walk_at "go"
      refine ⟨_, _, _, _, rfl, by decide, by decide, .inr (.inr ⟨rfl, ⟨j, rfl, j0, by omega⟩, fun H' _ => .inl (hw H'), fun H14 z14 => ?_⟩)⟩
      have R14 := R13.same z14
      walk_at "go"
      refine iteF ?_
      walk_at "go"
      refine ⟨_, _, _, _, rfl, by decide, by decide, .inr (.inr ⟨rfl, ⟨j, rfl, j0, by omega⟩, fun H' _ => .inr ⟨1, rfl, by decide, by decide, .inl ⟨0, rfl, by decide⟩⟩, fun H15 z15 => ?_⟩)⟩
      have R15 := R14.same z15
      walk_at "go"
      refine iteF ?_
      walk_at "go"
      refine ⟨_, _, _, _, rfl, by decide, by decide, .inr (.inr ⟨rfl, ⟨j, rfl, j0, by omega⟩, fun H' _ => .inr ⟨0, rfl, by decide, by decide, low0 (hw H')⟩, fun H16 z16 => ?_⟩)⟩
      have R16 := R15.same z16
      walk_at "go"
      refine iteF ?_
      walk_at "go"
      exact ⟨_, _, _, _, R16, rfl⟩
    · rintro σ H2 ⟨b2, b3, b4, b5, R2, rfl⟩
      walk_at "go"
      exact k _
end
/-! ### what the written part says -/
theorem exc_self {K : PySem.W.Frag} {S : Addr} (hb : PySem.W.subIn K (.ref S) (.type "BaseException") = some true) (hc : PySem.W.isClsIn K S = true) (ht : PySem.W.typeIn K (.ref S) = some (.type "type")) (hs : PySem.W.subIn K (.ref S) (.ref S) = some true) : PySem.W.exmOne K (.ref S) (.ref S) = some true := by
  have hc' : (PySem.W.clsIn K S).isSome = true := hc
  unfold PySem.W.exmOne PySem.W.kitCls
  simp only [hb, ht, hc', hs, beq_self_eq_true, Bool.and_self, if_true]
def txt_mk {K : PySem.W.Frag} {h : Heap} {mg : Str → Option Value} (X : K.In h) (G : h.Ns mainGlobals mg)
    {a_BadNumber_init : Addr} {od_BadNumber_init an_BadNumber_init : Option Addr} {sl_BadNumber_init : Array (Option Value)} {oc_BadNumber_init kV_BadNumber_init dc_BadNumber_init pm_BadNumber_init cd_BadNumber_init ct_BadNumber_init : Value}
    {a_Machine_init : Addr} {od_Machine_init an_Machine_init : Option Addr} {sl_Machine_init : Array (Option Value)} {oc_Machine_init kV_Machine_init dc_Machine_init pm_Machine_init cd_Machine_init ct_Machine_init : Value}
    {a_is_whole_number : Addr} {od_is_whole_number an_is_whole_number : Option Addr} {sl_is_whole_number : Array (Option Value)} {oc_is_whole_number kV_is_whole_number dc_is_whole_number pm_is_whole_number cd_is_whole_number ct_is_whole_number : Value}
    {a_is_integer_between : Addr} {od_is_integer_between an_is_integer_between : Option Addr} {sl_is_integer_between : Array (Option Value)} {oc_is_integer_between kV_is_integer_between dc_is_integer_between pm_is_integer_between cd_is_integer_between ct_is_integer_between : Value}
    {a_is_stand : Addr} {od_is_stand an_is_stand : Option Addr} {sl_is_stand : Array (Option Value)} {oc_is_stand kV_is_stand dc_is_stand pm_is_stand cd_is_stand ct_is_stand : Value}
    {a_check_stands : Addr} {od_check_stands an_check_stands : Option Addr} {sl_check_stands : Array (Option Value)} {oc_check_stands kV_check_stands dc_check_stands pm_check_stands cd_check_stands ct_check_stands : Value}
    {a_is_step : Addr} {od_is_step an_is_step : Option Addr} {sl_is_step : Array (Option Value)} {oc_is_step kV_is_step dc_is_step pm_is_step cd_is_step ct_is_step : Value}
    {a_check_steps : Addr} {od_check_steps an_check_steps : Option Addr} {sl_check_steps : Array (Option Value)} {oc_check_steps kV_check_steps dc_check_steps pm_check_steps cd_check_steps ct_check_steps : Value}
    {a_is_ascending : Addr} {od_is_ascending an_is_ascending : Option Addr} {sl_is_ascending : Array (Option Value)} {oc_is_ascending kV_is_ascending dc_is_ascending pm_is_ascending cd_is_ascending ct_is_ascending : Value}
    {a_check_ends : Addr} {od_check_ends an_check_ends : Option Addr} {sl_check_ends : Array (Option Value)} {oc_check_ends kV_check_ends dc_check_ends pm_check_ends cd_check_ends ct_check_ends : Value}
    {a_check_machine : Addr} {od_check_machine an_check_machine : Option Addr} {sl_check_machine : Array (Option Value)} {oc_check_machine kV_check_machine dc_check_machine pm_check_machine cd_check_machine ct_check_machine : Value}
    {a_check_number : Addr} {od_check_number an_check_number : Option Addr} {sl_check_number : Array (Option Value)} {oc_check_number kV_check_number dc_check_number pm_check_number cd_check_number ct_check_number : Value}
    {a_check_bounds : Addr} {od_check_bounds an_check_bounds : Option Addr} {sl_check_bounds : Array (Option Value)} {oc_check_bounds kV_check_bounds dc_check_bounds pm_check_bounds cd_check_bounds ct_check_bounds : Value}
    {a_tallies : Addr} {od_tallies an_tallies : Option Addr} {sl_tallies : Array (Option Value)} {oc_tallies kV_tallies dc_tallies pm_tallies cd_tallies ct_tallies : Value}
    {a_count : Addr} {od_count an_count : Option Addr} {sl_count : Array (Option Value)} {oc_count kV_count dc_count pm_count cd_count ct_count : Value}
    {a_count_staying : Addr} {od_count_staying an_count_staying : Option Addr} {sl_count_staying : Array (Option Value)} {oc_count_staying kV_count_staying dc_count_staying pm_count_staying cd_count_staying ct_count_staying : Value}
    {a_law_taken : Addr} {od_law_taken an_law_taken : Option Addr} {sl_law_taken : Array (Option Value)} {oc_law_taken kV_law_taken dc_law_taken pm_law_taken cd_law_taken ct_law_taken : Value}
    {a_law_refused : Addr} {od_law_refused an_law_refused : Option Addr} {sl_law_refused : Array (Option Value)} {oc_law_refused kV_law_refused dc_law_refused pm_law_refused cd_law_refused ct_law_refused : Value}
    {a_law : Addr} {od_law an_law : Option Addr} {sl_law : Array (Option Value)} {oc_law kV_law dc_law pm_law cd_law ct_law : Value}
    {c_Machine : Addr}
    {c_BadBounds : Addr}
    {c_BadNumber r_BadNumber : Addr} {nm_BadNumber q_BadNumber : Str} {N_BadNumber bs_BadNumber sn_BadNumber sub_BadNumber ab_BadNumber col_BadNumber dd_BadNumber k0_BadNumber k1_BadNumber k2_BadNumber k3_BadNumber k5_BadNumber}
    {c_TallyError : Addr}
    {t_MOST_STANDS : Tok}
    {t_MOST_GAIN : Tok}
    {a_LETTERS : Addr} {od_LETTERS : Option Addr} {sl_LETTERS : Array (Option Value)} {n_LETTERS : Nat} {w0_LETTERS w1_LETTERS w2_LETTERS w3_LETTERS : Tok}
    {t_MOST_LENGTH : Tok}
    {t_MOST_NUMBER : Tok}
    (g_is_whole_number : PySem.W.nsIn K mainGlobals "is_whole_number" = some (some (.ref a_is_whole_number)))
    (g_is_integer_between : PySem.W.nsIn K mainGlobals "is_integer_between" = some (some (.ref a_is_integer_between)))
    (g_is_stand : PySem.W.nsIn K mainGlobals "_is_stand" = some (some (.ref a_is_stand)))
    (g_check_stands : PySem.W.nsIn K mainGlobals "_check_stands" = some (some (.ref a_check_stands)))
    (g_is_step : PySem.W.nsIn K mainGlobals "_is_step" = some (some (.ref a_is_step)))
    (g_check_steps : PySem.W.nsIn K mainGlobals "_check_steps" = some (some (.ref a_check_steps)))
    (g_is_ascending : PySem.W.nsIn K mainGlobals "is_ascending" = some (some (.ref a_is_ascending)))
    (g_check_ends : PySem.W.nsIn K mainGlobals "_check_ends" = some (some (.ref a_check_ends)))
    (g_check_machine : PySem.W.nsIn K mainGlobals "check_machine" = some (some (.ref a_check_machine)))
    (g_check_number : PySem.W.nsIn K mainGlobals "check_number" = some (some (.ref a_check_number)))
    (g_check_bounds : PySem.W.nsIn K mainGlobals "check_bounds" = some (some (.ref a_check_bounds)))
    (g_tallies : PySem.W.nsIn K mainGlobals "tallies" = some (some (.ref a_tallies)))
    (g_count : PySem.W.nsIn K mainGlobals "count" = some (some (.ref a_count)))
    (g_count_staying : PySem.W.nsIn K mainGlobals "count_staying" = some (some (.ref a_count_staying)))
    (g_law_taken : PySem.W.nsIn K mainGlobals "_law_taken" = some (some (.ref a_law_taken)))
    (g_law_refused : PySem.W.nsIn K mainGlobals "_law_refused" = some (some (.ref a_law_refused)))
    (g_law : PySem.W.nsIn K mainGlobals "law" = some (some (.ref a_law)))
    (g_Machine : PySem.W.nsIn K mainGlobals "Machine" = some (some (.ref c_Machine)))
    (g_BadBounds : PySem.W.nsIn K mainGlobals "BadBounds" = some (some (.ref c_BadBounds)))
    (g_BadNumber : PySem.W.nsIn K mainGlobals "BadNumber" = some (some (.ref c_BadNumber)))
    (g_TallyError : PySem.W.nsIn K mainGlobals "TallyError" = some (some (.ref c_TallyError)))
    (g_MOST_STANDS : PySem.W.nsIn K mainGlobals "MOST_STANDS" = some (some (.int 8 t_MOST_STANDS)))
    (g_MOST_GAIN : PySem.W.nsIn K mainGlobals "MOST_GAIN" = some (some (.int 1000000000000000000000000000000 t_MOST_GAIN)))
    (g_LETTERS : PySem.W.nsIn K mainGlobals "LETTERS" = some (some (.ref a_LETTERS)))
    (g_MOST_LENGTH : PySem.W.nsIn K mainGlobals "MOST_LENGTH" = some (some (.int 12 t_MOST_LENGTH)))
    (g_MOST_NUMBER : PySem.W.nsIn K mainGlobals "MOST_NUMBER" = some (some (.int 10000000000000000000000000000000000000000 t_MOST_NUMBER)))
    (zz_bool : PySem.W.nsIn K mainGlobals "bool" = some none)
    (zz_enumerate : PySem.W.nsIn K mainGlobals "enumerate" = some none)
    (zz_int : PySem.W.nsIn K mainGlobals "int" = some none)
    (zz_isinstance : PySem.W.nsIn K mainGlobals "isinstance" = some none)
    (zz_len : PySem.W.nsIn K mainGlobals "len" = some none)
    (zz_list : PySem.W.nsIn K mainGlobals "list" = some none)
    (zz_range : PySem.W.nsIn K mainGlobals "range" = some none)
    (zz_str : PySem.W.nsIn K mainGlobals "str" = some none)
    (zz_tuple : PySem.W.nsIn K mainGlobals "tuple" = some none)
    (l_BadNumber_init : K.lookup a_BadNumber_init = some ⟨oc_BadNumber_init, od_BadNumber_init, .func (PySem.W.fnOf "__init__" "BadNumber.__init__" (defArgs s_BadNumber_init) (defBody s_BadNumber_init) (defScope s_BadNumber_init) .none kV_BadNumber_init dc_BadNumber_init pm_BadNumber_init an_BadNumber_init cd_BadNumber_init ct_BadNumber_init), sl_BadNumber_init⟩)
    (c_BadNumber_init : PySem.W.codeIn K cd_BadNumber_init "BadNumber.__init__" = true)
    (kk_BadNumber_init : PySem.W.keepIn K (.ref a_BadNumber_init) = true)
    (l_Machine_init : K.lookup a_Machine_init = some ⟨oc_Machine_init, od_Machine_init, .func (PySem.W.fnOf "__init__" "Machine.__init__" (defArgs s_Machine_init) (defBody s_Machine_init) (defScope s_Machine_init) .none kV_Machine_init dc_Machine_init pm_Machine_init an_Machine_init cd_Machine_init ct_Machine_init), sl_Machine_init⟩)
    (c_Machine_init : PySem.W.codeIn K cd_Machine_init "Machine.__init__" = true)
    (kk_Machine_init : PySem.W.keepIn K (.ref a_Machine_init) = true)
    (l_is_whole_number : K.lookup a_is_whole_number = some ⟨oc_is_whole_number, od_is_whole_number, .func (PySem.W.fnOf "is_whole_number" "is_whole_number" (defArgs s_is_whole_number) (defBody s_is_whole_number) (defScope s_is_whole_number) .none kV_is_whole_number dc_is_whole_number pm_is_whole_number an_is_whole_number cd_is_whole_number ct_is_whole_number), sl_is_whole_number⟩)
    (c_is_whole_number : PySem.W.codeIn K cd_is_whole_number "is_whole_number" = true)
    (kk_is_whole_number : PySem.W.keepIn K (.ref a_is_whole_number) = true)
    (l_is_integer_between : K.lookup a_is_integer_between = some ⟨oc_is_integer_between, od_is_integer_between, .func (PySem.W.fnOf "is_integer_between" "is_integer_between" (defArgs s_is_integer_between) (defBody s_is_integer_between) (defScope s_is_integer_between) .none kV_is_integer_between dc_is_integer_between pm_is_integer_between an_is_integer_between cd_is_integer_between ct_is_integer_between), sl_is_integer_between⟩)
    (c_is_integer_between : PySem.W.codeIn K cd_is_integer_between "is_integer_between" = true)
    (kk_is_integer_between : PySem.W.keepIn K (.ref a_is_integer_between) = true)
    (l_is_stand : K.lookup a_is_stand = some ⟨oc_is_stand, od_is_stand, .func (PySem.W.fnOf "_is_stand" "_is_stand" (defArgs s_is_stand) (defBody s_is_stand) (defScope s_is_stand) .none kV_is_stand dc_is_stand pm_is_stand an_is_stand cd_is_stand ct_is_stand), sl_is_stand⟩)
    (c_is_stand : PySem.W.codeIn K cd_is_stand "_is_stand" = true)
    (kk_is_stand : PySem.W.keepIn K (.ref a_is_stand) = true)
    (l_check_stands : K.lookup a_check_stands = some ⟨oc_check_stands, od_check_stands, .func (PySem.W.fnOf "_check_stands" "_check_stands" (defArgs s_check_stands) (defBody s_check_stands) (defScope s_check_stands) .none kV_check_stands dc_check_stands pm_check_stands an_check_stands cd_check_stands ct_check_stands), sl_check_stands⟩)
    (c_check_stands : PySem.W.codeIn K cd_check_stands "_check_stands" = true)
    (kk_check_stands : PySem.W.keepIn K (.ref a_check_stands) = true)
    (l_is_step : K.lookup a_is_step = some ⟨oc_is_step, od_is_step, .func (PySem.W.fnOf "_is_step" "_is_step" (defArgs s_is_step) (defBody s_is_step) (defScope s_is_step) .none kV_is_step dc_is_step pm_is_step an_is_step cd_is_step ct_is_step), sl_is_step⟩)
    (c_is_step : PySem.W.codeIn K cd_is_step "_is_step" = true)
    (kk_is_step : PySem.W.keepIn K (.ref a_is_step) = true)
    (l_check_steps : K.lookup a_check_steps = some ⟨oc_check_steps, od_check_steps, .func (PySem.W.fnOf "_check_steps" "_check_steps" (defArgs s_check_steps) (defBody s_check_steps) (defScope s_check_steps) .none kV_check_steps dc_check_steps pm_check_steps an_check_steps cd_check_steps ct_check_steps), sl_check_steps⟩)
    (c_check_steps : PySem.W.codeIn K cd_check_steps "_check_steps" = true)
    (kk_check_steps : PySem.W.keepIn K (.ref a_check_steps) = true)
    (l_is_ascending : K.lookup a_is_ascending = some ⟨oc_is_ascending, od_is_ascending, .func (PySem.W.fnOf "is_ascending" "is_ascending" (defArgs s_is_ascending) (defBody s_is_ascending) (defScope s_is_ascending) .none kV_is_ascending dc_is_ascending pm_is_ascending an_is_ascending cd_is_ascending ct_is_ascending), sl_is_ascending⟩)
    (c_is_ascending : PySem.W.codeIn K cd_is_ascending "is_ascending" = true)
    (kk_is_ascending : PySem.W.keepIn K (.ref a_is_ascending) = true)
    (l_check_ends : K.lookup a_check_ends = some ⟨oc_check_ends, od_check_ends, .func (PySem.W.fnOf "_check_ends" "_check_ends" (defArgs s_check_ends) (defBody s_check_ends) (defScope s_check_ends) .none kV_check_ends dc_check_ends pm_check_ends an_check_ends cd_check_ends ct_check_ends), sl_check_ends⟩)
    (c_check_ends : PySem.W.codeIn K cd_check_ends "_check_ends" = true)
    (kk_check_ends : PySem.W.keepIn K (.ref a_check_ends) = true)
    (l_check_machine : K.lookup a_check_machine = some ⟨oc_check_machine, od_check_machine, .func (PySem.W.fnOf "check_machine" "check_machine" (defArgs s_check_machine) (defBody s_check_machine) (defScope s_check_machine) .none kV_check_machine dc_check_machine pm_check_machine an_check_machine cd_check_machine ct_check_machine), sl_check_machine⟩)
    (c_check_machine : PySem.W.codeIn K cd_check_machine "check_machine" = true)
    (kk_check_machine : PySem.W.keepIn K (.ref a_check_machine) = true)
    (l_check_number : K.lookup a_check_number = some ⟨oc_check_number, od_check_number, .func (PySem.W.fnOf "check_number" "check_number" (defArgs s_check_number) (defBody s_check_number) (defScope s_check_number) .none kV_check_number dc_check_number pm_check_number an_check_number cd_check_number ct_check_number), sl_check_number⟩)
    (c_check_number : PySem.W.codeIn K cd_check_number "check_number" = true)
    (kk_check_number : PySem.W.keepIn K (.ref a_check_number) = true)
    (l_check_bounds : K.lookup a_check_bounds = some ⟨oc_check_bounds, od_check_bounds, .func (PySem.W.fnOf "check_bounds" "check_bounds" (defArgs s_check_bounds) (defBody s_check_bounds) (defScope s_check_bounds) .none kV_check_bounds dc_check_bounds pm_check_bounds an_check_bounds cd_check_bounds ct_check_bounds), sl_check_bounds⟩)
    (c_check_bounds : PySem.W.codeIn K cd_check_bounds "check_bounds" = true)
    (kk_check_bounds : PySem.W.keepIn K (.ref a_check_bounds) = true)
    (l_tallies : K.lookup a_tallies = some ⟨oc_tallies, od_tallies, .func (PySem.W.fnOf "tallies" "tallies" (defArgs s_tallies) (defBody s_tallies) (defScope s_tallies) .none kV_tallies dc_tallies pm_tallies an_tallies cd_tallies ct_tallies), sl_tallies⟩)
    (c_tallies : PySem.W.codeIn K cd_tallies "tallies" = true)
    (kk_tallies : PySem.W.keepIn K (.ref a_tallies) = true)
    (l_count : K.lookup a_count = some ⟨oc_count, od_count, .func (PySem.W.fnOf "count" "count" (defArgs s_count) (defBody s_count) (defScope s_count) .none kV_count dc_count pm_count an_count cd_count ct_count), sl_count⟩)
    (c_count : PySem.W.codeIn K cd_count "count" = true)
    (kk_count : PySem.W.keepIn K (.ref a_count) = true)
    (l_count_staying : K.lookup a_count_staying = some ⟨oc_count_staying, od_count_staying, .func (PySem.W.fnOf "count_staying" "count_staying" (defArgs s_count_staying) (defBody s_count_staying) (defScope s_count_staying) .none kV_count_staying dc_count_staying pm_count_staying an_count_staying cd_count_staying ct_count_staying), sl_count_staying⟩)
    (c_count_staying : PySem.W.codeIn K cd_count_staying "count_staying" = true)
    (kk_count_staying : PySem.W.keepIn K (.ref a_count_staying) = true)
    (l_law_taken : K.lookup a_law_taken = some ⟨oc_law_taken, od_law_taken, .func (PySem.W.fnOf "_law_taken" "_law_taken" (defArgs s_law_taken) (defBody s_law_taken) (defScope s_law_taken) .none kV_law_taken dc_law_taken pm_law_taken an_law_taken cd_law_taken ct_law_taken), sl_law_taken⟩)
    (c_law_taken : PySem.W.codeIn K cd_law_taken "_law_taken" = true)
    (kk_law_taken : PySem.W.keepIn K (.ref a_law_taken) = true)
    (l_law_refused : K.lookup a_law_refused = some ⟨oc_law_refused, od_law_refused, .func (PySem.W.fnOf "_law_refused" "_law_refused" (defArgs s_law_refused) (defBody s_law_refused) (defScope s_law_refused) .none kV_law_refused dc_law_refused pm_law_refused an_law_refused cd_law_refused ct_law_refused), sl_law_refused⟩)
    (c_law_refused : PySem.W.codeIn K cd_law_refused "_law_refused" = true)
    (kk_law_refused : PySem.W.keepIn K (.ref a_law_refused) = true)
    (l_law : K.lookup a_law = some ⟨oc_law, od_law, .func (PySem.W.fnOf "law" "law" (defArgs s_law) (defBody s_law) (defScope s_law) .none kV_law dc_law pm_law an_law cd_law ct_law), sl_law⟩)
    (c_law : PySem.W.codeIn K cd_law "law" = true)
    (kk_law : PySem.W.keepIn K (.ref a_law) = true)
    (pg_Machine : PySem.W.plainGet K c_Machine Str.empty = true)
    (hd_Machine : PySem.W.hasDictIn K c_Machine = true)
    (po_Machine : PySem.W.plainOver K c_Machine = true)
    (sa_Machine : PySem.W.findIn K (.ref c_Machine) "__setattr__" = some (some (.builtin "object.__setattr__")))
    (mi_Machine : PySem.W.makesIn K c_Machine = true)
    (kc_Machine : PySem.W.keepIn K (.ref c_Machine) = true)
    (fi_Machine : PySem.W.findIn K (.ref c_Machine) "__init__" = some (some (.ref a_Machine_init)))
    (if_Machine : PySem.W.isFn K (.ref a_Machine_init) = true)
    (nf_stands : PySem.W.findIn K (.ref c_Machine) "_stands" = some none)
    (nf_steps : PySem.W.findIn K (.ref c_Machine) "_steps" = some none)
    (nf_ends : PySem.W.findIn K (.ref c_Machine) "_ends" = some none)
    (x_i1_Machine : PySem.W.findIn K (.ref c_Machine) "__class__" = some (some (.builtin "object.__class__")))
    (x_i2_Machine : PySem.W.specialIn K (.builtin "object.__class__") "__get__" = some (some (.builtin "getset_descriptor.__get__")))
    (x_i3_Machine : PySem.W.takesIn K (.builtin "object.__class__") = some true)
    (x_i4_Machine : PySem.W.mroIn K c_Machine (.type "object") = some true)
    (xx_BadBounds : PySem.W.excIn K c_BadBounds [.type "ValueError", .type "Exception", .type "BaseException", .type "object"] "ValueError.__new__" = true)
    (xk_BadBounds : PySem.W.keepIn K (.ref c_BadBounds) = true)
    (xb_BadBounds : PySem.W.subIn K (.ref c_BadBounds) (.type "BaseException") = some true)
    (xt_BadBounds : PySem.W.typeIn K (.ref c_BadBounds) = some (.type "type"))
    (xi_BadBounds : PySem.W.isClsIn K c_BadBounds = true)
    (xs_BadBounds : PySem.W.subIn K (.ref c_BadBounds) (.ref c_BadBounds) = some true)
    (lk_BadNumber : K.lookup c_BadNumber = some (excClassObj nm_BadNumber q_BadNumber c_BadNumber N_BadNumber bs_BadNumber [.ref r_BadNumber, .type "ValueError", .type "Exception", .type "BaseException", .type "object"] true sn_BadNumber sub_BadNumber ab_BadNumber col_BadNumber dd_BadNumber k0_BadNumber k1_BadNumber k2_BadNumber k3_BadNumber k5_BadNumber "ValueError.__new__"))
    (sa_BadNumber : PySem.W.findIn K (.ref c_BadNumber) "__setattr__" = some (some (.builtin "object.__setattr__")))
    (xk_BadNumber : PySem.W.keepIn K (.ref c_BadNumber) = true)
    (xb_BadNumber : PySem.W.subIn K (.ref c_BadNumber) (.type "BaseException") = some true)
    (xt_BadNumber : PySem.W.typeIn K (.ref c_BadNumber) = some (.type "type"))
    (xi_BadNumber : PySem.W.isClsIn K c_BadNumber = true)
    (xs_BadNumber : PySem.W.subIn K (.ref c_BadNumber) (.ref c_BadNumber) = some true)
    (ga_BadNumber : PySem.W.findIn K (.ref c_BadNumber) "__getattribute__" = some (some (.builtin "BaseException.__getattribute__")))
    (gg_BadNumber : PySem.W.findIn K (.ref c_BadNumber) "__getattr__" = some none)
    (hx_BadNumber : PySem.W.hasDictIn K c_BadNumber = true)
    (ie_BadNumber : PySem.W.findIn K (.ref c_BadNumber) "__init__" = some (some (.ref a_BadNumber_init)))
    (ti_BadNumber : PySem.W.typeIn K (.ref a_BadNumber_init) = some (.type "function"))
    (no_BadNumber_n : PySem.W.findIn K (.ref c_BadNumber) "n" = some none)
    (rd_TallyError : PySem.W.readsIn K c_TallyError (.type "type") = true)
    (fv_TallyError : PySem.W.findCls K (.ref c_TallyError) (.type "type") "__init__" = some (.val (.builtin "ValueError.__init__")))
    (sg_TallyError : PySem.W.specialIn K (.ref c_TallyError) "__getattribute__" = some (some (.builtin "type.__getattribute__")))
    (xs_BadBounds_BadNumber : PySem.W.subIn K (.ref c_BadBounds) (.ref c_BadNumber) = some false)
    (l_LETTERS : K.lookup a_LETTERS = some ⟨.type "tuple", od_LETTERS, .seq #[.str "a" w0_LETTERS, .str "b" w1_LETTERS, .str "c" w2_LETTERS, .str "d" w3_LETTERS] n_LETTERS, sl_LETTERS⟩) : Txt K mg :=
  {a_BadNumber_init := a_BadNumber_init, fd_BadNumber_init := _, F_BadNumber_init := fun_mk (st := s_BadNumber_init) l_BadNumber_init c_BadNumber_init kk_BadNumber_init, k_BadNumber_init := kk_BadNumber_init,
    b_BadNumber_init := (fun_mk (st := s_BadNumber_init) l_BadNumber_init c_BadNumber_init kk_BadNumber_init).binds (ps := ["self", "n"]) fun _ _ _ _ _ _ us hl => match us, hl with | [_, _], _ => rfl,
    a_Machine_init := a_Machine_init, fd_Machine_init := _, F_Machine_init := fun_mk (st := s_Machine_init) l_Machine_init c_Machine_init kk_Machine_init, k_Machine_init := kk_Machine_init,
    b_Machine_init := (fun_mk (st := s_Machine_init) l_Machine_init c_Machine_init kk_Machine_init).binds (ps := ["self", "stands", "steps", "ends"]) fun _ _ _ _ _ _ us hl => match us, hl with | [_, _, _, _], _ => rfl,
    a_is_whole_number := a_is_whole_number, fd_is_whole_number := _, F_is_whole_number := fun_mk (st := s_is_whole_number) l_is_whole_number c_is_whole_number kk_is_whole_number, k_is_whole_number := kk_is_whole_number,
    b_is_whole_number := (fun_mk (st := s_is_whole_number) l_is_whole_number c_is_whole_number kk_is_whole_number).binds (ps := ["value"]) fun _ _ _ _ _ _ us hl => match us, hl with | [_], _ => rfl,
    m_is_whole_number := PySem.W.mg_of X G g_is_whole_number,
    a_is_integer_between := a_is_integer_between, fd_is_integer_between := _, F_is_integer_between := fun_mk (st := s_is_integer_between) l_is_integer_between c_is_integer_between kk_is_integer_between, k_is_integer_between := kk_is_integer_between,
    b_is_integer_between := (fun_mk (st := s_is_integer_between) l_is_integer_between c_is_integer_between kk_is_integer_between).binds (ps := ["value", "least", "most"]) fun _ _ _ _ _ _ us hl => match us, hl with | [_, _, _], _ => rfl,
    m_is_integer_between := PySem.W.mg_of X G g_is_integer_between,
    a_is_stand := a_is_stand, fd_is_stand := _, F_is_stand := fun_mk (st := s_is_stand) l_is_stand c_is_stand kk_is_stand, k_is_stand := kk_is_stand,
    b_is_stand := (fun_mk (st := s_is_stand) l_is_stand c_is_stand kk_is_stand).binds (ps := ["stands", "value"]) fun _ _ _ _ _ _ us hl => match us, hl with | [_, _], _ => rfl,
    m_is_stand := PySem.W.mg_of X G g_is_stand,
    a_check_stands := a_check_stands, fd_check_stands := _, F_check_stands := fun_mk (st := s_check_stands) l_check_stands c_check_stands kk_check_stands, k_check_stands := kk_check_stands,
    b_check_stands := (fun_mk (st := s_check_stands) l_check_stands c_check_stands kk_check_stands).binds (ps := ["stands"]) fun _ _ _ _ _ _ us hl => match us, hl with | [_], _ => rfl,
    m_check_stands := PySem.W.mg_of X G g_check_stands,
    a_is_step := a_is_step, fd_is_step := _, F_is_step := fun_mk (st := s_is_step) l_is_step c_is_step kk_is_step, k_is_step := kk_is_step,
    b_is_step := (fun_mk (st := s_is_step) l_is_step c_is_step kk_is_step).binds (ps := ["stands", "value"]) fun _ _ _ _ _ _ us hl => match us, hl with | [_, _], _ => rfl,
    m_is_step := PySem.W.mg_of X G g_is_step,
    a_check_steps := a_check_steps, fd_check_steps := _, F_check_steps := fun_mk (st := s_check_steps) l_check_steps c_check_steps kk_check_steps, k_check_steps := kk_check_steps,
    b_check_steps := (fun_mk (st := s_check_steps) l_check_steps c_check_steps kk_check_steps).binds (ps := ["stands", "steps"]) fun _ _ _ _ _ _ us hl => match us, hl with | [_, _], _ => rfl,
    m_check_steps := PySem.W.mg_of X G g_check_steps,
    a_is_ascending := a_is_ascending, fd_is_ascending := _, F_is_ascending := fun_mk (st := s_is_ascending) l_is_ascending c_is_ascending kk_is_ascending, k_is_ascending := kk_is_ascending,
    b_is_ascending := (fun_mk (st := s_is_ascending) l_is_ascending c_is_ascending kk_is_ascending).binds (ps := ["value", "many"]) fun _ _ _ _ _ _ us hl => match us, hl with | [_, _], _ => rfl,
    m_is_ascending := PySem.W.mg_of X G g_is_ascending,
    a_check_ends := a_check_ends, fd_check_ends := _, F_check_ends := fun_mk (st := s_check_ends) l_check_ends c_check_ends kk_check_ends, k_check_ends := kk_check_ends,
    b_check_ends := (fun_mk (st := s_check_ends) l_check_ends c_check_ends kk_check_ends).binds (ps := ["stands", "ends"]) fun _ _ _ _ _ _ us hl => match us, hl with | [_, _], _ => rfl,
    m_check_ends := PySem.W.mg_of X G g_check_ends,
    a_check_machine := a_check_machine, fd_check_machine := _, F_check_machine := fun_mk (st := s_check_machine) l_check_machine c_check_machine kk_check_machine, k_check_machine := kk_check_machine,
    b_check_machine := (fun_mk (st := s_check_machine) l_check_machine c_check_machine kk_check_machine).binds (ps := ["value"]) fun _ _ _ _ _ _ us hl => match us, hl with | [_], _ => rfl,
    m_check_machine := PySem.W.mg_of X G g_check_machine,
    a_check_number := a_check_number, fd_check_number := _, F_check_number := fun_mk (st := s_check_number) l_check_number c_check_number kk_check_number, k_check_number := kk_check_number,
    b_check_number := (fun_mk (st := s_check_number) l_check_number c_check_number kk_check_number).binds (ps := ["value", "least", "most"]) fun _ _ _ _ _ _ us hl => match us, hl with | [_, _, _], _ => rfl,
    m_check_number := PySem.W.mg_of X G g_check_number,
    a_check_bounds := a_check_bounds, fd_check_bounds := _, F_check_bounds := fun_mk (st := s_check_bounds) l_check_bounds c_check_bounds kk_check_bounds, k_check_bounds := kk_check_bounds,
    b_check_bounds := (fun_mk (st := s_check_bounds) l_check_bounds c_check_bounds kk_check_bounds).binds (ps := ["low", "high", "most"]) fun _ _ _ _ _ _ us hl => match us, hl with | [_, _, _], _ => rfl,
    m_check_bounds := PySem.W.mg_of X G g_check_bounds,
    a_tallies := a_tallies, fd_tallies := _, F_tallies := fun_mk (st := s_tallies) l_tallies c_tallies kk_tallies, k_tallies := kk_tallies,
    b_tallies := (fun_mk (st := s_tallies) l_tallies c_tallies kk_tallies).binds (ps := ["machine", "length"]) fun _ _ _ _ _ _ us hl => match us, hl with | [_, _], _ => rfl,
    m_tallies := PySem.W.mg_of X G g_tallies,
    a_count := a_count, fd_count := _, F_count := fun_mk (st := s_count) l_count c_count kk_count, k_count := kk_count,
    b_count := (fun_mk (st := s_count) l_count c_count kk_count).binds (ps := ["machine", "length", "tally"]) fun _ _ _ _ _ _ us hl => match us, hl with | [_, _, _], _ => rfl,
    m_count := PySem.W.mg_of X G g_count,
    a_count_staying := a_count_staying, fd_count_staying := _, F_count_staying := fun_mk (st := s_count_staying) l_count_staying c_count_staying kk_count_staying, k_count_staying := kk_count_staying,
    b_count_staying := (fun_mk (st := s_count_staying) l_count_staying c_count_staying kk_count_staying).binds (ps := ["machine", "length", "low", "high"]) fun _ _ _ _ _ _ us hl => match us, hl with | [_, _, _, _], _ => rfl,
    m_count_staying := PySem.W.mg_of X G g_count_staying,
    a_law_taken := a_law_taken, fd_law_taken := _, F_law_taken := fun_mk (st := s_law_taken) l_law_taken c_law_taken kk_law_taken, k_law_taken := kk_law_taken,
    b_law_taken := (fun_mk (st := s_law_taken) l_law_taken c_law_taken kk_law_taken).binds (ps := ["_law_row", "_law_many"]) fun _ _ _ _ _ _ us hl => match us, hl with | [_, _], _ => rfl,
    m_law_taken := PySem.W.mg_of X G g_law_taken,
    a_law_refused := a_law_refused, fd_law_refused := _, F_law_refused := fun_mk (st := s_law_refused) l_law_refused c_law_refused kk_law_refused, k_law_refused := kk_law_refused,
    b_law_refused := (fun_mk (st := s_law_refused) l_law_refused c_law_refused kk_law_refused).binds (ps := ["_law_kind", "_law_length", "_law_one", "_law_other"]) fun _ _ _ _ _ _ us hl => match us, hl with | [_, _, _, _], _ => rfl,
    m_law_refused := PySem.W.mg_of X G g_law_refused,
    a_law := a_law, fd_law := _, F_law := fun_mk (st := s_law) l_law c_law kk_law, k_law := kk_law,
    b_law := (fun_mk (st := s_law) l_law c_law kk_law).binds (ps := ["_law_script"]) fun _ _ _ _ _ _ us hl => match us, hl with | [_], _ => rfl,
    m_law := PySem.W.mg_of X G g_law,
    c_Machine := c_Machine, cl_Machine := ⟨pg_Machine, hd_Machine, po_Machine, sa_Machine⟩, m_Machine := PySem.W.mg_of X G g_Machine, mk_Machine := ⟨mi_Machine, fi_Machine, if_Machine, kc_Machine⟩,
    n__stands := nf_stands,
    n__steps := nf_steps,
    n__ends := nf_ends,
    i1_Machine := x_i1_Machine,
    i2_Machine := x_i2_Machine,
    i3_Machine := x_i3_Machine,
    i4_Machine := x_i4_Machine,
    c_BadBounds := c_BadBounds, m_BadBounds := PySem.W.mg_of X G g_BadBounds, x_BadBounds := xx_BadBounds, k_BadBounds := xk_BadBounds, b_BadBounds := xb_BadBounds, t_BadBounds := xt_BadBounds, e_BadBounds := exc_self xb_BadBounds xi_BadBounds xt_BadBounds xs_BadBounds,
    c_BadNumber := c_BadNumber, m_BadNumber := PySem.W.mg_of X G g_BadNumber, o_BadNumber := ⟨⟨_, _, _, _, _, _, _, _, _, _, _, _, _, _, _, lk_BadNumber, rfl⟩, sa_BadNumber, xb_BadNumber, xt_BadNumber, xk_BadNumber⟩, xf_BadNumber := ⟨ga_BadNumber, gg_BadNumber, xb_BadNumber, hx_BadNumber⟩, ie_BadNumber := ie_BadNumber, ti_BadNumber := ti_BadNumber, e_BadNumber := exc_self xb_BadNumber xi_BadNumber xt_BadNumber xs_BadNumber,
    no_BadNumber_n := no_BadNumber_n,
    c_TallyError := c_TallyError, m_TallyError := PySem.W.mg_of X G g_TallyError,
    rd_TallyError := rd_TallyError,
    fv_TallyError := fv_TallyError,
    sg_TallyError := sg_TallyError,
    er_BadBounds_BadNumber := exc_rel xb_BadNumber xi_BadNumber xt_BadNumber xs_BadBounds_BadNumber,
    u_MOST_STANDS := .int 8 t_MOST_STANDS, m_MOST_STANDS := PySem.W.mg_of X G g_MOST_STANDS, r_MOST_STANDS := ⟨_, rfl⟩,
    u_MOST_GAIN := .int 1000000000000000000000000000000 t_MOST_GAIN, m_MOST_GAIN := PySem.W.mg_of X G g_MOST_GAIN, r_MOST_GAIN := ⟨_, rfl⟩,
    a_LETTERS := a_LETTERS, m_LETTERS := PySem.W.mg_of X G g_LETTERS, r_LETTERS := rfl, s_LETTERS := fun H => .inr ⟨_, _, _, l_LETTERS, rfl, rfl, (by show 4 ≤ sizeLine; decide), (Paired.cons ⟨_, rfl⟩ (Paired.cons ⟨_, rfl⟩ (Paired.cons ⟨_, rfl⟩ (Paired.cons ⟨_, rfl⟩ Paired.nil))))⟩,
    u_MOST_LENGTH := .int 12 t_MOST_LENGTH, m_MOST_LENGTH := PySem.W.mg_of X G g_MOST_LENGTH, r_MOST_LENGTH := ⟨_, rfl⟩,
    u_MOST_NUMBER := .int 10000000000000000000000000000000000000000 t_MOST_NUMBER, m_MOST_NUMBER := PySem.W.mg_of X G g_MOST_NUMBER, r_MOST_NUMBER := ⟨_, rfl⟩,
    z_bool := PySem.W.mg_none_of X G zz_bool,
    z_enumerate := PySem.W.mg_none_of X G zz_enumerate,
    z_int := PySem.W.mg_none_of X G zz_int,
    z_isinstance := PySem.W.mg_none_of X G zz_isinstance,
    z_len := PySem.W.mg_none_of X G zz_len,
    z_list := PySem.W.mg_none_of X G zz_list,
    z_range := PySem.W.mg_none_of X G zz_range,
    z_str := PySem.W.mg_none_of X G zz_str,
    z_tuple := PySem.W.mg_none_of X G zz_tuple,
    bs_law := fun s v => .of_eq rfl }
theorem all_mk {l : PySem.W.OpenLaw} {w : World} {K : PySem.W.Frag} {mg : Str → Option Value} {fa : Addr} (T : Txt K mg) (hfa : mg "law" = some (.ref fa)) :
    ∃ fd : FuncData, (∀ (s : Shared) (v : Value), BindsTo s fd ⟨[v], []⟩ [("_law_script", v)]) ∧ ∀ base : Heap, K.In base → base.Ns mainGlobals mg → FnOk l.prog w K mg base (L2.CX l.prog w) 10 fa fd ["_law_script"] (sp_law K) := by
  have e := hfa.symm.trans T.m_law
  cases e
  exact ⟨T.fd_law, T.bs_law, fun _ _ _ => ok_law T⟩
theorem walk {l : PySem.W.OpenLaw} {q : Program} {loose : List Str} {XP : (Str → Option Value) → Heap → Prop} {YP : World → Heap → Prop} {d : DefRec} {K : Params → PySem.W.Frag} (hn : l.most = some 63) (hdf : d.params.defaults = [])
    (hY : ∀ (w : World) (h : Heap), YP w h → (K w.params).In h)
    (F : ∀ (w : World) (mg : Str → Option Value) (fa : Addr) (h : Heap), (K w.params).In h → h.Ns mainGlobals mg → mg d.name = some (.ref fa) →
      ∃ fd : FuncData, (∀ (s : Shared) (u : Value), BindsTo s fd ⟨[u], []⟩ [("_law_script", u)]) ∧ ∀ base : Heap, (K w.params).In base → base.Ns mainGlobals mg → FnOk l.prog w (K w.params) mg base (L2.CX l.prog w) 10 fa fd ["_law_script"] (sp_law (K w.params))) :
    PySem.W.WalkO q loose XP YP l.row.toRowW d [] (fun f vs => PySem.call f vs) :=
  L2.walk_of (n := 63) (k := 10) (x := "_law_script") (CX := fun w => L2.CX l.prog w) (sp := fun w => sp_law (K w.params)) hn (by decide) hdf ⟨rfl, by decide, by decide⟩ hY F
    (fun _ H a ns hl hO hS => ⟨a, ns, rfl, by
      rcases hS with (e | ⟨o, e⟩) | h
      · rcases hO a with z | ⟨_, _, z⟩
        · rw [e] at z; cases z
        · rw [e] at z; cases z
      · exact .inl ⟨o, e⟩
      · exact .inr fun _ => .inr h, hl, fun _ => rfl⟩)
    fun _ _ _ _ _ h => by
      obtain ⟨_, _, _, _, _, _, _, _, _, _, _, _, z⟩ := h
      exact z.elim
end Sv
open PySem PySem.W PyProof.Rows in
set_option maxRecDepth 100000 in
set_option maxHeartbeats 0 in
theorem PySem.Challenge.cw_staytallies_k24_counts_refused_holds : PySem.Challenge.rw_staytallies_k24_counts_refused.Holds := by
  w_on; o_law; k_head; (case hw => w_witness2)
  k_fill
  refine Sv.walk (l := PySem.Challenge.rw_staytallies_k24_counts_refused) rfl rfl (fun w h Y => PySem.W.kIn_of Y) ?F
  case F =>
    intro w mg fa h KX G hmg
    refine' Sv.all_mk (Sv.txt_mk KX G ?g_is_whole_number ?g_is_integer_between ?g_is_stand ?g_check_stands ?g_is_step ?g_check_steps ?g_is_ascending ?g_check_ends ?g_check_machine ?g_check_number ?g_check_bounds ?g_tallies ?g_count ?g_count_staying ?g_law_taken ?g_law_refused ?g_law ?g_Machine ?g_BadBounds ?g_BadNumber ?g_TallyError ?g_MOST_STANDS ?g_MOST_GAIN ?g_LETTERS ?g_MOST_LENGTH ?g_MOST_NUMBER ?zz_bool ?zz_enumerate ?zz_int ?zz_isinstance ?zz_len ?zz_list ?zz_range ?zz_str ?zz_tuple ?l_BadNumber_init ?c_BadNumber_init ?kk_BadNumber_init ?l_Machine_init ?c_Machine_init ?kk_Machine_init ?l_is_whole_number ?c_is_whole_number ?kk_is_whole_number ?l_is_integer_between ?c_is_integer_between ?kk_is_integer_between ?l_is_stand ?c_is_stand ?kk_is_stand ?l_check_stands ?c_check_stands ?kk_check_stands ?l_is_step ?c_is_step ?kk_is_step ?l_check_steps ?c_check_steps ?kk_check_steps ?l_is_ascending ?c_is_ascending ?kk_is_ascending ?l_check_ends ?c_check_ends ?kk_check_ends ?l_check_machine ?c_check_machine ?kk_check_machine ?l_check_number ?c_check_number ?kk_check_number ?l_check_bounds ?c_check_bounds ?kk_check_bounds ?l_tallies ?c_tallies ?kk_tallies ?l_count ?c_count ?kk_count ?l_count_staying ?c_count_staying ?kk_count_staying ?l_law_taken ?c_law_taken ?kk_law_taken ?l_law_refused ?c_law_refused ?kk_law_refused ?l_law ?c_law ?kk_law ?pg_Machine ?hd_Machine ?po_Machine ?sa_Machine ?mi_Machine ?kc_Machine ?fi_Machine ?if_Machine ?nf_stands ?nf_steps ?nf_ends ?x_i1_Machine ?x_i2_Machine ?x_i3_Machine ?x_i4_Machine ?xx_BadBounds ?xk_BadBounds ?xb_BadBounds ?xt_BadBounds ?xi_BadBounds ?xs_BadBounds ?lk_BadNumber ?sa_BadNumber ?xk_BadNumber ?xb_BadNumber ?xt_BadNumber ?xi_BadNumber ?xs_BadNumber ?ga_BadNumber ?gg_BadNumber ?hx_BadNumber ?ie_BadNumber ?ti_BadNumber ?no_BadNumber_n ?rd_TallyError ?fv_TallyError ?sg_TallyError ?xs_BadBounds_BadNumber ?l_LETTERS) hmg
    (case g_is_whole_number => k_is)
    (case g_is_integer_between => k_is)
    (case g_is_stand => k_is)
    (case g_check_stands => k_is)
    (case g_is_step => k_is)
    (case g_check_steps => k_is)
    (case g_is_ascending => k_is)
    (case g_check_ends => k_is)
    (case g_check_machine => k_is)
    (case g_check_number => k_is)
    (case g_check_bounds => k_is)
    (case g_tallies => k_is)
    (case g_count => k_is)
    (case g_count_staying => k_is)
    (case g_law_taken => k_is)
    (case g_law_refused => k_is)
    (case g_law => k_is)
    (case g_Machine => k_is)
    (case g_BadBounds => k_is)
    (case g_BadNumber => k_is)
    (case g_TallyError => k_is)
    (case g_MOST_STANDS => k_is)
    (case g_MOST_GAIN => k_is)
    (case g_LETTERS => k_is)
    (case g_MOST_LENGTH => k_is)
    (case g_MOST_NUMBER => k_is)
    (case zz_bool => k_is)
    (case zz_enumerate => k_is)
    (case zz_int => k_is)
    (case zz_isinstance => k_is)
    (case zz_len => k_is)
    (case zz_list => k_is)
    (case zz_range => k_is)
    (case zz_str => k_is)
    (case zz_tuple => k_is)
    (case pg_Machine => k_is)
    (case hd_Machine => k_is)
    (case po_Machine => k_is)
    (case sa_Machine => k_is)
    (case mi_Machine => k_is)
    (case kc_Machine => k_is)
    (case fi_Machine => k_is)
    (case if_Machine => k_is)
    (case nf_stands => k_is)
    (case nf_steps => k_is)
    (case nf_ends => k_is)
    (case x_i1_Machine => k_is)
    (case x_i2_Machine => k_is)
    (case x_i3_Machine => k_is)
    (case x_i4_Machine => k_is)
    (case xx_BadBounds => k_exc)
    (case xk_BadBounds => k_is)
    (case xb_BadBounds => k_is)
    (case xt_BadBounds => k_is)
    (case xi_BadBounds => k_is)
    (case xs_BadBounds => first | rfl | k_is)
    (case lk_BadNumber => k_is)
    (case sa_BadNumber => k_is)
    (case xk_BadNumber => k_is)
    (case xb_BadNumber => k_is)
    (case xt_BadNumber => k_is)
    (case xi_BadNumber => k_is)
    (case xs_BadNumber => first | rfl | k_is)
    (case ga_BadNumber => k_is)
    (case gg_BadNumber => k_is)
    (case hx_BadNumber => k_is)
    (case ie_BadNumber => k_is)
    (case ti_BadNumber => k_is)
    (case no_BadNumber_n => k_is)
    (case rd_TallyError => k_is)
    (case fv_TallyError => k_is)
    (case sg_TallyError => k_is)
    (case xs_BadBounds_BadNumber => first | rfl | k_is)
    (case l_LETTERS => k_is)
    (case l_BadNumber_init => k_is)
    (case c_BadNumber_init => k_is)
    (case kk_BadNumber_init => k_is)
    (case l_Machine_init => k_is)
    (case c_Machine_init => k_is)
    (case kk_Machine_init => k_is)
    (case l_is_whole_number => k_is)
    (case c_is_whole_number => k_is)
    (case kk_is_whole_number => k_is)
    (case l_is_integer_between => k_is)
    (case c_is_integer_between => k_is)
    (case kk_is_integer_between => k_is)
    (case l_is_stand => k_is)
    (case c_is_stand => k_is)
    (case kk_is_stand => k_is)
    (case l_check_stands => k_is)
    (case c_check_stands => k_is)
    (case kk_check_stands => k_is)
    (case l_is_step => k_is)
    (case c_is_step => k_is)
    (case kk_is_step => k_is)
    (case l_check_steps => k_is)
    (case c_check_steps => k_is)
    (case kk_check_steps => k_is)
    (case l_is_ascending => k_is)
    (case c_is_ascending => k_is)
    (case kk_is_ascending => k_is)
    (case l_check_ends => k_is)
    (case c_check_ends => k_is)
    (case kk_check_ends => k_is)
    (case l_check_machine => k_is)
    (case c_check_machine => k_is)
    (case kk_check_machine => k_is)
    (case l_check_number => k_is)
    (case c_check_number => k_is)
    (case kk_check_number => k_is)
    (case l_check_bounds => k_is)
    (case c_check_bounds => k_is)
    (case kk_check_bounds => k_is)
    (case l_tallies => k_is)
    (case c_tallies => k_is)
    (case kk_tallies => k_is)
    (case l_count => k_is)
    (case c_count => k_is)
    (case kk_count => k_is)
    (case l_count_staying => k_is)
    (case c_count_staying => k_is)
    (case kk_count_staying => k_is)
    (case l_law_taken => k_is)
    (case c_law_taken => k_is)
    (case kk_law_taken => k_is)
    (case l_law_refused => k_is)
    (case c_law_refused => k_is)
    (case kk_law_refused => k_is)
    (case l_law => k_is)
    (case c_law => k_is)
    (case kk_law => k_is)
#print axioms PySem.Challenge.cw_staytallies_k24_counts_refused_holds
