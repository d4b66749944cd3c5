import PyProof.Rows.All
import Wide.All
import OpenK.AllK
import Wide.FinOn
import Open.SpecLaws
import KE.OsGo
import HandS.ForMost
import HandS.ForSpec
import HandS.Conv
import HandS.Sort
import HandS.StrMore
import HandS.Walk
import PySem.Challenge.RW_brokenstrokes_s01_answers
set_option Elab.async false
set_option linter.all false
set_option maxRecDepth 100000
set_option maxHeartbeats 4000000
namespace Bs
open PySem PySem.Spec PyProof.Rows L2
/-- the i-th statement of the program -/
def top (i : Nat) : Stmt := PySem.Challenge.pw_brokenstrokes_s01_answers.main.body.getD i (.Pass ⟨0, 0, 0, 0⟩)
abbrev s_picture_of : Stmt := top 5
abbrev N_picture_of : List Str := ["lit", "picture", "strokes"]
abbrev P_picture_of : List Str := ["lit"]
theorem sc_picture_of : FnScope N_picture_of P_picture_of (defScope s_picture_of) := ⟨rfl, rfl, rfl, by decide +kernel, rfl, by decide +kernel, by decide +kernel⟩
abbrev s_places_of : Stmt := top 6
abbrev N_places_of : List Str := ["picture", "digits", "lit", "rest", "place"]
abbrev P_places_of : List Str := ["picture", "digits"]
theorem sc_places_of : FnScope N_places_of P_places_of (defScope s_places_of) := ⟨rfl, rfl, rfl, by decide +kernel, rfl, by decide +kernel, by decide +kernel⟩
abbrev s_whole_picture : Stmt := top 7
abbrev N_whole_picture : List Str := ["digits"]
abbrev P_whole_picture : List Str := ["digits"]
theorem sc_whole_picture : FnScope N_whole_picture P_whole_picture (defScope s_whole_picture) := ⟨rfl, rfl, rfl, by decide +kernel, rfl, by decide +kernel, by decide +kernel⟩
abbrev s_stroke_alone : Stmt := top 8
abbrev N_stroke_alone : List Str := ["place", "stroke", "digits", "lit"]
abbrev P_stroke_alone : List Str := ["place", "stroke", "digits"]
theorem sc_stroke_alone : FnScope N_stroke_alone P_stroke_alone (defScope s_stroke_alone) := ⟨rfl, rfl, rfl, by decide +kernel, rfl, by decide +kernel, by decide +kernel⟩
abbrev s_should_light : Stmt := top 9
abbrev N_should_light : List Str := ["count", "digits", "text", "digit"]
abbrev P_should_light : List Str := ["count", "digits"]
theorem sc_should_light : FnScope N_should_light P_should_light (defScope s_should_light) := ⟨rfl, rfl, rfl, by decide +kernel, rfl, by decide +kernel, by decide +kernel⟩
abbrev s_all_pictures : Stmt := top 10
abbrev N_all_pictures : List Str := ["digits", "count"]
abbrev P_all_pictures : List Str := ["digits"]
theorem sc_all_pictures : FnScope N_all_pictures P_all_pictures (defScope s_all_pictures) := ⟨rfl, rfl, rfl, by decide +kernel, rfl, by decide +kernel, by decide +kernel⟩
abbrev s_how_many_strokes : Stmt := top 11
abbrev N_how_many_strokes : List Str := ["picture", "found", "rest"]
abbrev P_how_many_strokes : List Str := ["picture"]
theorem sc_how_many_strokes : FnScope N_how_many_strokes P_how_many_strokes (defScope s_how_many_strokes) := ⟨rfl, rfl, rfl, by decide +kernel, rfl, by decide +kernel, by decide +kernel⟩
abbrev s_lit_in_all : Stmt := top 13
abbrev N_lit_in_all : List Str := ["sights", "whole", "found", "time", "lit"]
abbrev P_lit_in_all : List Str := ["sights", "whole"]
theorem sc_lit_in_all : FnScope N_lit_in_all P_lit_in_all (defScope s_lit_in_all) := ⟨rfl, rfl, rfl, by decide +kernel, rfl, by decide +kernel, by decide +kernel⟩
abbrev s_dark_in_all : Stmt := top 14
abbrev N_dark_in_all : List Str := ["sights", "whole", "found", "time", "lit"]
abbrev P_dark_in_all : List Str := ["sights", "whole"]
theorem sc_dark_in_all : FnScope N_dark_in_all P_dark_in_all (defScope s_dark_in_all) := ⟨rfl, rfl, rfl, by decide +kernel, rfl, by decide +kernel, by decide +kernel⟩
abbrev s_count_at : Stmt := top 15
abbrev N_count_at : List Str := ["time", "number", "pictures"]
abbrev P_count_at : List Str := ["time", "number", "pictures"]
theorem sc_count_at : FnScope N_count_at P_count_at (defScope s_count_at) := ⟨rfl, rfl, rfl, by decide +kernel, rfl, by decide +kernel, by decide +kernel⟩
abbrev s_wrong_strokes : Stmt := top 16
abbrev N_wrong_strokes : List Str := ["number", "sights", "pictures", "wrong", "time", "lit"]
abbrev P_wrong_strokes : List Str := ["number", "sights", "pictures"]
theorem sc_wrong_strokes : FnScope N_wrong_strokes P_wrong_strokes (defScope s_wrong_strokes) := ⟨rfl, rfl, rfl, by decide +kernel, rfl, by decide +kernel, by decide +kernel⟩
abbrev s_broken_by_number : Stmt := top 17
abbrev N_broken_by_number : List Str := ["sights", "pictures", "working", "broken", "number", "wrong"]
abbrev P_broken_by_number : List Str := ["sights", "pictures", "working"]
theorem sc_broken_by_number : FnScope N_broken_by_number P_broken_by_number (defScope s_broken_by_number) := ⟨rfl, rfl, rfl, by decide +kernel, rfl, by decide +kernel, by decide +kernel⟩
abbrev s_x_init : Stmt := inClass (top 18) 0
abbrev N_x_init : List Str := ["self", "sights", "pictures", "digits"]
abbrev P_x_init : List Str := ["self", "sights", "pictures", "digits"]
theorem sc_x_init : FnScope N_x_init P_x_init (defScope s_x_init) := ⟨rfl, rfl, rfl, by decide +kernel, rfl, by decide +kernel, by decide +kernel⟩
abbrev s_x_has_none : Stmt := inClass (top 18) 1
abbrev N_x_has_none : List Str := ["self"]
abbrev P_x_has_none : List Str := ["self"]
theorem sc_x_has_none : FnScope N_x_has_none P_x_has_none (defScope s_x_has_none) := ⟨rfl, rfl, rfl, by decide +kernel, rfl, by decide +kernel, by decide +kernel⟩
abbrev s_x_surely_broken : Stmt := inClass (top 18) 2
abbrev N_x_surely_broken : List Str := ["self", "found", "broken"]
abbrev P_x_surely_broken : List Str := ["self"]
theorem sc_x_surely_broken : FnScope N_x_surely_broken P_x_surely_broken (defScope s_x_surely_broken) := ⟨rfl, rfl, rfl, by decide +kernel, rfl, by decide +kernel, by decide +kernel⟩
abbrev s_x_states : Stmt := inClass (top 18) 3
abbrev N_x_states : List Str := ["self", "stroke", "found"]
abbrev P_x_states : List Str := ["self", "stroke"]
theorem sc_x_states : FnScope N_x_states P_x_states (defScope s_x_states) := ⟨rfl, rfl, rfl, by decide +kernel, rfl, by decide +kernel, by decide +kernel⟩
abbrev s_x_should_show : Stmt := inClass (top 18) 4
abbrev N_x_should_show : List Str := ["self", "number", "time"]
abbrev P_x_should_show : List Str := ["self", "number", "time"]
theorem sc_x_should_show : FnScope N_x_should_show P_x_should_show (defScope s_x_should_show) := ⟨rfl, rfl, rfl, by decide +kernel, rfl, by decide +kernel, by decide +kernel⟩
abbrev s_x_can_be_lit : Stmt := inClass (top 18) 5
abbrev N_x_can_be_lit : List Str := ["self", "time", "found", "number", "broken", "can_work"]
abbrev P_x_can_be_lit : List Str := ["self", "time"]
theorem sc_x_can_be_lit : FnScope N_x_can_be_lit P_x_can_be_lit (defScope s_x_can_be_lit) := ⟨rfl, rfl, rfl, by decide +kernel, rfl, by decide +kernel, by decide +kernel⟩
abbrev s_x_can_be_dark : Stmt := inClass (top 18) 6
abbrev N_x_can_be_dark : List Str := ["self", "time", "found", "number", "broken", "can_work"]
abbrev P_x_can_be_dark : List Str := ["self", "time"]
theorem sc_x_can_be_dark : FnScope N_x_can_be_dark P_x_can_be_dark (defScope s_x_can_be_dark) := ⟨rfl, rfl, rfl, by decide +kernel, rfl, by decide +kernel, by decide +kernel⟩
abbrev s_x_are_apart : Stmt := inClass (top 18) 7
abbrev N_x_are_apart : List Str := ["self", "number", "other", "time", "differing"]
abbrev P_x_are_apart : List Str := ["self", "number", "other", "time"]
theorem sc_x_are_apart : FnScope N_x_are_apart P_x_are_apart (defScope s_x_are_apart) := ⟨rfl, rfl, rfl, by decide +kernel, rfl, by decide +kernel, by decide +kernel⟩
abbrev s_answer_with : Stmt := top 23
abbrev N_answer_with : List Str := ["number", "rows", "told", "row"]
abbrev P_answer_with : List Str := ["number", "rows"]
theorem sc_answer_with : FnScope N_answer_with P_answer_with (defScope s_answer_with) := ⟨rfl, rfl, rfl, by decide +kernel, rfl, by decide +kernel, by decide +kernel⟩
abbrev s_behind_others : Stmt := top 24
abbrev N_behind_others : List Str := ["numbers", "k"]
abbrev P_behind_others : List Str := ["numbers", "k"]
theorem sc_behind_others : FnScope N_behind_others P_behind_others (defScope s_behind_others) := ⟨rfl, rfl, rfl, by decide +kernel, rfl, by decide +kernel, by decide +kernel⟩
abbrev s_m_init : Stmt := inClass (top 25) 0
abbrev N_m_init : List Str := ["self"]
abbrev P_m_init : List Str := ["self"]
theorem sc_m_init : FnScope N_m_init P_m_init (defScope s_m_init) := ⟨rfl, rfl, rfl, by decide +kernel, rfl, by decide +kernel, by decide +kernel⟩
abbrev s_m_make_new : Stmt := inClass (top 25) 1
abbrev N_m_make_new : List Str := ["self", "digits"]
abbrev P_m_make_new : List Str := ["self", "digits"]
theorem sc_m_make_new : FnScope N_m_make_new P_m_make_new (defScope s_m_make_new) := ⟨rfl, rfl, rfl, by decide +kernel, rfl, by decide +kernel, by decide +kernel⟩
abbrev s_m_explain : Stmt := inClass (top 25) 2
abbrev N_m_explain : List Str := ["self"]
abbrev P_m_explain : List Str := ["self"]
theorem sc_m_explain : FnScope N_m_explain P_m_explain (defScope s_m_explain) := ⟨rfl, rfl, rfl, by decide +kernel, rfl, by decide +kernel, by decide +kernel⟩
abbrev s_m_there_is : Stmt := inClass (top 25) 3
abbrev N_m_there_is : List Str := ["self", "number"]
abbrev P_m_there_is : List Str := ["self", "number"]
theorem sc_m_there_is : FnScope N_m_there_is P_m_there_is (defScope s_m_there_is) := ⟨rfl, rfl, rfl, by decide +kernel, rfl, by decide +kernel, by decide +kernel⟩
abbrev s_m_may_begin_with : Stmt := inClass (top 25) 4
abbrev N_m_may_begin_with : List Str := ["self", "number"]
abbrev P_m_may_begin_with : List Str := ["self", "number"]
theorem sc_m_may_begin_with : FnScope N_m_may_begin_with P_m_may_begin_with (defScope s_m_may_begin_with) := ⟨rfl, rfl, rfl, by decide +kernel, rfl, by decide +kernel, by decide +kernel⟩
abbrev s_m_how_many_numbers : Stmt := inClass (top 25) 5
abbrev N_m_how_many_numbers : List Str := ["self"]
abbrev P_m_how_many_numbers : List Str := ["self"]
theorem sc_m_how_many_numbers : FnScope N_m_how_many_numbers P_m_how_many_numbers (defScope s_m_how_many_numbers) := ⟨rfl, rfl, rfl, by decide +kernel, rfl, by decide +kernel, by decide +kernel⟩
abbrev s_m_places : Stmt := inClass (top 25) 6
abbrev N_m_places : List Str := ["self", "picture"]
abbrev P_m_places : List Str := ["self", "picture"]
theorem sc_m_places : FnScope N_m_places P_m_places (defScope s_m_places) := ⟨rfl, rfl, rfl, by decide +kernel, rfl, by decide +kernel, by decide +kernel⟩
abbrev s_m_now : Stmt := inClass (top 25) 7
abbrev N_m_now : List Str := ["self"]
abbrev P_m_now : List Str := ["self"]
theorem sc_m_now : FnScope N_m_now P_m_now (defScope s_m_now) := ⟨rfl, rfl, rfl, by decide +kernel, rfl, by decide +kernel, by decide +kernel⟩
abbrev s_m_begins : Stmt := inClass (top 25) 8
abbrev N_m_begins : List Str := ["self", "digits"]
abbrev P_m_begins : List Str := ["self", "digits"]
theorem sc_m_begins : FnScope N_m_begins P_m_begins (defScope s_m_begins) := ⟨rfl, rfl, rfl, by decide +kernel, rfl, by decide +kernel, by decide +kernel⟩
abbrev s_m_can_be_seen : Stmt := inClass (top 25) 9
abbrev N_m_can_be_seen : List Str := ["self", "seconds", "lit"]
abbrev P_m_can_be_seen : List Str := ["self", "seconds", "lit"]
theorem sc_m_can_be_seen : FnScope N_m_can_be_seen P_m_can_be_seen (defScope s_m_can_be_seen) := ⟨rfl, rfl, rfl, by decide +kernel, rfl, by decide +kernel, by decide +kernel⟩
abbrev s_m_sees : Stmt := inClass (top 25) 10
abbrev N_m_sees : List Str := ["self", "seconds", "lit"]
abbrev P_m_sees : List Str := ["self", "seconds", "lit"]
theorem sc_m_sees : FnScope N_m_sees P_m_sees (defScope s_m_sees) := ⟨rfl, rfl, rfl, by decide +kernel, rfl, by decide +kernel, by decide +kernel⟩
abbrev s_m_undo : Stmt := inClass (top 25) 11
abbrev N_m_undo : List Str := ["self"]
abbrev P_m_undo : List Str := ["self"]
theorem sc_m_undo : FnScope N_m_undo P_m_undo (defScope s_m_undo) := ⟨rfl, rfl, rfl, by decide +kernel, rfl, by decide +kernel, by decide +kernel⟩
abbrev s_m_may : Stmt := inClass (top 25) 12
abbrev N_m_may : List Str := ["self", "k", "numbers"]
abbrev P_m_may : List Str := ["self", "k"]
theorem sc_m_may : FnScope N_m_may P_m_may (defScope s_m_may) := ⟨rfl, rfl, rfl, by decide +kernel, rfl, by decide +kernel, by decide +kernel⟩
abbrev s_m_likely : Stmt := inClass (top 25) 13
abbrev N_m_likely : List Str := ["self", "k", "breaks", "number", "broken", "least", "numbers"]
abbrev P_m_likely : List Str := ["self", "k"]
theorem sc_m_likely : FnScope N_m_likely P_m_likely (defScope s_m_likely) := ⟨rfl, rfl, rfl, by decide +kernel, rfl, by decide +kernel, by decide +kernel⟩
abbrev s_m_guess : Stmt := inClass (top 25) 14
abbrev N_m_guess : List Str := ["self", "number", "broken"]
abbrev P_m_guess : List Str := ["self", "number"]
theorem sc_m_guess : FnScope N_m_guess P_m_guess (defScope s_m_guess) := ⟨rfl, rfl, rfl, by decide +kernel, rfl, by decide +kernel, by decide +kernel⟩
abbrev s_m_states_of : Stmt := inClass (top 25) 15
abbrev N_m_states_of : List Str := ["self", "place", "stroke", "states"]
abbrev P_m_states_of : List Str := ["self", "place", "stroke"]
theorem sc_m_states_of : FnScope N_m_states_of P_m_states_of (defScope s_m_states_of) := ⟨rfl, rfl, rfl, by decide +kernel, rfl, by decide +kernel, by decide +kernel⟩
abbrev s_m_sure : Stmt := inClass (top 25) 16
abbrev N_m_sure : List Str := ["self", "broken"]
abbrev P_m_sure : List Str := ["self"]
theorem sc_m_sure : FnScope N_m_sure P_m_sure (defScope s_m_sure) := ⟨rfl, rfl, rfl, by decide +kernel, rfl, by decide +kernel, by decide +kernel⟩
abbrev s_m_will_show : Stmt := inClass (top 25) 17
abbrev N_m_will_show : List Str := ["self", "seconds", "lit", "dark", "either"]
abbrev P_m_will_show : List Str := ["self", "seconds"]
theorem sc_m_will_show : FnScope N_m_will_show P_m_will_show (defScope s_m_will_show) := ⟨rfl, rfl, rfl, by decide +kernel, rfl, by decide +kernel, by decide +kernel⟩
abbrev s_m_apart : Stmt := inClass (top 25) 18
abbrev N_m_apart : List Str := ["self", "number", "other", "seconds"]
abbrev P_m_apart : List Str := ["self", "number", "other", "seconds"]
theorem sc_m_apart : FnScope N_m_apart P_m_apart (defScope s_m_apart) := ⟨rfl, rfl, rfl, by decide +kernel, rfl, by decide +kernel, by decide +kernel⟩
abbrev s_m_shown : Stmt := inClass (top 25) 19
abbrev N_m_shown : List Str := ["self", "number", "seconds", "count"]
abbrev P_m_shown : List Str := ["self", "number", "seconds"]
theorem sc_m_shown : FnScope N_m_shown P_m_shown (defScope s_m_shown) := ⟨rfl, rfl, rfl, by decide +kernel, rfl, by decide +kernel, by decide +kernel⟩
abbrev s_m_state : Stmt := inClass (top 25) 20
abbrev N_m_state : List Str := ["self", "told", "time", "lit"]
abbrev P_m_state : List Str := ["self"]
theorem sc_m_state : FnScope N_m_state P_m_state (defScope s_m_state) := ⟨rfl, rfl, rfl, by decide +kernel, rfl, by decide +kernel, by decide +kernel⟩
abbrev s_end_of_call : Stmt := top 39
abbrev N_end_of_call : List Str := ["calls", "start", "call", "end"]
abbrev P_end_of_call : List Str := ["calls", "start"]
theorem sc_end_of_call : FnScope N_end_of_call P_end_of_call (defScope s_end_of_call) := ⟨rfl, rfl, rfl, by decide +kernel, rfl, by decide +kernel, by decide +kernel⟩
abbrev s_answer_to : Stmt := top 40
abbrev N_answer_to : List Str := ["counter", "call", "handed"]
abbrev P_answer_to : List Str := ["counter", "call", "handed"]
theorem sc_answer_to : FnScope N_answer_to P_answer_to (defScope s_answer_to) := ⟨rfl, rfl, rfl, by decide +kernel, rfl, by decide +kernel, by decide +kernel⟩
abbrev s_answers : Stmt := top 41
abbrev N_answers : List Str := ["calls", "counter", "told", "start", "end", "answer"]
abbrev P_answers : List Str := ["calls"]
theorem sc_answers : FnScope N_answers P_answers (defScope s_answers) := ⟨rfl, rfl, rfl, by decide +kernel, rfl, by decide +kernel, by decide +kernel⟩
/-- what the top has written -/
structure Txt (K : PySem.W.Frag) (mg : Str → Option Value) where
  C2 : Addr
  C : Addr
  f_picture_of : Addr
  fd_picture_of : FuncData
  F_picture_of : Fun K "picture_of" "picture_of" s_picture_of f_picture_of fd_picture_of
  g_picture_of : mg "picture_of" = some (.ref f_picture_of)
  f_places_of : Addr
  fd_places_of : FuncData
  F_places_of : Fun K "places_of" "places_of" s_places_of f_places_of fd_places_of
  g_places_of : mg "places_of" = some (.ref f_places_of)
  f_whole_picture : Addr
  fd_whole_picture : FuncData
  F_whole_picture : Fun K "whole_picture" "whole_picture" s_whole_picture f_whole_picture fd_whole_picture
  g_whole_picture : mg "whole_picture" = some (.ref f_whole_picture)
  f_stroke_alone : Addr
  fd_stroke_alone : FuncData
  F_stroke_alone : Fun K "stroke_alone" "stroke_alone" s_stroke_alone f_stroke_alone fd_stroke_alone
  g_stroke_alone : mg "stroke_alone" = some (.ref f_stroke_alone)
  f_should_light : Addr
  fd_should_light : FuncData
  F_should_light : Fun K "should_light" "should_light" s_should_light f_should_light fd_should_light
  g_should_light : mg "should_light" = some (.ref f_should_light)
  f_all_pictures : Addr
  fd_all_pictures : FuncData
  F_all_pictures : Fun K "all_pictures" "all_pictures" s_all_pictures f_all_pictures fd_all_pictures
  g_all_pictures : mg "all_pictures" = some (.ref f_all_pictures)
  f_how_many_strokes : Addr
  fd_how_many_strokes : FuncData
  F_how_many_strokes : Fun K "how_many_strokes" "how_many_strokes" s_how_many_strokes f_how_many_strokes fd_how_many_strokes
  g_how_many_strokes : mg "how_many_strokes" = some (.ref f_how_many_strokes)
  f_lit_in_all : Addr
  fd_lit_in_all : FuncData
  F_lit_in_all : Fun K "lit_in_all" "lit_in_all" s_lit_in_all f_lit_in_all fd_lit_in_all
  g_lit_in_all : mg "lit_in_all" = some (.ref f_lit_in_all)
  f_dark_in_all : Addr
  fd_dark_in_all : FuncData
  F_dark_in_all : Fun K "dark_in_all" "dark_in_all" s_dark_in_all f_dark_in_all fd_dark_in_all
  g_dark_in_all : mg "dark_in_all" = some (.ref f_dark_in_all)
  f_count_at : Addr
  fd_count_at : FuncData
  F_count_at : Fun K "count_at" "count_at" s_count_at f_count_at fd_count_at
  g_count_at : mg "count_at" = some (.ref f_count_at)
  f_wrong_strokes : Addr
  fd_wrong_strokes : FuncData
  F_wrong_strokes : Fun K "wrong_strokes" "wrong_strokes" s_wrong_strokes f_wrong_strokes fd_wrong_strokes
  g_wrong_strokes : mg "wrong_strokes" = some (.ref f_wrong_strokes)
  f_broken_by_number : Addr
  fd_broken_by_number : FuncData
  F_broken_by_number : Fun K "broken_by_number" "broken_by_number" s_broken_by_number f_broken_by_number fd_broken_by_number
  g_broken_by_number : mg "broken_by_number" = some (.ref f_broken_by_number)
  f_x_init : Addr
  fd_x_init : FuncData
  F_x_init : Fun K "__init__" "Explanations.__init__" s_x_init f_x_init fd_x_init
  f_x_has_none : Addr
  fd_x_has_none : FuncData
  F_x_has_none : Fun K "has_none" "Explanations.has_none" s_x_has_none f_x_has_none fd_x_has_none
  mt_x_has_none : Meth K C2 "has_none" f_x_has_none
  f_x_surely_broken : Addr
  fd_x_surely_broken : FuncData
  F_x_surely_broken : Fun K "surely_broken" "Explanations.surely_broken" s_x_surely_broken f_x_surely_broken fd_x_surely_broken
  mt_x_surely_broken : Meth K C2 "surely_broken" f_x_surely_broken
  f_x_states : Addr
  fd_x_states : FuncData
  F_x_states : Fun K "states" "Explanations.states" s_x_states f_x_states fd_x_states
  mt_x_states : Meth K C2 "states" f_x_states
  f_x_should_show : Addr
  fd_x_should_show : FuncData
  F_x_should_show : Fun K "should_show" "Explanations.should_show" s_x_should_show f_x_should_show fd_x_should_show
  mt_x_should_show : Meth K C2 "should_show" f_x_should_show
  f_x_can_be_lit : Addr
  fd_x_can_be_lit : FuncData
  F_x_can_be_lit : Fun K "can_be_lit" "Explanations.can_be_lit" s_x_can_be_lit f_x_can_be_lit fd_x_can_be_lit
  mt_x_can_be_lit : Meth K C2 "can_be_lit" f_x_can_be_lit
  f_x_can_be_dark : Addr
  fd_x_can_be_dark : FuncData
  F_x_can_be_dark : Fun K "can_be_dark" "Explanations.can_be_dark" s_x_can_be_dark f_x_can_be_dark fd_x_can_be_dark
  mt_x_can_be_dark : Meth K C2 "can_be_dark" f_x_can_be_dark
  f_x_are_apart : Addr
  fd_x_are_apart : FuncData
  F_x_are_apart : Fun K "are_apart" "Explanations.are_apart" s_x_are_apart f_x_are_apart fd_x_are_apart
  mt_x_are_apart : Meth K C2 "are_apart" f_x_are_apart
  f_answer_with : Addr
  fd_answer_with : FuncData
  F_answer_with : Fun K "answer_with" "answer_with" s_answer_with f_answer_with fd_answer_with
  g_answer_with : mg "answer_with" = some (.ref f_answer_with)
  f_behind_others : Addr
  fd_behind_others : FuncData
  F_behind_others : Fun K "behind_others" "behind_others" s_behind_others f_behind_others fd_behind_others
  g_behind_others : mg "behind_others" = some (.ref f_behind_others)
  f_m_init : Addr
  fd_m_init : FuncData
  F_m_init : Fun K "__init__" "WatchedCounter.__init__" s_m_init f_m_init fd_m_init
  f_m_make_new : Addr
  fd_m_make_new : FuncData
  F_m_make_new : Fun K "make_new" "WatchedCounter.make_new" s_m_make_new f_m_make_new fd_m_make_new
  mt_m_make_new : Meth K C "make_new" f_m_make_new
  f_m_explain : Addr
  fd_m_explain : FuncData
  F_m_explain : Fun K "explain" "WatchedCounter.explain" s_m_explain f_m_explain fd_m_explain
  mt_m_explain : Meth K C "explain" f_m_explain
  f_m_there_is : Addr
  fd_m_there_is : FuncData
  F_m_there_is : Fun K "there_is" "WatchedCounter.there_is" s_m_there_is f_m_there_is fd_m_there_is
  mt_m_there_is : Meth K C "there_is" f_m_there_is
  f_m_may_begin_with : Addr
  fd_m_may_begin_with : FuncData
  F_m_may_begin_with : Fun K "may_begin_with" "WatchedCounter.may_begin_with" s_m_may_begin_with f_m_may_begin_with fd_m_may_begin_with
  mt_m_may_begin_with : Meth K C "may_begin_with" f_m_may_begin_with
  f_m_how_many_numbers : Addr
  fd_m_how_many_numbers : FuncData
  F_m_how_many_numbers : Fun K "how_many_numbers" "WatchedCounter.how_many_numbers" s_m_how_many_numbers f_m_how_many_numbers fd_m_how_many_numbers
  mt_m_how_many_numbers : Meth K C "how_many_numbers" f_m_how_many_numbers
  f_m_places : Addr
  fd_m_places : FuncData
  F_m_places : Fun K "places" "WatchedCounter.places" s_m_places f_m_places fd_m_places
  mt_m_places : Meth K C "places" f_m_places
  f_m_now : Addr
  fd_m_now : FuncData
  F_m_now : Fun K "now" "WatchedCounter.now" s_m_now f_m_now fd_m_now
  mt_m_now : Meth K C "now" f_m_now
  f_m_begins : Addr
  fd_m_begins : FuncData
  F_m_begins : Fun K "begins" "WatchedCounter.begins" s_m_begins f_m_begins fd_m_begins
  mt_m_begins : Meth K C "begins" f_m_begins
  f_m_can_be_seen : Addr
  fd_m_can_be_seen : FuncData
  F_m_can_be_seen : Fun K "can_be_seen" "WatchedCounter.can_be_seen" s_m_can_be_seen f_m_can_be_seen fd_m_can_be_seen
  mt_m_can_be_seen : Meth K C "can_be_seen" f_m_can_be_seen
  f_m_sees : Addr
  fd_m_sees : FuncData
  F_m_sees : Fun K "sees" "WatchedCounter.sees" s_m_sees f_m_sees fd_m_sees
  mt_m_sees : Meth K C "sees" f_m_sees
  f_m_undo : Addr
  fd_m_undo : FuncData
  F_m_undo : Fun K "undo" "WatchedCounter.undo" s_m_undo f_m_undo fd_m_undo
  mt_m_undo : Meth K C "undo" f_m_undo
  f_m_may : Addr
  fd_m_may : FuncData
  F_m_may : Fun K "may" "WatchedCounter.may" s_m_may f_m_may fd_m_may
  mt_m_may : Meth K C "may" f_m_may
  f_m_likely : Addr
  fd_m_likely : FuncData
  F_m_likely : Fun K "likely" "WatchedCounter.likely" s_m_likely f_m_likely fd_m_likely
  mt_m_likely : Meth K C "likely" f_m_likely
  f_m_guess : Addr
  fd_m_guess : FuncData
  F_m_guess : Fun K "guess" "WatchedCounter.guess" s_m_guess f_m_guess fd_m_guess
  mt_m_guess : Meth K C "guess" f_m_guess
  f_m_states_of : Addr
  fd_m_states_of : FuncData
  F_m_states_of : Fun K "states_of" "WatchedCounter.states_of" s_m_states_of f_m_states_of fd_m_states_of
  mt_m_states_of : Meth K C "states_of" f_m_states_of
  f_m_sure : Addr
  fd_m_sure : FuncData
  F_m_sure : Fun K "sure" "WatchedCounter.sure" s_m_sure f_m_sure fd_m_sure
  mt_m_sure : Meth K C "sure" f_m_sure
  f_m_will_show : Addr
  fd_m_will_show : FuncData
  F_m_will_show : Fun K "will_show" "WatchedCounter.will_show" s_m_will_show f_m_will_show fd_m_will_show
  mt_m_will_show : Meth K C "will_show" f_m_will_show
  f_m_apart : Addr
  fd_m_apart : FuncData
  F_m_apart : Fun K "apart" "WatchedCounter.apart" s_m_apart f_m_apart fd_m_apart
  mt_m_apart : Meth K C "apart" f_m_apart
  f_m_shown : Addr
  fd_m_shown : FuncData
  F_m_shown : Fun K "shown" "WatchedCounter.shown" s_m_shown f_m_shown fd_m_shown
  mt_m_shown : Meth K C "shown" f_m_shown
  f_m_state : Addr
  fd_m_state : FuncData
  F_m_state : Fun K "state" "WatchedCounter.state" s_m_state f_m_state fd_m_state
  mt_m_state : Meth K C "state" f_m_state
  f_end_of_call : Addr
  fd_end_of_call : FuncData
  F_end_of_call : Fun K "end_of_call" "end_of_call" s_end_of_call f_end_of_call fd_end_of_call
  g_end_of_call : mg "end_of_call" = some (.ref f_end_of_call)
  f_answer_to : Addr
  fd_answer_to : FuncData
  F_answer_to : Fun K "answer_to" "answer_to" s_answer_to f_answer_to fd_answer_to
  g_answer_to : mg "answer_to" = some (.ref f_answer_to)
  f_answers : Addr
  fd_answers : FuncData
  F_answers : Fun K "answers" "answers" s_answers f_answers fd_answers
  g_answers : mg "answers" = some (.ref f_answers)
  cl2 : Cls K C2
  mkI2 : Mk K C2 f_x_init
  n2_pictures : NoAttr K C2 "pictures"
  n2_whole : NoAttr K C2 "whole"
  n2_always_lit : NoAttr K C2 "always_lit"
  n2_never_lit : NoAttr K C2 "never_lit"
  n2_working : NoAttr K C2 "working"
  n2_broken : NoAttr K C2 "broken"
  gC2 : mg "Explanations" = some (.ref C2)
  cl : Cls K C
  mkI : Mk K C f_m_init
  n_digits : NoAttr K C "digits"
  n_pictures : NoAttr K C "pictures"
  n_sights : NoAttr K C "sights"
  n_explained : NoAttr K C "explained"
  gC : mg "WatchedCounter" = some (.ref C)
  c_STROKES : ∃ t, mg "STROKES" = some (.int 7 t)
  c_ALL_STROKES : ∃ t, mg "ALL_STROKES" = some (.int 127 t)
  a_DIGIT_STROKES : Addr
  c_DIGIT_STROKES : mg "DIGIT_STROKES" = some (.ref a_DIGIT_STROKES)
  q_DIGIT_STROKES : ∀ H : Hp, SqT K H a_DIGIT_STROKES ([119, 36, 93, 109, 46, 107, 123, 37, 127, 111].map V.int)
  a_HOW_MANY_NUMBERS : Addr
  c_HOW_MANY_NUMBERS : mg "HOW_MANY_NUMBERS" = some (.ref a_HOW_MANY_NUMBERS)
  q_HOW_MANY_NUMBERS : ∀ H : Hp, SqT K H a_HOW_MANY_NUMBERS ([1, 10, 100, 1000].map V.int)
  c_MOST_DIGITS : ∃ t, mg "MOST_DIGITS" = some (.int 3 t)
  c_MOST_SECONDS : ∃ t, mg "MOST_SECONDS" = some (.int 10000 t)
  c_MOST_SIGHTS : ∃ t, mg "MOST_SIGHTS" = some (.int 8 t)
  c_BEGINS : ∃ t, mg "BEGINS" = some (.int 0 t)
  c_SEES : ∃ t, mg "SEES" = some (.int 1 t)
  c_UNDO : ∃ t, mg "UNDO" = some (.int 2 t)
  c_MAY : ∃ t, mg "MAY" = some (.int 3 t)
  c_LIKELY : ∃ t, mg "LIKELY" = some (.int 4 t)
  c_GUESS : ∃ t, mg "GUESS" = some (.int 5 t)
  c_STROKE : ∃ t, mg "STROKE" = some (.int 6 t)
  c_SURE : ∃ t, mg "SURE" = some (.int 7 t)
  c_NEXT : ∃ t, mg "NEXT" = some (.int 8 t)
  c_APART : ∃ t, mg "APART" = some (.int 9 t)
  c_SHOWN : ∃ t, mg "SHOWN" = some (.int 10 t)
  a_HANDED_NUMBERS : Addr
  c_HANDED_NUMBERS : mg "HANDED_NUMBERS" = some (.ref a_HANDED_NUMBERS)
  q_HANDED_NUMBERS : ∀ H : Hp, SqT K H a_HANDED_NUMBERS ([1, 1, 0, 1, 1, 1, 2, 0, 1, 3, 2, 0].map V.int)
  b_int : mg "int" = none
  b_len : mg "len" = none
  b_list : mg "list" = none
  b_max : mg "max" = none
  b_min : mg "min" = none
  b_range : mg "range" = none
  b_str : mg "str" = none
section
variable {K : PySem.W.Frag} {mg : Str → Option Value}
theorem Txt.bn_picture_of (T : Txt K mg) : Binds K T.fd_picture_of P_picture_of [] := T.F_picture_of.binds fun _ _ _ _ _ _ us hl => match us, hl with | [_], _ => rfl
theorem Txt.k_picture_of (T : Txt K mg) : PySem.W.keepIn K (.ref T.f_picture_of) = true := T.F_picture_of.kp
theorem Txt.bn_places_of (T : Txt K mg) : Binds K T.fd_places_of P_places_of [] := T.F_places_of.binds fun _ _ _ _ _ _ us hl => match us, hl with | [_, _], _ => rfl
theorem Txt.k_places_of (T : Txt K mg) : PySem.W.keepIn K (.ref T.f_places_of) = true := T.F_places_of.kp
theorem Txt.bn_whole_picture (T : Txt K mg) : Binds K T.fd_whole_picture P_whole_picture [] := T.F_whole_picture.binds fun _ _ _ _ _ _ us hl => match us, hl with | [_], _ => rfl
theorem Txt.k_whole_picture (T : Txt K mg) : PySem.W.keepIn K (.ref T.f_whole_picture) = true := T.F_whole_picture.kp
theorem Txt.bn_stroke_alone (T : Txt K mg) : Binds K T.fd_stroke_alone P_stroke_alone [] := T.F_stroke_alone.binds fun _ _ _ _ _ _ us hl => match us, hl with | [_, _, _], _ => rfl
theorem Txt.k_stroke_alone (T : Txt K mg) : PySem.W.keepIn K (.ref T.f_stroke_alone) = true := T.F_stroke_alone.kp
theorem Txt.bn_should_light (T : Txt K mg) : Binds K T.fd_should_light P_should_light [] := T.F_should_light.binds fun _ _ _ _ _ _ us hl => match us, hl with | [_, _], _ => rfl
theorem Txt.k_should_light (T : Txt K mg) : PySem.W.keepIn K (.ref T.f_should_light) = true := T.F_should_light.kp
theorem Txt.bn_all_pictures (T : Txt K mg) : Binds K T.fd_all_pictures P_all_pictures [] := T.F_all_pictures.binds fun _ _ _ _ _ _ us hl => match us, hl with | [_], _ => rfl
theorem Txt.k_all_pictures (T : Txt K mg) : PySem.W.keepIn K (.ref T.f_all_pictures) = true := T.F_all_pictures.kp
theorem Txt.bn_how_many_strokes (T : Txt K mg) : Binds K T.fd_how_many_strokes P_how_many_strokes [] := T.F_how_many_strokes.binds fun _ _ _ _ _ _ us hl => match us, hl with | [_], _ => rfl
theorem Txt.k_how_many_strokes (T : Txt K mg) : PySem.W.keepIn K (.ref T.f_how_many_strokes) = true := T.F_how_many_strokes.kp
theorem Txt.bn_lit_in_all (T : Txt K mg) : Binds K T.fd_lit_in_all P_lit_in_all [] := T.F_lit_in_all.binds fun _ _ _ _ _ _ us hl => match us, hl with | [_, _], _ => rfl
theorem Txt.k_lit_in_all (T : Txt K mg) : PySem.W.keepIn K (.ref T.f_lit_in_all) = true := T.F_lit_in_all.kp
theorem Txt.bn_dark_in_all (T : Txt K mg) : Binds K T.fd_dark_in_all P_dark_in_all [] := T.F_dark_in_all.binds fun _ _ _ _ _ _ us hl => match us, hl with | [_, _], _ => rfl
theorem Txt.k_dark_in_all (T : Txt K mg) : PySem.W.keepIn K (.ref T.f_dark_in_all) = true := T.F_dark_in_all.kp
theorem Txt.bn_count_at (T : Txt K mg) : Binds K T.fd_count_at P_count_at [] := T.F_count_at.binds fun _ _ _ _ _ _ us hl => match us, hl with | [_, _, _], _ => rfl
theorem Txt.k_count_at (T : Txt K mg) : PySem.W.keepIn K (.ref T.f_count_at) = true := T.F_count_at.kp
theorem Txt.bn_wrong_strokes (T : Txt K mg) : Binds K T.fd_wrong_strokes P_wrong_strokes [] := T.F_wrong_strokes.binds fun _ _ _ _ _ _ us hl => match us, hl with | [_, _, _], _ => rfl
theorem Txt.k_wrong_strokes (T : Txt K mg) : PySem.W.keepIn K (.ref T.f_wrong_strokes) = true := T.F_wrong_strokes.kp
theorem Txt.bn_broken_by_number (T : Txt K mg) : Binds K T.fd_broken_by_number P_broken_by_number [] := T.F_broken_by_number.binds fun _ _ _ _ _ _ us hl => match us, hl with | [_, _, _], _ => rfl
theorem Txt.k_broken_by_number (T : Txt K mg) : PySem.W.keepIn K (.ref T.f_broken_by_number) = true := T.F_broken_by_number.kp
theorem Txt.bn_x_init (T : Txt K mg) : Binds K T.fd_x_init P_x_init [] := T.F_x_init.binds fun _ _ _ _ _ _ us hl => match us, hl with | [_, _, _, _], _ => rfl
theorem Txt.k_x_init (T : Txt K mg) : PySem.W.keepIn K (.ref T.f_x_init) = true := T.F_x_init.kp
theorem Txt.bn_x_has_none (T : Txt K mg) : Binds K T.fd_x_has_none P_x_has_none [] := T.F_x_has_none.binds fun _ _ _ _ _ _ us hl => match us, hl with | [_], _ => rfl
theorem Txt.k_x_has_none (T : Txt K mg) : PySem.W.keepIn K (.ref T.f_x_has_none) = true := T.F_x_has_none.kp
theorem Txt.bn_x_surely_broken (T : Txt K mg) : Binds K T.fd_x_surely_broken P_x_surely_broken [] := T.F_x_surely_broken.binds fun _ _ _ _ _ _ us hl => match us, hl with | [_], _ => rfl
theorem Txt.k_x_surely_broken (T : Txt K mg) : PySem.W.keepIn K (.ref T.f_x_surely_broken) = true := T.F_x_surely_broken.kp
theorem Txt.bn_x_states (T : Txt K mg) : Binds K T.fd_x_states P_x_states [] := T.F_x_states.binds fun _ _ _ _ _ _ us hl => match us, hl with | [_, _], _ => rfl
theorem Txt.k_x_states (T : Txt K mg) : PySem.W.keepIn K (.ref T.f_x_states) = true := T.F_x_states.kp
theorem Txt.bn_x_should_show (T : Txt K mg) : Binds K T.fd_x_should_show P_x_should_show [] := T.F_x_should_show.binds fun _ _ _ _ _ _ us hl => match us, hl with | [_, _, _], _ => rfl
theorem Txt.k_x_should_show (T : Txt K mg) : PySem.W.keepIn K (.ref T.f_x_should_show) = true := T.F_x_should_show.kp
theorem Txt.bn_x_can_be_lit (T : Txt K mg) : Binds K T.fd_x_can_be_lit P_x_can_be_lit [] := T.F_x_can_be_lit.binds fun _ _ _ _ _ _ us hl => match us, hl with | [_, _], _ => rfl
theorem Txt.k_x_can_be_lit (T : Txt K mg) : PySem.W.keepIn K (.ref T.f_x_can_be_lit) = true := T.F_x_can_be_lit.kp
theorem Txt.bn_x_can_be_dark (T : Txt K mg) : Binds K T.fd_x_can_be_dark P_x_can_be_dark [] := T.F_x_can_be_dark.binds fun _ _ _ _ _ _ us hl => match us, hl with | [_, _], _ => rfl
theorem Txt.k_x_can_be_dark (T : Txt K mg) : PySem.W.keepIn K (.ref T.f_x_can_be_dark) = true := T.F_x_can_be_dark.kp
theorem Txt.bn_x_are_apart (T : Txt K mg) : Binds K T.fd_x_are_apart P_x_are_apart [] := T.F_x_are_apart.binds fun _ _ _ _ _ _ us hl => match us, hl with | [_, _, _, _], _ => rfl
theorem Txt.k_x_are_apart (T : Txt K mg) : PySem.W.keepIn K (.ref T.f_x_are_apart) = true := T.F_x_are_apart.kp
theorem Txt.bn_answer_with (T : Txt K mg) : Binds K T.fd_answer_with P_answer_with [] := T.F_answer_with.binds fun _ _ _ _ _ _ us hl => match us, hl with | [_, _], _ => rfl
theorem Txt.k_answer_with (T : Txt K mg) : PySem.W.keepIn K (.ref T.f_answer_with) = true := T.F_answer_with.kp
theorem Txt.bn_behind_others (T : Txt K mg) : Binds K T.fd_behind_others P_behind_others [] := T.F_behind_others.binds fun _ _ _ _ _ _ us hl => match us, hl with | [_, _], _ => rfl
theorem Txt.k_behind_others (T : Txt K mg) : PySem.W.keepIn K (.ref T.f_behind_others) = true := T.F_behind_others.kp
theorem Txt.bn_m_init (T : Txt K mg) : Binds K T.fd_m_init P_m_init [] := T.F_m_init.binds fun _ _ _ _ _ _ us hl => match us, hl with | [_], _ => rfl
theorem Txt.k_m_init (T : Txt K mg) : PySem.W.keepIn K (.ref T.f_m_init) = true := T.F_m_init.kp
theorem Txt.bn_m_make_new (T : Txt K mg) : Binds K T.fd_m_make_new P_m_make_new [] := T.F_m_make_new.binds fun _ _ _ _ _ _ us hl => match us, hl with | [_, _], _ => rfl
theorem Txt.k_m_make_new (T : Txt K mg) : PySem.W.keepIn K (.ref T.f_m_make_new) = true := T.F_m_make_new.kp
theorem Txt.bn_m_explain (T : Txt K mg) : Binds K T.fd_m_explain P_m_explain [] := T.F_m_explain.binds fun _ _ _ _ _ _ us hl => match us, hl with | [_], _ => rfl
theorem Txt.k_m_explain (T : Txt K mg) : PySem.W.keepIn K (.ref T.f_m_explain) = true := T.F_m_explain.kp
theorem Txt.bn_m_there_is (T : Txt K mg) : Binds K T.fd_m_there_is P_m_there_is [] := T.F_m_there_is.binds fun _ _ _ _ _ _ us hl => match us, hl with | [_, _], _ => rfl
theorem Txt.k_m_there_is (T : Txt K mg) : PySem.W.keepIn K (.ref T.f_m_there_is) = true := T.F_m_there_is.kp
theorem Txt.bn_m_may_begin_with (T : Txt K mg) : Binds K T.fd_m_may_begin_with P_m_may_begin_with [] := T.F_m_may_begin_with.binds fun _ _ _ _ _ _ us hl => match us, hl with | [_, _], _ => rfl
theorem Txt.k_m_may_begin_with (T : Txt K mg) : PySem.W.keepIn K (.ref T.f_m_may_begin_with) = true := T.F_m_may_begin_with.kp
theorem Txt.bn_m_how_many_numbers (T : Txt K mg) : Binds K T.fd_m_how_many_numbers P_m_how_many_numbers [] := T.F_m_how_many_numbers.binds fun _ _ _ _ _ _ us hl => match us, hl with | [_], _ => rfl
theorem Txt.k_m_how_many_numbers (T : Txt K mg) : PySem.W.keepIn K (.ref T.f_m_how_many_numbers) = true := T.F_m_how_many_numbers.kp
theorem Txt.bn_m_places (T : Txt K mg) : Binds K T.fd_m_places P_m_places [] := T.F_m_places.binds fun _ _ _ _ _ _ us hl => match us, hl with | [_, _], _ => rfl
theorem Txt.k_m_places (T : Txt K mg) : PySem.W.keepIn K (.ref T.f_m_places) = true := T.F_m_places.kp
theorem Txt.bn_m_now (T : Txt K mg) : Binds K T.fd_m_now P_m_now [] := T.F_m_now.binds fun _ _ _ _ _ _ us hl => match us, hl with | [_], _ => rfl
theorem Txt.k_m_now (T : Txt K mg) : PySem.W.keepIn K (.ref T.f_m_now) = true := T.F_m_now.kp
theorem Txt.bn_m_begins (T : Txt K mg) : Binds K T.fd_m_begins P_m_begins [] := T.F_m_begins.binds fun _ _ _ _ _ _ us hl => match us, hl with | [_, _], _ => rfl
theorem Txt.k_m_begins (T : Txt K mg) : PySem.W.keepIn K (.ref T.f_m_begins) = true := T.F_m_begins.kp
theorem Txt.bn_m_can_be_seen (T : Txt K mg) : Binds K T.fd_m_can_be_seen P_m_can_be_seen [] := T.F_m_can_be_seen.binds fun _ _ _ _ _ _ us hl => match us, hl with | [_, _, _], _ => rfl
theorem Txt.k_m_can_be_seen (T : Txt K mg) : PySem.W.keepIn K (.ref T.f_m_can_be_seen) = true := T.F_m_can_be_seen.kp
theorem Txt.bn_m_sees (T : Txt K mg) : Binds K T.fd_m_sees P_m_sees [] := T.F_m_sees.binds fun _ _ _ _ _ _ us hl => match us, hl with | [_, _, _], _ => rfl
theorem Txt.k_m_sees (T : Txt K mg) : PySem.W.keepIn K (.ref T.f_m_sees) = true := T.F_m_sees.kp
theorem Txt.bn_m_undo (T : Txt K mg) : Binds K T.fd_m_undo P_m_undo [] := T.F_m_undo.binds fun _ _ _ _ _ _ us hl => match us, hl with | [_], _ => rfl
theorem Txt.k_m_undo (T : Txt K mg) : PySem.W.keepIn K (.ref T.f_m_undo) = true := T.F_m_undo.kp
theorem Txt.bn_m_may (T : Txt K mg) : Binds K T.fd_m_may P_m_may [] := T.F_m_may.binds fun _ _ _ _ _ _ us hl => match us, hl with | [_, _], _ => rfl
theorem Txt.k_m_may (T : Txt K mg) : PySem.W.keepIn K (.ref T.f_m_may) = true := T.F_m_may.kp
theorem Txt.bn_m_likely (T : Txt K mg) : Binds K T.fd_m_likely P_m_likely [] := T.F_m_likely.binds fun _ _ _ _ _ _ us hl => match us, hl with | [_, _], _ => rfl
theorem Txt.k_m_likely (T : Txt K mg) : PySem.W.keepIn K (.ref T.f_m_likely) = true := T.F_m_likely.kp
theorem Txt.bn_m_guess (T : Txt K mg) : Binds K T.fd_m_guess P_m_guess [] := T.F_m_guess.binds fun _ _ _ _ _ _ us hl => match us, hl with | [_, _], _ => rfl
theorem Txt.k_m_guess (T : Txt K mg) : PySem.W.keepIn K (.ref T.f_m_guess) = true := T.F_m_guess.kp
theorem Txt.bn_m_states_of (T : Txt K mg) : Binds K T.fd_m_states_of P_m_states_of [] := T.F_m_states_of.binds fun _ _ _ _ _ _ us hl => match us, hl with | [_, _, _], _ => rfl
theorem Txt.k_m_states_of (T : Txt K mg) : PySem.W.keepIn K (.ref T.f_m_states_of) = true := T.F_m_states_of.kp
theorem Txt.bn_m_sure (T : Txt K mg) : Binds K T.fd_m_sure P_m_sure [] := T.F_m_sure.binds fun _ _ _ _ _ _ us hl => match us, hl with | [_], _ => rfl
theorem Txt.k_m_sure (T : Txt K mg) : PySem.W.keepIn K (.ref T.f_m_sure) = true := T.F_m_sure.kp
theorem Txt.bn_m_will_show (T : Txt K mg) : Binds K T.fd_m_will_show P_m_will_show [] := T.F_m_will_show.binds fun _ _ _ _ _ _ us hl => match us, hl with | [_, _], _ => rfl
theorem Txt.k_m_will_show (T : Txt K mg) : PySem.W.keepIn K (.ref T.f_m_will_show) = true := T.F_m_will_show.kp
theorem Txt.bn_m_apart (T : Txt K mg) : Binds K T.fd_m_apart P_m_apart [] := T.F_m_apart.binds fun _ _ _ _ _ _ us hl => match us, hl with | [_, _, _, _], _ => rfl
theorem Txt.k_m_apart (T : Txt K mg) : PySem.W.keepIn K (.ref T.f_m_apart) = true := T.F_m_apart.kp
theorem Txt.bn_m_shown (T : Txt K mg) : Binds K T.fd_m_shown P_m_shown [] := T.F_m_shown.binds fun _ _ _ _ _ _ us hl => match us, hl with | [_, _, _], _ => rfl
theorem Txt.k_m_shown (T : Txt K mg) : PySem.W.keepIn K (.ref T.f_m_shown) = true := T.F_m_shown.kp
theorem Txt.bn_m_state (T : Txt K mg) : Binds K T.fd_m_state P_m_state [] := T.F_m_state.binds fun _ _ _ _ _ _ us hl => match us, hl with | [_], _ => rfl
theorem Txt.k_m_state (T : Txt K mg) : PySem.W.keepIn K (.ref T.f_m_state) = true := T.F_m_state.kp
theorem Txt.bn_end_of_call (T : Txt K mg) : Binds K T.fd_end_of_call P_end_of_call [] := T.F_end_of_call.binds fun _ _ _ _ _ _ us hl => match us, hl with | [_, _], _ => rfl
theorem Txt.k_end_of_call (T : Txt K mg) : PySem.W.keepIn K (.ref T.f_end_of_call) = true := T.F_end_of_call.kp
theorem Txt.bn_answer_to (T : Txt K mg) : Binds K T.fd_answer_to P_answer_to [] := T.F_answer_to.binds fun _ _ _ _ _ _ us hl => match us, hl with | [_, _, _], _ => rfl
theorem Txt.k_answer_to (T : Txt K mg) : PySem.W.keepIn K (.ref T.f_answer_to) = true := T.F_answer_to.kp
theorem Txt.bn_answers (T : Txt K mg) : Binds K T.fd_answers P_answers [] := T.F_answers.binds fun _ _ _ _ _ _ us hl => match us, hl with | [_], _ => rfl
theorem Txt.k_answers (T : Txt K mg) : PySem.W.keepIn K (.ref T.f_answers) = true := T.F_answers.kp
end
/-- a whole number of the module's top -/
theorem pe_gint {X : Cx} {x : Str} {i : Int} {pos : Pos} (hg : Gl X x) (hm : ∃ t, X.mg x = some (.int i t)) (hd : (x == ("__debug__" : Str)) = false := by decide) : PE X (.Name x pos) (tC (.int i)) := by
  obtain ⟨t, e⟩ := hm
  exact pe_glob hg e ⟨t, rfl⟩ hd
/-- a tuple of the module's top -/
theorem pe_gtup {X : Cx} {x : Str} {a : Addr} {pos : Pos} (hg : Gl X x) (hm : X.mg x = some (.ref a)) (hd : (x == ("__debug__" : Str)) = false := by decide) : PE X (.Name x pos) (tC (.ref a)) := pe_glob hg hm rfl hd
section
variable {X : Cx} {a b e o : Expr} {ta tb to : TE} {t : TA} {pos cpos apos : Pos}
/-! the same rules with the written part told (within a comprehension the reading must not name the block) -/
theorem ixT (K : PySem.W.Frag) (h : X.K = K) : IxR X (rIxT K) := by subst h; exact ix_tup
theorem ixL (K : PySem.W.Frag) (h : X.K = K) : IxR X (rIxL K) := by subst h; exact ix_list
theorem lenK (K : PySem.W.Frag) (h : X.K = K) : CallR X (.builtin "len") (fun xs H Q => ∃ p ys, xs = [.ref p] ∧ (SqL K H p ys ∨ SqT K H p ys) ∧ Q (.int ys.length) H) := by subst h; exact call_len_seq
theorem fldK (K : PySem.W.Frag) {f : Str} (h : X.K = K) (he : PE X e ta) (hb : attributeBase e f X.env (eval e X.env) = eval e X.env) : PE X (.Attribute e f pos) (tFld K ta f) := by subst h; exact pe_fld he hb
end
end Bs
set_option linter.all false
namespace Bs
/-! # The mirror: what the defs reckon, over natural numbers -/
/-- strokes place by place as one number -/
def packN (l : List Nat) : Nat := l.foldl (fun p s => p * 128 + s) 0
def DIG : List Nat := [119, 36, 93, 109, 46, 107, 123, 37, 127, 111]
/-- the digit at place k (from the left) of a number that is written with n digits -/
def digN (n c k : Nat) : Nat := c / 10 ^ (n - 1 - k) % 10
def shouldN (n c : Nat) : Nat := packN ((List.range n).map fun k => DIG.getD (digN n c k) 0)
def picsN (n : Nat) : List Nat := (List.range (10 ^ n)).map (shouldN n)
abbrev Sights := List (Nat × Nat)
/-- all strokes of all places -/
def wholeN (n : Nat) : Nat := packN (List.replicate n 127)
/-- lit in all sights; dark in all sights; neither -/
def litN (W : Nat) (S : Sights) : Nat := S.foldl (fun f s => f &&& s.2) W
def darkN (W : Nat) (S : Sights) : Nat := S.foldl (fun f s => f &&& (W ^^^ s.2)) W
def workN (n : Nat) (S : Sights) : Nat := wholeN n ^^^ (litN (wholeN n) S ||| darkN (wholeN n) S)
def wrongN (x : Nat) (S : Sights) (pics : List Nat) : Nat := S.foldl (fun w s => w ||| (s.2 ^^^ pics.getD ((x + s.1) % pics.length) 0)) 0
def brokenN (w : Nat) (S : Sights) (pics : List Nat) : List (Nat × Nat) :=
  ((List.range pics.length).filter fun x => (wrongN x S pics &&& w) == 0).map fun x => (x, wrongN x S pics)
/-- how many bits -/
def bitsF : Nat → Nat → Nat
  | 0, _ => 0
  | f + 1, n => if n = 0 then 0 else n % 2 + bitsF f (n / 2)
def bits (n : Nat) : Nat := bitsF n n
theorem bitsF_eq : ∀ (f g n : Nat), n ≤ f → n ≤ g → bitsF f n = bitsF g n
  | 0, g, n, h1, h2 => by
    have e : n = 0 := by omega
    subst e
    cases g <;> rfl
  | f + 1, 0, n, h1, h2 => by
    have e : n = 0 := by omega
    subst e
    rfl
  | f + 1, g + 1, n, h1, h2 => by
    unfold bitsF
    by_cases e : n = 0
    · rw [if_pos e, if_pos e]
    · rw [if_neg e, if_neg e, bitsF_eq f g (n / 2) (by omega) (by omega)]
theorem bits_zero : bits 0 = 0 := rfl
theorem bits_step {n : Nat} (h : 0 < n) : bits n = n % 2 + bits (n / 2) := by
  cases n with
  | zero => omega
  | succ n =>
    show bitsF (n + 1) (n + 1) = _
    unfold bitsF
    rw [if_neg (by omega), bitsF_eq n ((n + 1) / 2) ((n + 1) / 2) (by omega) (by omega)]
    rfl
/-- strokes place by place out of a picture -/
def unpackR : Nat → Nat → List Nat
  | 0, _ => []
  | n + 1, p => p % 128 :: unpackR n (p / 128)
def unpackN (n p : Nat) : List Nat := (unpackR n p).reverse
/-! lists -/
theorem take_more {α : Type} : ∀ {l : List α} {i : Nat} {x : α}, l[i]? = some x → l.take (i + 1) = l.take i ++ [x]
  | [], i, x, h => by simp at h
  | a :: l, 0, x, h => by
    have e : a = x := Option.some.inj h
    subst e
    rfl
  | a :: l, i + 1, x, h => by
    have ih := take_more (l := l) (i := i) (x := x) h
    show a :: l.take (i + 1) = a :: l.take i ++ [x]
    rw [ih]
    rfl
theorem foldl_more {α β : Type} (f : β → α → β) (b : β) {l : List α} {i : Nat} {x : α} (h : l[i]? = some x) : (l.take (i + 1)).foldl f b = f ((l.take i).foldl f b) x := by
  rw [take_more h, List.foldl_append]
  rfl
theorem range_take {n i : Nat} (h : i < n) : (List.range n)[i]? = some i := by rw [List.getElem?_range h]
theorem take_range {n i : Nat} (h : i ≤ n) : (List.range n).take i = List.range i := by
  rw [List.take_range, Nat.min_eq_left h]
end Bs
namespace Bs
/-- the numbers below i that stay, with what is wrong at them -/
def brokenTo (w : Nat) (S : Sights) (pics : List Nat) (i : Nat) : List (Nat × Nat) :=
  ((List.range i).filter fun x => (wrongN x S pics &&& w) == 0).map fun x => (x, wrongN x S pics)
theorem brokenTo_all (w : Nat) (S : Sights) (pics : List Nat) : brokenTo w S pics pics.length = brokenN w S pics := rfl
theorem brokenTo_yes {w : Nat} {S : Sights} {pics : List Nat} {i : Nat} (h : wrongN i S pics &&& w = 0) : brokenTo w S pics (i + 1) = brokenTo w S pics i ++ [(i, wrongN i S pics)] := by
  unfold brokenTo
  rw [List.range_succ, List.filter_append, List.map_append, List.filter_cons, if_pos (by rw [h]; rfl)]
  rfl
theorem brokenTo_no {w : Nat} {S : Sights} {pics : List Nat} {i : Nat} (h : ¬ wrongN i S pics &&& w = 0) : brokenTo w S pics (i + 1) = brokenTo w S pics i := by
  unfold brokenTo
  rw [List.range_succ, List.filter_append, List.map_append, List.filter_cons, if_neg (by rw [beq_iff_eq]; exact h)]
  exact List.append_nil _
theorem brokenTo_lt {w : Nat} {S : Sights} {pics : List Nat} {i : Nat} {p : Nat × Nat} (h : p ∈ brokenTo w S pics i) : p.1 < i := by
  obtain ⟨x, hx, rfl⟩ := List.mem_map.mp h
  exact List.mem_range.mp (List.mem_filter.mp hx).1
theorem brokenTo_len (w : Nat) (S : Sights) (pics : List Nat) (i : Nat) : (brokenTo w S pics i).length ≤ i := by
  unfold brokenTo
  rw [List.length_map]
  exact Nat.le_trans (List.length_filter_le _ _) (Nat.le_of_eq List.length_range)
end Bs
namespace Bs
theorem unpackR_snoc : ∀ (i p : Nat), unpackR (i + 1) p = unpackR i p ++ [p / 128 ^ i % 128]
  | 0, p => by
    show [p % 128] = [p / 128 ^ 0 % 128]
    rw [Nat.pow_zero, Nat.div_one]
  | i + 1, p => by
    show p % 128 :: unpackR (i + 1) (p / 128) = p % 128 :: unpackR i (p / 128) ++ [p / 128 ^ (i + 1) % 128]
    rw [unpackR_snoc i (p / 128), Nat.div_div_eq_div_mul, Nat.pow_succ, Nat.mul_comm 128]
    rfl
theorem unpackR_len : ∀ (i p : Nat), (unpackR i p).length = i
  | 0, _ => rfl
  | i + 1, p => congrArg (· + 1) (unpackR_len i (p / 128))
/-- lists as answers have them: each behind how many numbers it has -/
def toldN (rows : List (List Int)) : List Int := rows.flatMap fun r => (r.length : Int) :: r
theorem toldN_snoc (l : List (List Int)) (r : List Int) : toldN (l ++ [r]) = toldN l ++ ((r.length : Int) :: r) := by
  unfold toldN
  rw [List.flatMap_append]
  show _ ++ (((r.length : Int) :: r) ++ []) = _
  rw [List.append_nil]
/-- the one with k ahead of it -/
def pickN {α : Type} (l : List α) (k : Nat) : List α := match l[k]? with
  | none => []
  | some x => [x]
theorem slice_pick {α : Type} (l : List α) (k : Nat) : (l.drop (min k l.length)).take (min (k + 1) l.length - min k l.length) = pickN l k := by
  unfold pickN
  by_cases h : k < l.length
  · rw [Nat.min_eq_left (Nat.le_of_lt h), Nat.min_eq_left h, List.getElem?_eq_getElem h, List.drop_eq_getElem_cons h, show k + 1 - k = 1 by omega]
    rfl
  · rw [List.getElem?_eq_none (by omega), Nat.min_eq_right (by omega), Nat.min_eq_right (by omega), List.drop_length]
    exact List.take_nil
end Bs
namespace Bs
theorem picsN_len (n : Nat) : (picsN n).length = 10 ^ n := by
  unfold picsN
  rw [List.length_map, List.length_range]
theorem toldN_len (l : List (List Int)) (r : List Int) : (toldN (l ++ [r])).length = (toldN l).length + 1 + r.length := by
  rw [toldN_snoc, List.length_append, List.length_cons]
  omega
theorem toldN_take_len (l : List (List Int)) (i : Nat) : (toldN (l.take i)).length ≤ (toldN l).length := by
  have e : toldN l = toldN (l.take i) ++ toldN (l.drop i) := by
    unfold toldN
    rw [← List.flatMap_append, List.take_append_drop]
  rw [e, List.length_append]
  omega
end Bs
namespace Bs
/-! # What each call does to how many digits and the sights, and its answer -/
def nowN (S : Sights) : Nat := match S.getLast? with
  | none => 0
  | some s => s.1
def brN (n : Nat) (S : Sights) : List (Nat × Nat) := brokenN (workN n S) S (picsN n)
def intsN (l : List Nat) : List Int := l.map fun (x : Nat) => (x : Int)
def seenOk (n d : Nat) (l : List Nat) : Bool := decide (d ≤ 10000) && (decide (l.length = n) && l.all fun m => decide (m ≤ 127))
def beginsN (n : Nat) (S : Sights) (d : Nat) : Nat × Sights × List Int := if d < 1 ∨ 3 < d then (n, S, [-1]) else (d, [], [((brN d []).length : Int)])
def seesN (n : Nat) (S : Sights) (d : Nat) (l : List Nat) : Nat × Sights × List Int :=
  if seenOk n d l = false then (n, S, [-1]) else if S.length = 8 then (n, S, [-5]) else
    let T := S ++ [(nowN S + d, packN l)]
    (n, T, [((brN n T).length : Int)])
def undoN (n : Nat) (S : Sights) : Nat × Sights × List Int := if S.length = 0 then (n, S, [-4]) else (n, S.dropLast, [(S.dropLast.length : Int)])
def mayN (n : Nat) (S : Sights) (k : Nat) : List Int := let l := (brN n S).map (·.1)
  (l.length : Int) :: toldN [intsN (pickN l k)]
/-- the numbers that break so few -/
def leastIn (l : List (Nat × Nat)) (m : Nat) : List Nat := (l.filter fun p => decide (bits p.2 = m)).map (·.1)
def minN : List Nat → Nat
  | [] => 0
  | x :: r => r.foldl min x
def likelyN (n : Nat) (S : Sights) (k : Nat) : List Int := if (brN n S).length = 0 then [-6] else
  let m := minN ((brN n S).map fun p => bits p.2)
  let l := leastIn (brN n S) m
  (m : Int) :: toldN [[(l.length : Int)], intsN (pickN l k)]
def guessN (n : Nat) (S : Sights) (x : Nat) : List Int := if 10 ^ n ≤ x then [-2] else match (brN n S).find? fun p => decide (p.1 = x) with
  | none => [-6]
  | some p => (bits p.2 : Int) :: toldN [intsN (unpackN n p.2)]
/-- whether it may begin with it -/
def isIn (n : Nat) (S : Sights) (x : Nat) : Bool := ((brN n S).find? fun p => decide (p.1 = x)).isSome
/-- broken in all explanations -/
def surelyN (n : Nat) (S : Sights) : Nat := (brN n S).foldl (fun f p => f &&& p.2) (wholeN n)
/-- what should be shown at a time -/
def showN (n x t : Nat) : Nat := shouldN n ((x + t) % 10 ^ n)
def canLitN (n : Nat) (S : Sights) (t : Nat) : Nat := (brN n S).foldl (fun f p => f ||| ((wholeN n ^^^ p.2) &&& showN n p.1 t)) (litN (wholeN n) S)
def canDarkN (n : Nat) (S : Sights) (t : Nat) : Nat := (brN n S).foldl (fun f p => f ||| ((wholeN n ^^^ p.2) &&& (wholeN n ^^^ showN n p.1 t))) (darkN (wholeN n) S)
/-- one stroke -/
def aloneN (n k i : Nat) : Nat := packN ((List.replicate n 0).set k (2 ^ i))
/-- the states of strokes m -/
def statesN (n : Nat) (S : Sights) (m : Nat) : List Nat :=
  (if surelyN n S &&& m = 0 then [0] else []) ++ ((if darkN (wholeN n) S &&& m = 0 then [] else [1]) ++ (if litN (wholeN n) S &&& m = 0 then [] else [2]))
def strokeN (n : Nat) (S : Sights) (k i : Nat) : List Int := if n ≤ k ∨ 7 ≤ i then [-2] else if (brN n S).length = 0 then [-6] else
  let l := statesN n S (aloneN n k i)
  (l.length : Int) :: toldN [intsN l]
def sureN (n : Nat) (S : Sights) : List Int := if (brN n S).length = 0 then [-6] else
  (bits (surelyN n S) : Int) :: toldN [intsN (unpackN n (surelyN n S)), intsN (unpackN n (workN n S))]
def nextN (n : Nat) (S : Sights) (d : Nat) : List Int := if 10000 < d then [-1] else if (brN n S).length = 0 then [-6] else
  let L := canLitN n S (nowN S + d)
  let D := canDarkN n S (nowN S + d)
  (bits (L &&& D) : Int) :: toldN [intsN (unpackN n (L ^^^ (L &&& D))), intsN (unpackN n (D ^^^ (L &&& D)))]
def apartB (n : Nat) (S : Sights) (x y t : Nat) : Bool := !decide ((showN n x t ^^^ showN n y t) &&& workN n S = 0)
def apartN (n : Nat) (S : Sights) (x y d : Nat) : List Int := if 10 ^ n ≤ x ∨ 10 ^ n ≤ y then [-2] else if 10000 < d ∨ x = y then [-1] else
  if isIn n S x = false ∨ isIn n S y = false then [-6] else [if apartB n S x y (nowN S + d) = true then 1 else 0]
def shownN (n : Nat) (S : Sights) (x d : Nat) : List Int := if 10 ^ n ≤ x then [-2] else if 10000 < d then [-1] else
  (((x + (nowN S + d)) % 10 ^ n : Nat) : Int) :: toldN [intsN (unpackN n (shouldN n ((x + (nowN S + d)) % 10 ^ n)))]
def stateN (n : Nat) (S : Sights) : List Int := (nowN S : Int) :: toldN [[(n : Int)], intsN (S.flatMap fun z => z.1 :: unpackN n z.2)]
end Bs
namespace Bs
/-! least of a list; keys -/
theorem foldl_min_le : ∀ (l : List Nat) (a : Nat), l.foldl min a ≤ a ∧ ∀ y ∈ l, l.foldl min a ≤ y
  | [], a => ⟨Nat.le_refl a, fun y h => absurd h (by simp)⟩
  | x :: r, a => by
    have ih := foldl_min_le r (min a x)
    show r.foldl min (min a x) ≤ a ∧ ∀ y ∈ x :: r, r.foldl min (min a x) ≤ y
    refine ⟨by omega, fun y h => ?_⟩
    rcases List.mem_cons.mp h with rfl | h
    · omega
    · exact ih.2 y h
theorem foldl_min_mem : ∀ (l : List Nat) (a : Nat), l.foldl min a = a ∨ l.foldl min a ∈ l
  | [], a => .inl rfl
  | x :: r, a => by
    show r.foldl min (min a x) = a ∨ r.foldl min (min a x) ∈ x :: r
    rcases foldl_min_mem r (min a x) with h | h
    · rw [h]
      by_cases c : a ≤ x
      · exact .inl (Nat.min_eq_left c)
      · rw [Nat.min_eq_right (by omega)]
        exact .inr List.mem_cons_self
    · exact .inr (List.mem_cons_of_mem _ h)
theorem minN_mem : ∀ {l : List Nat}, l ≠ [] → minN l ∈ l
  | [], h => (h rfl).elim
  | x :: r, _ => by
    rcases foldl_min_mem r x with h | h
    · show r.foldl min x ∈ x :: r
      rw [h]
      exact List.mem_cons_self
    · exact List.mem_cons_of_mem _ h
theorem minN_le : ∀ {l : List Nat} {y : Nat}, y ∈ l → minN l ≤ y
  | x :: r, y, h => by
    show r.foldl min x ≤ y
    have q := foldl_min_le r x
    rcases List.mem_cons.mp h with rfl | h
    · exact q.1
    · exact q.2 y h
theorem minN_is {l : List Nat} {m : Nat} (h : m ∈ l) (hl : ∀ y ∈ l, m ≤ y) : m = minN l :=
  Nat.le_antisymm (hl _ (minN_mem (List.ne_nil_of_mem h))) (minN_le h)
theorem brokenTo_pair {w : Nat} {S : Sights} {pics : List Nat} {i : Nat} : ((brokenTo w S pics i).map (·.1)).Pairwise (· < ·) := by
  unfold brokenTo
  rw [List.map_map]
  have e : ((fun x : Nat × Nat => x.1) ∘ fun x => (x, wrongN x S pics)) = id := rfl
  rw [e, List.map_id]
  exact List.Pairwise.filter _ List.pairwise_lt_range
theorem brN_pair (n : Nat) (S : Sights) : ((brN n S).map (·.1)).Pairwise (· < ·) := brokenTo_pair (i := (picsN n).length)
theorem brN_lt {n : Nat} {S : Sights} {p : Nat × Nat} (h : p ∈ brN n S) : p.1 < 10 ^ n := by
  have := brokenTo_lt (w := workN n S) (S := S) (pics := picsN n) (i := (picsN n).length) h
  rw [picsN_len] at this
  exact this
theorem brN_len (n : Nat) (S : Sights) : (brN n S).length ≤ 10 ^ n := by
  have := brokenTo_len (workN n S) S (picsN n) (picsN n).length
  rw [picsN_len] at this
  show (brokenTo (workN n S) S (picsN n) (picsN n).length).length ≤ _
  rw [picsN_len]
  exact this
/-- the numbers of strokes, number by number -/
def bitsOf (l : List (Nat × Nat)) : List (Nat × Nat) := l.map fun p => (p.1, bits p.2)
theorem pickN_len {α : Type} (l : List α) (k : Nat) : (pickN l k).length ≤ 1 := by
  unfold pickN
  split <;> simp
theorem pickN_map {α β : Type} (f : α → β) (l : List α) (k : Nat) : pickN (l.map f) k = (pickN l k).map f := by
  unfold pickN
  rw [List.getElem?_map]
  cases l[k]? <;> rfl
theorem unpackN_len (n p : Nat) : (unpackN n p).length = n := by
  unfold unpackN
  rw [List.length_reverse, unpackR_len]
end Bs
set_option Elab.async false
set_option linter.all false
set_option maxRecDepth 100000
set_option maxHeartbeats 4000000
namespace Bs
open PySem PySem.Spec PyProof.Rows L2
theorem num1 {c : Nat} (h : c < 10) : TL.numL c = [48 + c] := TL.numL_lt h
theorem num2 {c : Nat} (h0 : 10 ≤ c) (h : c < 100) : TL.numL c = [48 + c / 10, 48 + c % 10] := by
  rw [TL.numL_step h0, num1 (by omega)]
  rfl
theorem num3 {c : Nat} (h0 : 100 ≤ c) (h : c < 1000) : TL.numL c = [48 + c / 100, 48 + c / 10 % 10, 48 + c % 10] := by
  rw [TL.numL_step (by omega), num2 (by omega) (by omega), Nat.div_div_eq_div_mul]
  rfl
theorem tl_zfill {x : Str} {i : Nat} {r : List Nat} (e : x.cps.toList = r) (h : ∀ c ∈ r, 48 ≤ c) : (Txt.zfill x (i : Int)).cps.toList = List.replicate (i - r.length) 48 ++ r := by
  have el : x.length = r.length := by
    rw [← e, Array.length_toList]
    rfl
  unfold Txt.zfill
  by_cases c : (i : Int) ≤ (x.length : Int)
  · rw [if_pos c, show i - r.length = 0 by omega]
    exact e
  · rw [if_neg c, Int.toNat_natCast, el]
    have hp : (PySem.Builtin.Str.padded x (i - r.length) 0 48).cps.toList = List.replicate (i - r.length) 48 ++ r := by
      show (Array.replicate (i - r.length) 48 ++ x.cps ++ Array.replicate 0 48).toList = _
      rw [Array.toList_append, Array.toList_append, Array.toList_replicate, Array.toList_replicate, e]
      exact List.append_nil _
    unfold zfilled
    cases q : x.cps[0]? with
    | none => exact hp
    | some d =>
      have hd : 48 ≤ d := h d (by
        rw [← e]
        rw [← Array.getElem?_toList] at q
        exact List.mem_of_getElem? q)
      split
      · rename_i z
        have := Option.some.inj z
        omega
      · rename_i z
        have := Option.some.inj z
        omega
      · exact hp
theorem digit_int : ∀ d : Nat, d < 10 → PySem.intText? ⟨#[48 + d]⟩ = some (d : Int) := by decide +kernel
/-- a number with zeros in front: its digits -/
theorem signs_of {n c : Nat} (h1 : 1 ≤ n) (h3 : n ≤ 3) (hc : c < 10 ^ n) : (Txt.zfill (Str.ofString (toString (c : Int))) (n : Int)).cps.toList = (List.range n).map fun k => 48 + digN n c k := by
  have e := TL.tl_num c
  by_cases c1 : c < 10
  · rw [num1 c1] at e
    rw [tl_zfill e (by intro z hz; rw [List.mem_singleton.mp hz]; omega)]
    have h : n = 1 ∨ n = 2 ∨ n = 3 := by omega
    rcases h with rfl | rfl | rfl
    · simp [digN, List.range_succ]; omega
    · simp [digN, List.range_succ]; omega
    · simp [digN, List.range_succ]; omega
  · by_cases c2 : c < 100
    · rw [num2 (by omega) c2] at e
      rw [tl_zfill e (by intro z hz; simp at hz; omega)]
      have h : n = 1 ∨ n = 2 ∨ n = 3 := by omega
      rcases h with rfl | rfl | rfl
      · omega
      · simp [digN, List.range_succ]; omega
      · simp [digN, List.range_succ]; omega
    · have h : n = 3 := by
        have h : n = 1 ∨ n = 2 ∨ n = 3 := by omega
        rcases h with rfl | rfl | rfl
        · omega
        · omega
        · rfl
      subst h
      rw [num3 (by omega) (by omega)] at e
      rw [tl_zfill e (by intro z hz; simp at hz; omega)]
      simp [digN, List.range_succ]; omega
end Bs
set_option Elab.async false
set_option linter.all false
set_option maxRecDepth 100000
set_option maxHeartbeats 4000000
namespace Bs
open PySem PySem.Spec PyProof.Rows L2
/-! lists as values -/
/-- natural numbers as values -/
abbrev nV (n : Nat) : V := .int (n : Int)
theorem get_map {α : Type} {f : α → V} {ns : List α} {i : Nat} {y : V} (h : (ns.map f)[i]? = some y) : ∃ z, ns[i]? = some z ∧ y = f z := by
  rw [List.getElem?_map] at h
  cases e : ns[i]? with
  | none =>
    rw [e] at h
    cases h
  | some z =>
    rw [e] at h
    exact ⟨z, rfl, (Option.some.inj h).symm⟩
theorem map_get {α : Type} {f : α → V} {ns : List α} {i : Nat} {z : α} (h : ns[i]? = some z) : (ns.map f)[i]? = some (f z) := by
  rw [List.getElem?_map, h]
  rfl
theorem mod_ltN {a n : Nat} (h : 0 < n) : a % n < n := Nat.mod_lt a h
/-! whole numbers that aren't negative -/
theorem orN (a b : Nat) : Builtin.bitOr (a : Int) (b : Int) = ((a ||| b : Nat) : Int) := by
  rw [Bits.bitOr_pp (Int.natCast_nonneg a) (Int.natCast_nonneg b), Int.toNat_natCast, Int.toNat_natCast]
theorem xorN (a b : Nat) : Builtin.bitXor (a : Int) (b : Int) = ((a ^^^ b : Nat) : Int) := by
  rw [Bits.bitXor_pp (Int.natCast_nonneg a) (Int.natCast_nonneg b), Int.toNat_natCast, Int.toNat_natCast]
theorem andN (a b : Nat) : Builtin.bitAnd (a : Int) (b : Int) = ((a &&& b : Nat) : Int) := by
  unfold Builtin.bitAnd
  rw [decide_eq_true (Int.natCast_nonneg a), decide_eq_true (Int.natCast_nonneg b)]
  show (((a : Int).toNat &&& (b : Int).toNat : Nat) : Int) = _
  rw [Int.toNat_natCast, Int.toNat_natCast]
/-! tests -/
theorem ifD {p : Prop} {d : Decidable p} {A B : Prop} (h1 : p → A) (h2 : ¬ p → B) : if decide p = true then A else B := by
  by_cases c : p
  · rw [if_pos (decide_eq_true c)]
    exact h1 c
  · rw [if_neg (fun z => c (of_decide_eq_true z))]
    exact h2 c
theorem ifN {p : Prop} {d : Decidable p} {A B : Prop} (h1 : ¬ p → A) (h2 : p → B) : if (!decide p) = true then A else B := by
  by_cases c : p
  · rw [decide_eq_true c]
    exact h2 c
  · rw [decide_eq_false c]
    exact h1 c
theorem ifB {c : Bool} {A B : Prop} (h1 : c = true → A) (h2 : c = false → B) : if c = true then A else B := by
  cases c with
  | true => exact h1 rfl
  | false => exact h2 rfl
theorem ifT {c : Bool} {A B : Prop} (hc : c = true) (h : A) : if c = true then A else B := by
  rw [if_pos hc]
  exact h
theorem ifF {c : Bool} {A B : Prop} (hc : c = false) (h : B) : if c = true then A else B := by
  rw [hc]
  exact h
/-! sights in the heap -/
def sV (s : Nat × Nat) : List V := [nV s.1, nV s.2]
def TupsAt (H : Hp) : List Addr → Sights → Prop
  | [], [] => True
  | t :: ts, s :: S => H t = some (.tup (sV s)) ∧ TupsAt H ts S
  | _, _ => False
theorem TupsAt.len {H : Hp} : ∀ {ts : List Addr} {S : Sights}, TupsAt H ts S → ts.length = S.length
  | [], [], _ => rfl
  | t :: ts, s :: S, h => congrArg (· + 1) (TupsAt.len h.2)
  | [], _ :: _, h => h.elim
  | _ :: _, [], h => h.elim
theorem TupsAt.at {H : Hp} : ∀ {ts : List Addr} {S : Sights} {i : Nat} {t : Addr}, TupsAt H ts S → ts[i]? = some t → ∃ s, S[i]? = some s ∧ H t = some (.tup (sV s))
  | t :: ts, s :: S, 0, u, h, e => by
    have e' : t = u := Option.some.inj e
    subst e'
    exact ⟨s, rfl, h.1⟩
  | t :: ts, s :: S, i + 1, u, h, e => TupsAt.at (ts := ts) (S := S) (i := i) h.2 e
  | [], _, _, _, _, e => by cases e
  | _ :: _, [], _, _, h, _ => h.elim
theorem TupsAt.mono {H H' : Hp} (k : ∀ t xs, H t = some (.tup xs) → H' t = some (.tup xs)) : ∀ {ts : List Addr} {S : Sights}, TupsAt H ts S → TupsAt H' ts S
  | [], [], _ => trivial
  | t :: ts, s :: S, h => ⟨k _ _ h.1, TupsAt.mono k h.2⟩
  | [], _ :: _, h => h.elim
  | _ :: _, [], h => h.elim
theorem TupsAt.snoc {H : Hp} {t : Addr} {s : Nat × Nat} (ht : H t = some (.tup (sV s))) : ∀ {ts : List Addr} {S : Sights}, TupsAt H ts S → TupsAt H (ts ++ [t]) (S ++ [s])
  | [], [], _ => ⟨ht, trivial⟩
  | u :: ts, r :: S, h => ⟨h.1, TupsAt.snoc ht (ts := ts) (S := S) h.2⟩
  | [], _ :: _, h => h.elim
  | _ :: _, [], h => h.elim
theorem TupsAt.init {H : Hp} : ∀ {ts : List Addr} {S : Sights}, TupsAt H ts S → TupsAt H ts.dropLast S.dropLast
  | [], [], _ => trivial
  | [t], [s], _ => trivial
  | t :: t' :: ts, s :: s' :: S, h => ⟨h.1, TupsAt.init (ts := t' :: ts) (S := s' :: S) h.2⟩
  | [], _ :: _, h => h.elim
  | _ :: _, [], h => h.elim
  | [_], _ :: _ :: _, h => h.2.elim
  | _ :: _ :: _, [_], h => h.2.elim
def SightsAt (K : PySem.W.Frag) (H : Hp) (a : Addr) (S : Sights) : Prop := ∃ ts : List Addr, SqL K H a (ts.map V.ref) ∧ TupsAt H ts S
/-- a dict of natural numbers -/
def dN (l : List (Nat × Nat)) : List (Key × V) := l.map fun p => (Sum.inl (p.1 : Int), nV p.2)
section
variable {P : Program} {w : World} {K : PySem.W.Frag} {mg : Str → Option Value} {base : Heap}
/-! picture_of -/
def sp_picture_of (K : PySem.W.Frag) : Sp := fun vs H Q _ => ∃ (a : Addr) (ns : List Nat), vs = [.ref a] ∧ SqL K H a (ns.map nV) ∧ Q (nV (packN ns)) H
theorem ok_picture_of (T : Txt K mg) : FnOk P w K mg base CX0 1 T.f_picture_of T.fd_picture_of P_picture_of (sp_picture_of K) := by
  refine T.F_picture_of.ok sc_picture_of (fun vs H Q E h => ?_) (fun cdv A outer s H vs Q E hr h => ⟨_, (pss_cons (ps_set (i := 1) sc_picture_of.nd rfl (Or.inl rfl) pe_int)
        (pss_cons (ps_for PassesOwn.never rfl (pi_list (pv 0)) (pg_name (i := 2) sc_picture_of.nd rfl (Or.inl rfl)) (pss_one (ps_set (i := 1) sc_picture_of.nd rfl (Or.inl rfl) (pe_op op_add (pe_op op_mul (pv 1) pe_int) (pv 2)))))
        (pss_one (ps_ret (pv 1))))), ?_⟩)
  · obtain ⟨a, ns, rfl, _⟩ := h
    rfl
  · obtain ⟨a, ns, rfl, hs, q⟩ := h
    refine ⟨_, rfl, a, rfl, ⟨_, hs⟩, for_list (K := K) (a := a) (xs := ns.map nV) (fun i σ H' => ∃ v, σ = [some (.ref a), some (nV (packN (ns.take i))), v] ∧ H = H')
      ⟨none, rfl, rfl⟩ (fun i σ H' _ h => h.elim fun v h => by rw [← h.2]; exact hs) ?_ ?_⟩
    · rintro i y σ H' hi ⟨v, rfl, rfl⟩
      obtain ⟨z, hz, rfl⟩ := get_map hi
      refine ⟨_, rfl, _, _, rfl, rfl, .inr ⟨by decide, by decide⟩, _, rfl, _, _, rfl, rfl, some (nV z), ?_, rfl⟩
      have e : packN (ns.take (i + 1)) = packN (ns.take i) * 128 + z := foldl_more _ _ hz
      rw [e]
      rfl
    · rintro σ H' ⟨v, rfl, rfl⟩
      rw [List.length_map, List.take_length]
      exact ⟨_, rfl, q⟩
/-! how_many_strokes -/
def sp_how_many_strokes (K : PySem.W.Frag) : Sp := fun vs H Q _ => ∃ (n : Nat), vs = [nV n] ∧ Q (nV (bits n)) H
theorem ok_how_many_strokes (T : Txt K mg) : FnOk P w K mg base CX0 1 T.f_how_many_strokes T.fd_how_many_strokes P_how_many_strokes (sp_how_many_strokes K) := by
  refine T.F_how_many_strokes.ok sc_how_many_strokes (fun vs H Q E h => ?_) (fun cdv A outer s H vs Q E hr h => ⟨_, (pss_cons (ps_set (i := 1) sc_how_many_strokes.nd rfl (Or.inl rfl) pe_int)
        (pss_cons (ps_set (i := 2) sc_how_many_strokes.nd rfl (Or.inl rfl) (pv 0))
        (pss_cons (ps_while PassesOwn.never (pt_cmpR op_gt (pv 2) pe_int (nomark _)) (pss_cons (ps_set (i := 1) sc_how_many_strokes.nd rfl (Or.inl rfl) (pe_op op_add (pv 1) (pe_op op_mod (pv 2) pe_int)))
        (pss_one (ps_set (i := 2) sc_how_many_strokes.nd rfl (Or.inl rfl) (pe_op op_fdiv (pv 2) pe_int)))))
        (pss_one (ps_ret (pv 1)))))), ?_⟩)
  · obtain ⟨n, rfl, _⟩ := h
    rfl
  · obtain ⟨n, rfl, q⟩ := h
    refine ⟨_, rfl, ?_⟩
    refine ⟨fun m σ H' => ∃ (f r : Nat), σ = [some (nV n), some (nV f), some (nV r)] ∧ H = H' ∧ f + bits r = bits n ∧ m = r, ⟨n, 0, n, rfl, rfl, by omega, rfl⟩, ?_⟩
    rintro m σ H' ⟨f, r, rfl, rfl, e, rfl⟩
    refine ⟨_, rfl, _, _, rfl, rfl, _, rfl, ?_⟩
    refine ifD (fun c => ?_) (fun c => ?_)
    · have c' : 0 < m := by omega
      refine ⟨fun σ H' => ∃ (f r : Nat), σ = [some (nV n), some (nV f), some (nV r)] ∧ H = H' ∧ f + bits r = bits n ∧ r = m / 2, ?_, ?_⟩
      · rintro σ' H' ⟨f', r', rfl, rfl, e', rfl⟩
        exact ⟨m / 2, by omega, f', m / 2, rfl, rfl, e', rfl⟩
      · refine ⟨_, rfl, _, rfl, _, _, rfl, rfl, (by show (0 : Int) < 2; decide), _, _, rfl, rfl, ?_⟩
        refine ⟨_, rfl, _, _, rfl, rfl, ⟨by decide, by decide⟩, f + m % 2, m / 2, ?_, rfl, ?_, rfl⟩
        · rfl
        · rw [← e, bits_step c']
          omega
    · have c' : m = 0 := by omega
      subst c'
      refine ⟨_, rfl, ?_⟩
      have e2 : f = bits n := by
        rw [← e, bits_zero]
        omega
      rw [← e2] at q
      exact q
/-! lit_in_all, dark_in_all -/
def sp_lit_in_all (K : PySem.W.Frag) : Sp := fun vs H Q _ => ∃ (a : Addr) (S : Sights) (W : Nat), vs = [.ref a, nV W] ∧ SightsAt K H a S ∧ Q (nV (litN W S)) H
theorem ok_lit_in_all (T : Txt K mg) : FnOk P w K mg base CX0 1 T.f_lit_in_all T.fd_lit_in_all P_lit_in_all (sp_lit_in_all K) := by
  refine T.F_lit_in_all.ok sc_lit_in_all (fun vs H Q E h => ?_) (fun cdv A outer s H vs Q E hr h => ⟨_, (pss_cons (ps_set (i := 2) sc_lit_in_all.nd rfl (Or.inl rfl) (pv 1))
        (pss_cons (ps_for PassesOwn.never rfl (pi_list (pv 0)) (pg_tup rfl (pgs_cons (pg_name (i := 3) sc_lit_in_all.nd rfl (Or.inl rfl)) (pgs_cons (pg_name (i := 4) sc_lit_in_all.nd rfl (Or.inl rfl)) pgs_nil))) (pss_one (ps_set (i := 2) sc_lit_in_all.nd rfl (Or.inl rfl) (pe_op op_and (pv 2) (pv 4)))))
        (pss_one (ps_ret (pv 2))))), ?_⟩)
  · obtain ⟨a, S, W, rfl, _⟩ := h
    rfl
  · obtain ⟨a, S, W, rfl, ⟨ts, hs, ht⟩, q⟩ := h
    refine ⟨_, rfl, _, rfl, a, rfl, ⟨_, hs⟩, for_list (K := K) (a := a) (xs := ts.map V.ref) (fun i σ H' => ∃ v u, σ = [some (.ref a), some (nV W), some (nV ((S.take i).foldl (fun f s => f &&& s.2) W)), v, u] ∧ H = H')
      ⟨none, none, rfl, rfl⟩ (fun i σ H' _ h => h.elim fun v h => h.elim fun u h => by rw [← h.2]; exact hs) ?_ ?_⟩
    · rintro i y σ H' hi ⟨v, u, rfl, rfl⟩
      obtain ⟨t, hz, rfl⟩ := get_map hi
      obtain ⟨s, hS, hT⟩ := ht.at hz
      refine ⟨t, _, rfl, SqT.of hT, rfl, _, _, rfl, _, _, rfl, rfl, ?_⟩
      refine ⟨_, rfl, _, rfl, _, _, rfl, rfl, some (nV s.1), some (nV s.2), ?_, rfl⟩
      rw [foldl_more _ _ hS]
      simp only [andN]
      rfl
    · rintro σ H' ⟨v, u, rfl, rfl⟩
      rw [List.length_map, ht.len, List.take_length]
      exact ⟨_, rfl, q⟩
def sp_dark_in_all (K : PySem.W.Frag) : Sp := fun vs H Q _ => ∃ (a : Addr) (S : Sights) (W : Nat), vs = [.ref a, nV W] ∧ SightsAt K H a S ∧ Q (nV (darkN W S)) H
theorem ok_dark_in_all (T : Txt K mg) : FnOk P w K mg base CX0 1 T.f_dark_in_all T.fd_dark_in_all P_dark_in_all (sp_dark_in_all K) := by
  refine T.F_dark_in_all.ok sc_dark_in_all (fun vs H Q E h => ?_) (fun cdv A outer s H vs Q E hr h => ⟨_, (pss_cons (ps_set (i := 2) sc_dark_in_all.nd rfl (Or.inl rfl) (pv 1))
        (pss_cons (ps_for PassesOwn.never rfl (pi_list (pv 0)) (pg_tup rfl (pgs_cons (pg_name (i := 3) sc_dark_in_all.nd rfl (Or.inl rfl)) (pgs_cons (pg_name (i := 4) sc_dark_in_all.nd rfl (Or.inl rfl)) pgs_nil))) (pss_one (ps_set (i := 2) sc_dark_in_all.nd rfl (Or.inl rfl) (pe_op op_and (pv 2) (pe_op op_xor (pv 1) (pv 4))))))
        (pss_one (ps_ret (pv 2))))), ?_⟩)
  · obtain ⟨a, S, W, rfl, _⟩ := h
    rfl
  · obtain ⟨a, S, W, rfl, ⟨ts, hs, ht⟩, q⟩ := h
    refine ⟨_, rfl, _, rfl, a, rfl, ⟨_, hs⟩, for_list (K := K) (a := a) (xs := ts.map V.ref) (fun i σ H' => ∃ v u, σ = [some (.ref a), some (nV W), some (nV ((S.take i).foldl (fun f s => f &&& (W ^^^ s.2)) W)), v, u] ∧ H = H')
      ⟨none, none, rfl, rfl⟩ (fun i σ H' _ h => h.elim fun v h => h.elim fun u h => by rw [← h.2]; exact hs) ?_ ?_⟩
    · rintro i y σ H' hi ⟨v, u, rfl, rfl⟩
      obtain ⟨t, hz, rfl⟩ := get_map hi
      obtain ⟨s, hS, hT⟩ := ht.at hz
      refine ⟨t, _, rfl, SqT.of hT, rfl, _, _, rfl, _, _, rfl, rfl, ?_⟩
      refine ⟨_, rfl, _, rfl, _, rfl, _, _, rfl, rfl, _, _, rfl, rfl, some (nV s.1), some (nV s.2), ?_, rfl⟩
      rw [foldl_more _ _ hS]
      simp only [andN, xorN]
      rfl
    · rintro σ H' ⟨v, u, rfl, rfl⟩
      rw [List.length_map, ht.len, List.take_length]
      exact ⟨_, rfl, q⟩
/-! count_at -/
def sp_count_at (K : PySem.W.Frag) : Sp := fun vs H Q _ => ∃ (t x : Nat) (b : Addr) (xs : List V), vs = [nV t, nV x, .ref b] ∧ SqL K H b xs ∧ 0 < xs.length ∧ Q (nV ((x + t) % xs.length)) H
theorem ok_count_at (T : Txt K mg) : FnOk P w K mg base CX0 1 T.f_count_at T.fd_count_at P_count_at (sp_count_at K) := by
  refine T.F_count_at.ok sc_count_at (fun vs H Q E h => ?_) (fun cdv A outer s H vs Q E hr h => ⟨_, (pss_one (ps_ret (pe_op op_mod (pe_op op_add (pv 1) (pv 0)) (pe_callB call_len_seq rfl T.b_len boot_len (pa_cons (pv 2) pa_nil))))), ?_⟩)
  · obtain ⟨t, x, b, xs, rfl, _⟩ := h
    rfl
  · obtain ⟨t, x, b, xs, rfl, hb, h0, q⟩ := h
    refine ⟨_, rfl, _, rfl, _, _, rfl, rfl, _, rfl, b, _, rfl, .inl hb, _, _, rfl, rfl, (by show (0 : Int) < (xs.length : Int); omega), ?_⟩
    have e : ((x : Int) + (t : Int)) % (xs.length : Int) = (((x + t) % xs.length : Nat) : Int) := by rw [Int.natCast_emod, Int.natCast_add]
    show Q (.int (((x : Int) + (t : Int)) % (xs.length : Int))) H
    rw [e]
    exact q
end
end Bs

set_option Elab.async false
set_option linter.all false
set_option maxRecDepth 100000
set_option maxHeartbeats 4000000
namespace Bs
open PySem PySem.Spec PyProof.Rows L2
theorem Same.new {H : Hp} {p : Addr} {o : HO} (h : H p = none) : Same H (upd H p o) := fun a u e => by
  rw [upd_ne (ne_of_none e h)]
  exact e
theorem SightsAt.same {K : PySem.W.Frag} {H H' : Hp} {a : Addr} {S : Sights} (h : SightsAt K H a S) (k : Same H H') : SightsAt K H' a S := by
  obtain ⟨ts, h1, h2⟩ := h
  exact ⟨ts, k.seq h1, h2.mono fun t xs e => k _ _ e⟩
theorem valV_no : ∀ {l : List (Nat × Nat)} {k : Nat}, (∀ p ∈ l, p.1 ≠ k) → valV (dN l) (Sum.inl (k : Int) : Key) = none
  | [], _, _ => rfl
  | p :: r, k, h => by
    show valV ((Sum.inl (p.1 : Int), nV p.2) :: dN r) _ = none
    rw [valV_neg (fun e => h p List.mem_cons_self (by have e2 : (p.1 : Int) = (k : Int) := Sum.inl.inj e; omega))]
    exact valV_no fun q hq => h q (List.mem_cons_of_mem _ hq)
theorem dN_len (l : List (Nat × Nat)) : (dN l).length = l.length := List.length_map ..
theorem dN_snoc {l : List (Nat × Nat)} {k v : Nat} (h : ∀ p ∈ l, p.1 ≠ k) : putK (dN l) (Sum.inl (k : Int) : Key) (nV v) = dN (l ++ [(k, v)]) := by
  rw [putK_new _ (valV_no h)]
  show _ = (l ++ [(k, v)]).map _
  rw [List.map_append]
  rfl
theorem small_line {n : Nat} (h : n ≤ 100000) : n < sizeLine := Nat.lt_of_le_of_lt h (by decide)
section
variable {P : Program} {w : World} {K : PySem.W.Frag} {mg : Str → Option Value} {base : Heap}
/-! wrong_strokes -/
def sp_wrong_strokes (K : PySem.W.Frag) : Sp := fun vs H Q _ => ∃ (x : Nat) (a b : Addr) (S : Sights) (pics : List Nat), vs = [nV x, .ref a, .ref b] ∧ SightsAt K H a S ∧ SqL K H b (pics.map nV) ∧ 0 < pics.length ∧ Q (nV (wrongN x S pics)) H
theorem ok_wrong_strokes (T : Txt K mg) : FnOk P w K mg base CX0 2 T.f_wrong_strokes T.fd_wrong_strokes P_wrong_strokes (sp_wrong_strokes K) := by
  have G_count_at := ok_count_at (P := P) (w := w) (base := base) T
  refine T.F_wrong_strokes.ok sc_wrong_strokes (fun vs H Q E h => ?_) (fun cdv A outer s H vs Q E hr h => ⟨_, (pss_cons (ps_set (i := 3) sc_wrong_strokes.nd rfl (Or.inl rfl) pe_int)
        (pss_cons (ps_for PassesOwn.never rfl (pi_list (pv 1)) (pg_tup rfl (pgs_cons (pg_name (i := 4) sc_wrong_strokes.nd rfl (Or.inl rfl)) (pgs_cons (pg_name (i := 5) sc_wrong_strokes.nd rfl (Or.inl rfl)) pgs_nil))) (pss_one (ps_set (i := 3) sc_wrong_strokes.nd rfl (Or.inl rfl) (pe_op op_or (pv 3) (pe_op op_xor (pv 5) (pe_ix ix_list (pv 2) (pe_call G_count_at (hr.mono (by decide)) rfl T.g_count_at T.k_count_at T.bn_count_at .nil pass0 (pa_cons (pv 4) (pa_cons (pv 0) (pa_cons (pv 2) pa_nil)))) (fun _ _ => rfl)))))))
        (pss_one (ps_ret (pv 3))))), ?_⟩)
  · obtain ⟨x, a, b, S, pics, rfl, _⟩ := h
    rfl
  · obtain ⟨x, a, b, S, pics, rfl, ⟨ts, hs, ht⟩, hb, h0, q⟩ := h
    refine ⟨_, rfl, a, rfl, ⟨_, hs⟩, for_list (K := K) (a := a) (xs := ts.map V.ref) (fun i σ H' => ∃ v u, σ = [some (nV x), some (.ref a), some (.ref b), some (nV ((S.take i).foldl (fun w s => w ||| (s.2 ^^^ pics.getD ((x + s.1) % pics.length) 0)) 0)), v, u] ∧ H = H')
      ⟨none, none, rfl, rfl⟩ (fun i σ H' _ h => h.elim fun v h => h.elim fun u h => by rw [← h.2]; exact hs) ?_ ?_⟩
    · rintro i y σ H' hi ⟨v, u, rfl, rfl⟩
      obtain ⟨t, hz, rfl⟩ := get_map hi
      obtain ⟨s, hS, hT⟩ := ht.at hz
      have hm : (x + s.1) % pics.length < pics.length := Nat.mod_lt _ h0
      have hp : pics[(x + s.1) % pics.length]? = some (pics.getD ((x + s.1) % pics.length) 0) := by
        rw [List.getD_eq_getElem?_getD, List.getElem?_eq_getElem hm]
        rfl
      refine ⟨t, _, rfl, SqT.of hT, rfl, _, _, rfl, _, _, rfl, rfl, ?_⟩
      refine ⟨_, rfl, _, rfl, _, rfl, _, rfl, _, rfl, _, rfl, s.1, x, b, _, rfl, hb, (by rw [List.length_map]; exact h0), b, _, _, _, rfl, rfl, hb, at_of (j := (x + s.1) % pics.length) (by rw [List.length_map]) (map_get hp), _, _, rfl, rfl, _, _, rfl, rfl, some (nV s.1), some (nV s.2), ?_, rfl⟩
      · rw [foldl_more _ _ hS]
        simp only [xorN, orN]
        rfl
    · rintro σ H' ⟨v, u, rfl, rfl⟩
      rw [List.length_map, ht.len, List.take_length]
      exact ⟨_, rfl, q⟩
/-! broken_by_number -/
def sp_broken_by_number (K : PySem.W.Frag) : Sp := fun vs H Q _ => ∃ (a b : Addr) (S : Sights) (pics : List Nat) (wk : Nat), vs = [.ref a, .ref b, nV wk] ∧ SightsAt K H a S ∧ SqL K H b (pics.map nV) ∧ 0 < pics.length ∧ pics.length ≤ 1000 ∧
  ∀ p, H p = none → Q (.ref p) (upd H p (.dK (dN (brokenN wk S pics))))
theorem ok_broken_by_number (T : Txt K mg) : FnOk P w K mg base CX0 3 T.f_broken_by_number T.fd_broken_by_number P_broken_by_number (sp_broken_by_number K) := by
  have G_wrong_strokes := ok_wrong_strokes (P := P) (w := w) (base := base) T
  refine T.F_broken_by_number.ok sc_broken_by_number (fun vs H Q E h => ?_) (fun cdv A outer s H vs Q E hr h => ⟨_, (pss_cons (ps_set (i := 3) sc_broken_by_number.nd rfl (Or.inl rfl) pe_dnewK)
        (pss_cons (ps_for PassesOwn.never rfl (pi_range1 rfl T.b_range (pa_cons (pe_callB call_len_seq rfl T.b_len boot_len (pa_cons (pv 1) pa_nil)) pa_nil)) (pg_name (i := 4) sc_broken_by_number.nd rfl (Or.inl rfl)) (pss_cons (ps_set (i := 5) sc_broken_by_number.nd rfl (Or.inl rfl) (pe_call G_wrong_strokes (hr.mono (by decide)) rfl T.g_wrong_strokes T.k_wrong_strokes T.bn_wrong_strokes .nil pass0 (pa_cons (pv 4) (pa_cons (pv 0) (pa_cons (pv 1) pa_nil)))))
        (pss_one (ps_if (pt_cmpR op_eq (pe_op op_and (pv 5) (pv 2)) pe_int (nomark _)) (pss_one (ps_dput (hu_of hr) (pv 3) (pv 4) (pv 5) rfl)) pss_nil))))
        (pss_one (ps_ret (pv 3))))), ?_⟩)
  · obtain ⟨a, b, S, pics, wk, rfl, _⟩ := h
    rfl
  · obtain ⟨a, b, S, pics, wk, rfl, hs, hb, h0, h1, q⟩ := h
    refine fun p hp => ?_
    have sm : ∀ o, Same H (upd H p o) := fun o => Same.new hp
    refine ⟨_, rfl, b, _, rfl, .inl ((sm _).seq hb), _, rfl, ?_, ?_, ?_⟩
    · show -(2 ^ 62) ≤ (((pics.map nV).length : Nat) : Int)
      omega
    · show (((pics.map nV).length : Nat) : Int) < 2 ^ 62
      rw [List.length_map]
      omega
    rw [show (((pics.map nV).length : Nat) : Int).toNat = pics.length by rw [List.length_map]; rfl]
    refine for_range (lo := 0) (n := pics.length) (fun i σ H' => ∃ v u, σ = [some (.ref a), some (.ref b), some (nV wk), some (.ref p), v, u] ∧ H' = upd H p (.dK (dN (brokenTo wk S pics i)))) ⟨none, none, rfl, rfl⟩ ?_ ?_
    · rintro i σ H' hi ⟨v, u, rfl, rfl⟩
      refine ⟨_, rfl, _, rfl, _, rfl, i, a, b, S, pics, ?_, hs.same (sm _), (sm _).seq hb, h0, ?_⟩
      · show [V.int (0 + (i : Int)), _, _] = _
        rw [Int.zero_add]
      refine ⟨_, rfl, _, rfl, _, _, rfl, rfl, rfl, _, rfl, ?_⟩
      simp only [andN]
      refine ifD (fun c => ?_) (fun c => ?_)
      · have c' : wrongN i S pics &&& wk = 0 := by
          have := V.int.inj c
          omega
        refine ⟨_, rfl, _, rfl, _, rfl, p, upd H p (.dK (dN (brokenTo wk S pics (i + 1)))), rfl, ?_, ?_⟩
        · rw [brokenTo_yes c', ← dN_snoc fun z hz => Nat.ne_of_lt (brokenTo_lt hz)]
          have := DPut.k (H := upd H p (.dK (dN (brokenTo wk S pics i)))) (k := Sum.inl (i : Int)) (v := nV (wrongN i S pics)) upd_same (by rw [dN_len]; exact small_line (Nat.le_trans (brokenTo_len wk S pics i) (by omega)))
          rw [upd_upd] at this
          rw [Int.zero_add]
          exact this
        · exact ⟨_, _, rfl, rfl⟩
      · have c' : ¬ wrongN i S pics &&& wk = 0 := fun z => c (by rw [z]; rfl)
        exact ⟨_, _, rfl, by rw [brokenTo_no c']⟩
    · rintro σ H' ⟨v, u, rfl, rfl⟩
      exact ⟨_, rfl, q p hp⟩
end
end Bs

set_option Elab.async false
set_option linter.all false
set_option maxRecDepth 100000
set_option maxHeartbeats 4000000
namespace Bs
open PySem PySem.Spec PyProof.Rows L2
/-! lists of numbers that stand in the heap -/
def RowsAt (H : Hp) : List Addr → List (List Int) → Prop
  | [], [] => True
  | t :: ts, s :: S => H t = some (.lst (s.map V.int)) ∧ RowsAt H ts S
  | _, _ => False
theorem RowsAt.len {H : Hp} : ∀ {ts : List Addr} {S : List (List Int)}, RowsAt H ts S → ts.length = S.length
  | [], [], _ => rfl
  | t :: ts, s :: S, h => congrArg (· + 1) (RowsAt.len h.2)
  | [], _ :: _, h => h.elim
  | _ :: _, [], h => h.elim
theorem RowsAt.at {H : Hp} : ∀ {ts : List Addr} {S : List (List Int)} {i : Nat} {t : Addr}, RowsAt H ts S → ts[i]? = some t → ∃ s, S[i]? = some s ∧ H t = some (.lst (s.map V.int))
  | t :: ts, s :: S, 0, u, h, e => by
    have e' : t = u := Option.some.inj e
    subst e'
    exact ⟨s, rfl, h.1⟩
  | t :: ts, s :: S, i + 1, u, h, e => RowsAt.at (ts := ts) (S := S) (i := i) h.2 e
  | [], _, _, _, _, e => by cases e
  | _ :: _, [], _, _, h, _ => h.elim
section
variable {P : Program} {w : World} {K : PySem.W.Frag} {mg : Str → Option Value} {base : Heap}
/-! places_of -/
def sp_places_of (K : PySem.W.Frag) : Sp := fun vs H Q _ => ∃ (p n : Nat), vs = [nV p, nV n] ∧ n ≤ 1000 ∧ ∀ l, H l = none → Q (.ref l) (upd H l (.lst ((unpackN n p).map nV)))
theorem ok_places_of (T : Txt K mg) : FnOk P w K mg base CX0 1 T.f_places_of T.fd_places_of P_places_of (sp_places_of K) := by
  refine T.F_places_of.ok sc_places_of (fun vs H Q E h => ?_) (fun cdv A outer s H vs Q E hr h => ⟨_, (pss_cons (ps_set (i := 2) sc_places_of.nd rfl (Or.inl rfl) (pe_lst pa_nil))
        (pss_cons (ps_set (i := 3) sc_places_of.nd rfl (Or.inl rfl) (pv 0))
        (pss_cons (ps_for PassesOwn.never rfl (pi_range1 rfl T.b_range (pa_cons (pv 1) pa_nil)) (pg_name (i := 4) sc_places_of.nd rfl (Or.inl rfl)) (pss_cons (ps_expr (pe_bm PySem.F.plainAttrs_list PySem.F.slot_list_append PySem.F.type_list_append mt_append (pv 2) (pa_cons (pe_op op_mod (pv 3) pe_int) pa_nil)))
        (pss_one (ps_set (i := 3) sc_places_of.nd rfl (Or.inl rfl) (pe_op op_fdiv (pv 3) pe_int)))))
        (pss_cons (ps_expr (pe_bm0 PySem.F.plainAttrs_list PySem.F.slot_list_reverse PySem.F.type_list_reverse mt_reverse (pv 2)))
        (pss_one (ps_ret (pv 2))))))), ?_⟩)
  · obtain ⟨p, n, rfl, _⟩ := h
    rfl
  · obtain ⟨p, n, rfl, hn, q⟩ := h
    refine ⟨by decide, fun l hl => ?_⟩
    refine ⟨_, rfl, _, rfl, _, rfl, ?_, ?_, ?_⟩
    · show -(2 ^ 62) ≤ (n : Int)
      omega
    · show (n : Int) < 2 ^ 62
      omega
    refine for_range (lo := 0) (n := n) (fun i σ H' => ∃ v, σ = [some (nV p), some (nV n), some (.ref l), some (nV (p / 128 ^ i)), v] ∧ H' = upd H l (.lst ((unpackR i p).map nV))) ⟨none, ?_, rfl⟩ ?_ ?_
    · rw [Nat.pow_zero, Nat.div_one]
      rfl
    · rintro i σ H' hi ⟨v, rfl, rfl⟩
      refine ⟨_, rfl, .inl ⟨rfl, _, SqL.of upd_same⟩, _, rfl, _, _, rfl, rfl, (by show (0 : Int) < 128; decide), l, _, _, rfl, rfl, upd_same, ?_, ?_⟩
      · rw [List.length_map, unpackR_len]
        exact small_line (by omega)
      refine ⟨_, rfl, _, _, rfl, rfl, ⟨by decide, by decide⟩, some (.int (0 + (i : Int))), ?_, ?_⟩
      · rw [Nat.pow_succ, ← Nat.div_div_eq_div_mul]
        rfl
      · rw [upd_upd, unpackR_snoc, List.map_append]
        rfl
    · rintro σ H' ⟨v, rfl, rfl⟩
      refine ⟨_, rfl, .inl ⟨rfl, _, SqL.of upd_same⟩, l, _, rfl, rfl, upd_same, _, rfl, ?_⟩
      rw [upd_upd, ← List.map_reverse]
      exact q l hl
/-! answer_with -/
def sp_answer_with (K : PySem.W.Frag) : Sp := fun vs H Q _ => ∃ (z : Int) (a : Addr) (ts : List Addr) (rows : List (List Int)), vs = [.int z, .ref a] ∧ SqL K H a (ts.map V.ref) ∧ RowsAt H ts rows ∧ (toldN rows).length ≤ 10000 ∧
  ∀ l, H l = none → Q (.ref l) (upd H l (.lst ((z :: toldN rows).map V.int)))
theorem ok_answer_with (T : Txt K mg) : FnOk P w K mg base CX0 1 T.f_answer_with T.fd_answer_with P_answer_with (sp_answer_with K) := by
  refine T.F_answer_with.ok sc_answer_with (fun vs H Q E h => ?_) (fun cdv A outer s H vs Q E hr h => ⟨_, (pss_cons (ps_set (i := 2) sc_answer_with.nd rfl (Or.inl rfl) (pe_lst (pa_cons (pv 0) pa_nil)))
        (pss_cons (ps_for PassesOwn.never rfl (pi_list (pv 1)) (pg_name (i := 3) sc_answer_with.nd rfl (Or.inl rfl)) (pss_cons (ps_expr (pe_bm PySem.F.plainAttrs_list PySem.F.slot_list_append PySem.F.type_list_append mt_append (pv 2) (pa_cons (pe_callB call_len_seq rfl T.b_len boot_len (pa_cons (pv 3) pa_nil)) pa_nil)))
        (pss_one (ps_expr (pe_bm PySem.F.plainAttrs_list PySem.F.slot_list_extend PySem.F.type_list_extend mt_extend (pv 2) (pa_cons (pv 3) pa_nil))))))
        (pss_one (ps_ret (pv 2))))), ?_⟩)
  · obtain ⟨z, a, ts, rows, rfl, _⟩ := h
    rfl
  · obtain ⟨z, a, ts, rows, rfl, ha, hro, hz, q⟩ := h
    refine ⟨_, rfl, (show 1 ≤ sizeLine by decide), fun l hl => ?_⟩
    have sm : ∀ o, Same H (upd H l o) := fun o => Same.new hl
    refine ⟨_, rfl, a, rfl, ⟨_, (sm _).seq ha⟩, for_list (K := K) (a := a) (xs := ts.map V.ref) (fun i σ H' => ∃ v, σ = [some (.int z), some (.ref a), some (.ref l), v] ∧ H' = upd H l (.lst ((z :: toldN (rows.take i)).map V.int)))
      ⟨none, rfl, rfl⟩ (fun i σ H' _ h => h.elim fun v h => by rw [h.2]; exact (sm _).seq ha) ?_ ?_⟩
    · rintro i y σ H' hi ⟨v, rfl, rfl⟩
      obtain ⟨t, ht, rfl⟩ := get_map hi
      obtain ⟨r, hr, hrt⟩ := hro.at ht
      have hlen : (toldN (rows.take i)).length + 1 + r.length ≤ 10000 := by
        have := toldN_take_len rows (i + 1)
        rw [take_more hr, toldN_len] at this
        omega
      refine ⟨_, rfl, .inl ⟨rfl, _, SqL.of upd_same⟩, _, rfl, t, _, rfl, .inl ((sm _).seq (SqL.of hrt)), l, _, _, rfl, rfl, upd_same, ?_, ?_⟩
      · rw [List.length_map, List.length_cons]
        exact small_line (by omega)
      refine ⟨_, rfl, .inl ⟨rfl, _, SqL.of upd_same⟩, _, rfl, l, t, _, r.map V.int, rfl, rfl, upd_same, ?_, ?_, some (.ref t), rfl, ?_⟩
      · rw [upd_upd, upd_ne (ne_of_none hrt hl)]
        exact hrt
      · rw [List.length_append, List.length_map, List.length_cons, List.length_map, List.length_cons, List.length_nil]
        exact Nat.le_of_lt (small_line (by omega))
      · rw [upd_upd, upd_upd, take_more hr, toldN_snoc, List.length_map, List.append_assoc, List.map_cons, List.map_cons, List.map_append]
        rfl
    · rintro σ H' ⟨v, rfl, rfl⟩
      rw [List.length_map, hro.len, List.take_length]
      exact ⟨_, rfl, q l hl⟩
/-! behind_others -/
def sp_behind_others (K : PySem.W.Frag) : Sp := fun vs H Q _ => ∃ (a : Addr) (ns : List Nat) (k : Nat), vs = [.ref a, nV k] ∧ SqL K H a (ns.map nV) ∧ ∀ l, H l = none → Q (.ref l) (upd H l (.lst ((pickN ns k).map nV)))
theorem ok_behind_others (T : Txt K mg) : FnOk P w K mg base CX0 1 T.f_behind_others T.fd_behind_others P_behind_others (sp_behind_others K) := by
  refine T.F_behind_others.ok sc_behind_others (fun vs H Q E h => ?_) (fun cdv A outer s H vs Q E hr h => ⟨_, (pss_one (ps_ret (pe_slice sl_list (pv 0) (po_some (pv 1)) (po_some (pe_op op_add (pv 1) pe_int))))), ?_⟩)
  · obtain ⟨a, ns, k, rfl, _⟩ := h
    rfl
  · obtain ⟨a, ns, k, rfl, ha, q⟩ := h
    refine ⟨_, rfl, _, rfl, (k : Int), rfl, _, rfl, _, _, rfl, rfl, ((k + 1 : Nat) : Int), rfl, a, _, rfl, ha, fun l hl => ?_⟩
    have e : cutV (ns.map nV) (some (k : Int)) (some ((k + 1 : Nat) : Int)) = (pickN ns k).map nV := by
      unfold cutV
      rw [HT.sIx_nat, HT.sIx_nat, List.length_map, ← List.map_drop, ← List.map_take, slice_pick]
    rw [e]
    exact q l hl
/-! should_light -/
def sp_should_light (K : PySem.W.Frag) : Sp := fun vs H Q _ => ∃ (c n : Nat), vs = [nV c, nV n] ∧ 1 ≤ n ∧ n ≤ 3 ∧ c < 10 ^ n ∧ ∀ H', Same H H' → Q (nV (shouldN n c)) H'
theorem ok_should_light (T : Txt K mg) : FnOk P w K mg base CX0 2 T.f_should_light T.fd_should_light P_should_light (sp_should_light K) := by
  have G_picture_of := ok_picture_of (P := P) (w := w) (base := base) T
  refine T.F_should_light.ok sc_should_light (fun vs H Q E h => ?_) (fun cdv A outer s H vs Q E hr h => ⟨_, (pss_cons (ps_set (i := 2) sc_should_light.nd rfl (Or.inl rfl) (pe_bm PySem.F.plainAttrs_str PySem.F.slot_str_zfill PySem.F.type_str_zfill mt_zfill (pe_callTy call_str_int rfl T.b_str (by decide +kernel) (pa_cons (pv 0) pa_nil)) (pa_cons (pv 1) pa_nil)))
        (pss_one (ps_ret (pe_call G_picture_of (hr.mono (by decide)) rfl T.g_picture_of T.k_picture_of T.bn_picture_of .nil pass0 (pa_cons (pe_lc (own := [("digit", 3)]) (g := gName 3) (tt := tYes) rfl sc_should_light.nd (pi_str (pv 2)) (blkOk_by (own := [("digit", 3)]) (N := N_should_light) (sc := defScope s_should_light) (by decide +kernel)) (fun _ _ _ _ _ => (pg_name (i := 3) sc_should_light.nd rfl (Or.inl rfl))) (fun _ _ _ _ _ => pts_nil) (fun _ _ _ _ _ => (pe_ix (ixT K rfl) (pe_gtup rfl T.c_DIGIT_STROKES) (pe_callTy call_int_str rfl T.b_int (by decide +kernel) (pa_cons (pv 3) pa_nil)) (fun _ _ => rfl)))) pa_nil))))), ?_⟩)
  · obtain ⟨c, n, rfl, _⟩ := h
    rfl
  · obtain ⟨c, n, rfl, h1, h3, hc, q⟩ := h
    have es := signs_of h1 h3 hc
    refine ⟨_, rfl, (c : Int), rfl, ?_, rfl, _, rfl, _, _, rfl, rfl, ?_, ?_⟩
    · have h := Nat.log2_le_self c
      have h2 : 10 ^ n ≤ 10 ^ 3 := Nat.pow_le_pow_right (by decide) h3
      show c.log2 < 1920
      omega
    · have h : n = 1 ∨ n = 2 ∨ n = 3 := by omega
      rcases h with rfl | rfl | rfl <;> decide
    generalize Txt.zfill (Str.ofString (toString (c : Int))) (n : Int) = x at es ⊢
    have esz : x.cps.size = n := by rw [← Array.length_toList, es, List.length_map, List.length_range]
    refine ⟨_, rfl, x, rfl, fun D hD => ?_⟩
    refine lc_it walk_str (fun i H' => H' = upd H D (.lst (((List.range i).map fun k => DIG.getD (digN n c k) 0).map nV))) rfl (fun _ _ _ _ => trivial) ?_ ?_
    · rintro i y H1 H2 hi rfl ⟨rfl, d, hd, rfl⟩
      have hin : i < n := by omega
      have ed : d = 48 + digN n c i := by
        rw [← Array.getElem?_toList, es, List.getElem?_map, List.getElem?_range hin] at hd
        exact (Option.some.inj hd).symm
      subst ed
      have hd10 : digN n c i < 10 := Nat.mod_lt _ (by decide)
      refine ⟨rfl, ?_⟩
      refine ⟨_, rfl, _, _, rfl, digit_int _ hd10, (by show 1 ≤ 640; decide), T.a_DIGIT_STROKES, _, _, _, rfl, rfl, T.q_DIGIT_STROKES _, at_of (j := digN n c i) (v := nV (DIG.getD (digN n c i) 0)) rfl ?_, _, upd_same, ?_, ?_⟩
      · have hall : ∀ d : Nat, d < 10 → (([119, 36, 93, 109, 46, 107, 123, 37, 127, 111] : List Int).map V.int)[d]? = some (nV (DIG.getD d 0)) := by decide
        exact hall _ hd10
      · rw [List.length_map, List.length_map, List.length_range]
        exact small_line (by omega)
      · rw [upd_upd, List.range_succ, List.map_append, List.map_append]
        rfl
    · rintro H' rfl
      refine ⟨D, _, rfl, SqL.of upd_same, ?_⟩
      rw [esz]
      exact q _ (Same.new hD)
/-! whole_picture, stroke_alone -/
theorem flat_one {α : Type} (n : Nat) (v : α) : (List.replicate n [v]).flatten = List.replicate n v := by
  induction n with
  | zero => rfl
  | succ n ih =>
    rw [List.replicate_succ, List.flatten_cons, ih, List.replicate_succ]
    rfl
def sp_whole_picture (K : PySem.W.Frag) : Sp := fun vs H Q _ => ∃ (n : Nat), vs = [nV n] ∧ n ≤ 3 ∧ ∀ H', Same H H' → Q (nV (wholeN n)) H'
theorem ok_whole_picture (T : Txt K mg) : FnOk P w K mg base CX0 2 T.f_whole_picture T.fd_whole_picture P_whole_picture (sp_whole_picture K) := by
  have G_picture_of := ok_picture_of (P := P) (w := w) (base := base) T
  refine T.F_whole_picture.ok sc_whole_picture (fun vs H Q E h => ?_) (fun cdv A outer s H vs Q E hr h => ⟨_, (pss_one (ps_ret (pe_call G_picture_of (hr.mono (by decide)) rfl T.g_picture_of T.k_picture_of T.bn_picture_of .nil pass0 (pa_cons (pe_op op_rep (pe_lst (pa_cons (pe_gint rfl T.c_ALL_STROKES) pa_nil)) (pv 0)) pa_nil)))), ?_⟩)
  · obtain ⟨n, rfl, _⟩ := h
    rfl
  · obtain ⟨n, rfl, h3, q⟩ := h
    refine ⟨(by decide : 1 ≤ sizeLine), fun l hl => ?_⟩
    refine ⟨_, rfl, l, _, _, rfl, rfl, upd_same, ?_, ?_, ?_, fun p hp => ?_⟩
    · show -(2 ^ 63) ≤ (n : Int)
      omega
    · show (n : Int) < 2 ^ 63
      omega
    · show 1 * (n : Int).toNat ≤ sizeLine
      rw [Int.toNat_natCast, Nat.one_mul]
      exact Nat.le_of_lt (small_line (by omega))
    refine ⟨p, List.replicate n 127, rfl, ?_, ?_⟩
    · refine SqL.of ?_
      rw [upd_same, Int.toNat_natCast, flat_one, List.map_replicate]
      rfl
    · exact q _ ((Same.new hl).trans (Same.new hp))
def sp_stroke_alone (K : PySem.W.Frag) : Sp := fun vs H Q _ => ∃ (k i n : Nat), vs = [nV k, nV i, nV n] ∧ k < n ∧ n ≤ 3 ∧ i < 7 ∧ ∀ H', Same H H' → Q (nV (aloneN n k i)) H'
theorem ok_stroke_alone (T : Txt K mg) : FnOk P w K mg base CX0 2 T.f_stroke_alone T.fd_stroke_alone P_stroke_alone (sp_stroke_alone K) := by
  have G_picture_of := ok_picture_of (P := P) (w := w) (base := base) T
  refine T.F_stroke_alone.ok sc_stroke_alone (fun vs H Q E h => ?_) (fun cdv A outer s H vs Q E hr h => ⟨_, (pss_cons (ps_set (i := 3) sc_stroke_alone.nd rfl (Or.inl rfl) (pe_op op_rep (pe_lst (pa_cons pe_int pa_nil)) (pv 2)))
        (pss_cons (ps_asg (pe_op op_shl pe_int (pv 1)) (pg_sub (pv 3) (pv 0) set_list))
        (pss_one (ps_ret (pe_call G_picture_of (hr.mono (by decide)) rfl T.g_picture_of T.k_picture_of T.bn_picture_of .nil pass0 (pa_cons (pv 3) pa_nil)))))), ?_⟩)
  · obtain ⟨k, i, n, rfl, _⟩ := h
    rfl
  · obtain ⟨k, i, n, rfl, hk, h3, hi, q⟩ := h
    refine ⟨(by decide : 1 ≤ sizeLine), fun l hl => ?_⟩
    refine ⟨_, rfl, l, _, _, rfl, rfl, upd_same, ?_, ?_, ?_, fun p hp => ?_⟩
    · show -(2 ^ 63) ≤ (n : Int)
      omega
    · show (n : Int) < 2 ^ 63
      omega
    · show 1 * (n : Int).toNat ≤ sizeLine
      rw [Int.toNat_natCast, Nat.one_mul]
      exact Nat.le_of_lt (small_line (by omega))
    have s1 : Same H (upd H l (.lst [nV 0])) := Same.new hl
    have e1 : (List.replicate (n : Int).toNat [V.int 0]).flatten = List.replicate n (V.int 0) := by rw [Int.toNat_natCast, flat_one]
    -- lit[place] = 1 << stroke
    refine ⟨_, rfl, _, _, rfl, rfl, ⟨Int.natCast_nonneg i, (by show (i : Int) ≤ 1000000; omega), (by decide)⟩, ?_⟩
    refine ⟨_, rfl, _, rfl, p, _, _, k, rfl, rfl, upd_same, ?_, ?_⟩
    · show (if (0 : Int) ≤ (k : Int) then (if (k : Int) < ((List.flatten _).length : Nat) then some (k : Int).toNat else none) else _) = some k
      rw [if_pos (Int.natCast_nonneg k), e1, List.length_replicate, if_pos (by omega), Int.toNat_natCast]
    refine ⟨_, rfl, p, (List.replicate n 0).set k (2 ^ i), rfl, ?_, ?_⟩
    · refine SqL.of ?_
      rw [upd_same, e1, List.map_set, List.map_replicate]
      have e2 : (1 : Int) * 2 ^ (i : Int).toNat = ((2 ^ i : Nat) : Int) := by
        rw [Int.toNat_natCast, Int.one_mul]
        exact (Int.natCast_pow 2 i).symm
      show some (HO.lst (List.set _ k (V.int ((1 : Int) * 2 ^ (i : Int).toNat)))) = _
      rw [e2]
      rfl
    · refine q _ ?_
      rw [upd_upd]
      exact s1.trans (Same.new hp)
/-! all_pictures -/
def sp_all_pictures (K : PySem.W.Frag) : Sp := fun vs H Q _ => ∃ (n : Nat), vs = [nV n] ∧ 1 ≤ n ∧ n ≤ 3 ∧ ∀ H' l, Same H H' → H l = none → H' l = some (.lst ((picsN n).map nV)) → Q (.ref l) H'
theorem ok_all_pictures (T : Txt K mg) : FnOk P w K mg base CX0 3 T.f_all_pictures T.fd_all_pictures P_all_pictures (sp_all_pictures K) := by
  have G_should_light := ok_should_light (P := P) (w := w) (base := base) T
  refine T.F_all_pictures.ok sc_all_pictures (fun vs H Q E h => ?_) (fun cdv A outer s H vs Q E hr h => ⟨_, (pss_one (ps_ret (pe_lc (own := [("count", 1)]) (g := gName 1) (tt := tYes) rfl sc_all_pictures.nd (pi_range1 rfl T.b_range (pa_cons (pe_ix ix_tup (pe_gtup rfl T.c_HOW_MANY_NUMBERS) (pv 0) (fun _ _ => rfl)) pa_nil)) (blkOk_by (own := [("count", 1)]) (N := N_all_pictures) (sc := defScope s_all_pictures) (by decide +kernel)) (fun _ _ _ _ _ => (pg_name (i := 1) sc_all_pictures.nd rfl (Or.inl rfl))) (fun _ _ _ _ _ => pts_nil) (fun _ _ _ _ _ => (pe_call G_should_light (hr.mono (by decide)) rfl T.g_should_light T.k_should_light T.bn_should_light .nil pass0 (pa_cons (pv 1) (pa_cons (pv 0) pa_nil))))))), ?_⟩)
  · obtain ⟨n, rfl, _⟩ := h
    rfl
  · obtain ⟨n, rfl, h1, h3, q⟩ := h
    have hpow : 10 ^ n ≤ 10 ^ 3 := Nat.pow_le_pow_right (by decide) h3
    refine ⟨_, rfl, T.a_HOW_MANY_NUMBERS, _, _, .int ((10 ^ n : Nat) : Int), rfl, rfl, T.q_HOW_MANY_NUMBERS _, at_of (j := n) rfl ?_, _, rfl, ?_, ?_, fun D hD => ?_⟩
    · have h : n = 1 ∨ n = 2 ∨ n = 3 := by omega
      rcases h with rfl | rfl | rfl <;> rfl
    · exact Int.le_trans (by decide) (Int.natCast_nonneg (10 ^ n))
    · exact Int.lt_of_le_of_lt (Int.ofNat_le.mpr hpow) (by decide)
    refine lc_range (lo := 0) (n := 10 ^ n) (fun i H' => Same H H' ∧ H' D = some (.lst (((List.range i).map (shouldN n)).map nV))) ⟨Same.new hD, upd_same⟩ ?_ ?_
    · rintro i H1 hi ⟨sm, e⟩
      refine ⟨rfl, ?_⟩
      refine ⟨_, rfl, _, rfl, i, n, ?_, h1, h3, hi, fun H2 s2 => ?_⟩
      · show [V.int (0 + (i : Int)), _] = _
        rw [Int.zero_add]
      refine ⟨_, s2 _ _ e, ?_, ?_, ?_⟩
      · rw [List.length_map, List.length_map, List.length_range]
        exact small_line (by omega)
      · exact fun b o hb => by
          rw [upd_ne (ne_of_none hb hD)]
          exact s2 _ _ (sm _ _ hb)
      · rw [upd_same, List.range_succ, List.map_append, List.map_append]
        rfl
    · rintro H' ⟨sm, e⟩
      exact q H' D sm hD e
end
end Bs

set_option Elab.async false
set_option linter.all false
set_option maxRecDepth 100000
set_option maxHeartbeats 4000000
namespace Bs
open PySem PySem.Spec PyProof.Rows L2
/-! fields -/
theorem lk_here {k : Str} {v : V} {r : List (Str × V)} : List.lookup k ((k, v) :: r) = some v := by
  have e : (k == k) = true := beq_self_eq_true k
  simp only [List.lookup, e]
theorem lk_past {k g : Str} {v : V} {r : List (Str × V)} (h : (k == g) = false) : List.lookup k ((g, v) :: r) = List.lookup k r := by
  simp only [List.lookup, h]
theorem put_here {f : Str} {v x : V} {r : List (Str × V)} : putF f v ((f, x) :: r) = (f, v) :: r := if_pos rfl
theorem put_past {f g : Str} {v x : V} {r : List (Str × V)} (h : ¬ g = f) : putF f v ((g, x) :: r) = (g, x) :: putF f v r := if_neg h
/-- the fields of what explains -/
def xF (n : Nat) (S : Sights) (pa ba : Addr) : List (Str × V) := [("pictures", .ref pa), ("whole", nV (wholeN n)), ("always_lit", nV (litN (wholeN n) S)), ("never_lit", nV (darkN (wholeN n) S)), ("working", nV (workN n S)), ("broken", .ref ba)]
section
variable {n : Nat} {S : Sights} {pa ba : Addr}
theorem xF_pictures : (xF n S pa ba).lookup ("pictures" : Str) = some (.ref pa) := lk_here
theorem xF_whole : (xF n S pa ba).lookup ("whole" : Str) = some (nV (wholeN n)) := ((lk_past (by decide +kernel)).trans lk_here)
theorem xF_always_lit : (xF n S pa ba).lookup ("always_lit" : Str) = some (nV (litN (wholeN n) S)) := ((lk_past (by decide +kernel)).trans ((lk_past (by decide +kernel)).trans lk_here))
theorem xF_never_lit : (xF n S pa ba).lookup ("never_lit" : Str) = some (nV (darkN (wholeN n) S)) := ((lk_past (by decide +kernel)).trans ((lk_past (by decide +kernel)).trans ((lk_past (by decide +kernel)).trans lk_here)))
theorem xF_working : (xF n S pa ba).lookup ("working" : Str) = some (nV (workN n S)) := ((lk_past (by decide +kernel)).trans ((lk_past (by decide +kernel)).trans ((lk_past (by decide +kernel)).trans ((lk_past (by decide +kernel)).trans lk_here))))
theorem xF_broken : (xF n S pa ba).lookup ("broken" : Str) = some (.ref ba) := ((lk_past (by decide +kernel)).trans ((lk_past (by decide +kernel)).trans ((lk_past (by decide +kernel)).trans ((lk_past (by decide +kernel)).trans ((lk_past (by decide +kernel)).trans lk_here)))))
/-- no method is called like a field -/
theorem xF_no {m : Str} (h0 : (m == ("pictures" : Str)) = false := by decide +kernel) (h1 : (m == ("whole" : Str)) = false := by decide +kernel) (h2 : (m == ("always_lit" : Str)) = false := by decide +kernel) (h3 : (m == ("never_lit" : Str)) = false := by decide +kernel) (h4 : (m == ("working" : Str)) = false := by decide +kernel) (h5 : (m == ("broken" : Str)) = false := by decide +kernel) : (xF n S pa ba).lookup m = none := ((lk_past h0).trans ((lk_past h1).trans ((lk_past h2).trans ((lk_past h3).trans ((lk_past h4).trans ((lk_past h5).trans rfl))))))
end
section
variable {v0 v1 v2 v3 v4 v5 : V}
abbrev xP1 (v0 : V) : List (Str × V) := [("pictures", v0)]
abbrev xP2 (v0 v1 : V) : List (Str × V) := [("pictures", v0), ("whole", v1)]
abbrev xP3 (v0 v1 v2 : V) : List (Str × V) := [("pictures", v0), ("whole", v1), ("always_lit", v2)]
abbrev xP4 (v0 v1 v2 v3 : V) : List (Str × V) := [("pictures", v0), ("whole", v1), ("always_lit", v2), ("never_lit", v3)]
abbrev xP5 (v0 v1 v2 v3 v4 : V) : List (Str × V) := [("pictures", v0), ("whole", v1), ("always_lit", v2), ("never_lit", v3), ("working", v4)]
abbrev xP6 (v0 v1 v2 v3 v4 v5 : V) : List (Str × V) := [("pictures", v0), ("whole", v1), ("always_lit", v2), ("never_lit", v3), ("working", v4), ("broken", v5)]
theorem put_x1 : putF "whole" v1 (xP1 v0) = xP2 v0 v1 := ((put_past (by decide +kernel)).trans (congrArg _ rfl))
theorem put_x2 : putF "always_lit" v2 (xP2 v0 v1) = xP3 v0 v1 v2 := ((put_past (by decide +kernel)).trans (congrArg _ ((put_past (by decide +kernel)).trans (congrArg _ rfl))))
theorem put_x3 : putF "never_lit" v3 (xP3 v0 v1 v2) = xP4 v0 v1 v2 v3 := ((put_past (by decide +kernel)).trans (congrArg _ ((put_past (by decide +kernel)).trans (congrArg _ ((put_past (by decide +kernel)).trans (congrArg _ rfl))))))
theorem put_x4 : putF "working" v4 (xP4 v0 v1 v2 v3) = xP5 v0 v1 v2 v3 v4 := ((put_past (by decide +kernel)).trans (congrArg _ ((put_past (by decide +kernel)).trans (congrArg _ ((put_past (by decide +kernel)).trans (congrArg _ ((put_past (by decide +kernel)).trans (congrArg _ rfl))))))))
theorem put_x5 : putF "broken" v5 (xP5 v0 v1 v2 v3 v4) = xP6 v0 v1 v2 v3 v4 v5 := ((put_past (by decide +kernel)).trans (congrArg _ ((put_past (by decide +kernel)).trans (congrArg _ ((put_past (by decide +kernel)).trans (congrArg _ ((put_past (by decide +kernel)).trans (congrArg _ ((put_past (by decide +kernel)).trans (congrArg _ rfl))))))))))
theorem lk_x1_2 : (xP2 v0 v1).lookup ("whole" : Str) = some v1 := ((lk_past (by decide +kernel)).trans lk_here)
theorem lk_x1_3 : (xP3 v0 v1 v2).lookup ("whole" : Str) = some v1 := ((lk_past (by decide +kernel)).trans lk_here)
theorem lk_x1_4 : (xP4 v0 v1 v2 v3).lookup ("whole" : Str) = some v1 := ((lk_past (by decide +kernel)).trans lk_here)
theorem lk_x2_4 : (xP4 v0 v1 v2 v3).lookup ("always_lit" : Str) = some v2 := ((lk_past (by decide +kernel)).trans ((lk_past (by decide +kernel)).trans lk_here))
theorem lk_x3_4 : (xP4 v0 v1 v2 v3).lookup ("never_lit" : Str) = some v3 := ((lk_past (by decide +kernel)).trans ((lk_past (by decide +kernel)).trans ((lk_past (by decide +kernel)).trans lk_here)))
theorem lk_x4_5 : (xP5 v0 v1 v2 v3 v4).lookup ("working" : Str) = some v4 := ((lk_past (by decide +kernel)).trans ((lk_past (by decide +kernel)).trans ((lk_past (by decide +kernel)).trans ((lk_past (by decide +kernel)).trans lk_here))))
end
/-- all that was tracked is as it was, but at X -/
def Keep (X : List Addr) (H H' : Hp) : Prop := ∀ b o, H b = some o → b ∉ X → H' b = some o
theorem Keep.of {X : List Addr} {H H' : Hp} (s : Same H H') : Keep X H H' := fun b o e _ => s b o e
theorem Keep.sub {X Y : List Addr} {H H' : Hp} (s : Keep X H H') (h : ∀ b, b ∈ X → b ∈ Y) : Keep Y H H' := fun b o e hb => s b o e fun z => hb (h b z)
theorem Keep.trans {X : List Addr} {H H1 H2 : Hp} (s : Keep X H H1) (t : Keep X H1 H2) : Keep X H H2 := fun b o e hb => t b o (s b o e hb) hb
theorem Keep.put {X : List Addr} {H : Hp} {a : Addr} {o : HO} (h : a ∈ X) : Keep X H (upd H a o) := fun b u e hb => by
  rw [upd_ne (fun z => hb (by rw [z]; exact h))]
  exact e
theorem Keep.new {X : List Addr} {H : Hp} {a : Addr} {o : HO} (h : H a = none) : Keep X H (upd H a o) := Keep.of (Same.new h)
theorem SqL.keep {K : PySem.W.Frag} {X : List Addr} {H H' : Hp} {a : Addr} {xs : List V} (k : Keep X H H') (ha : a ∉ X) (h : SqL K H a xs) : SqL K H' a xs := by
  rcases h with (h | ⟨o, h⟩) | h
  · exact .inl (.inl (k _ _ h ha))
  · exact .inl (.inr ⟨o, k _ _ h ha⟩)
  · exact .inr h
/-- both classes -/
abbrev Txt.cc {K : PySem.W.Frag} {mg : Str → Option Value} (T : Txt K mg) : Addr × Addr := (T.C, T.C2)
/-- what explains, at xa -/
def XAt (C : Addr × Addr) (H : Hp) (xa pa : Addr) (n : Nat) (S : Sights) : Prop := ∃ dx ba, H xa = some (.ins C.2 dx (xF n S pa ba)) ∧ H ba = some (.dK (dN (brN n S)))
theorem XAt.mono {C : Addr × Addr} {H H' : Hp} {xa pa : Addr} {n : Nat} {S : Sights} (h : XAt C H xa pa n S) (k : ∀ b o, H b = some o → (∀ xs, o ≠ .lst xs) → H' b = some o) : XAt C H' xa pa n S := by
  obtain ⟨dx, ba, h1, h2⟩ := h
  exact ⟨dx, ba, k _ _ h1 (fun _ z => nomatch z), k _ _ h2 (fun _ z => nomatch z)⟩
theorem XAt.same {C : Addr × Addr} {H H' : Hp} {xa pa : Addr} {n : Nat} {S : Sights} (h : XAt C H xa pa n S) (k : Same H H') : XAt C H' xa pa n S := h.mono fun b o e _ => k b o e
theorem pow_le {n : Nat} (h : n ≤ 3) : 10 ^ n ≤ 1000 := Nat.le_trans (Nat.pow_le_pow_right (by decide) h) (by decide : 10 ^ 3 ≤ 1000)
theorem pow_pos10 (n : Nat) : 0 < 10 ^ n := Nat.pow_pos (by decide)
theorem decV {l : Nat} : decide (V.int (l : Int) = V.int 0) = decide (l = 0) := decide_eq_decide.mpr ⟨fun z => by have := V.int.inj z; omega, fun z => by rw [z]; rfl⟩
theorem getD_pics {n c : Nat} (h : c < 10 ^ n) : (picsN n)[c]? = some (shouldN n c) := by
  unfold picsN
  rw [List.getElem?_map, List.getElem?_range h]
  rfl
theorem dN_get {l : List (Nat × Nat)} {i : Nat} {p : Nat × Nat} (h : l[i]? = some p) : (dN l)[i]? = some (Sum.inl (p.1 : Int), nV p.2) := by
  unfold dN
  rw [List.getElem?_map, h]
  rfl
section
variable {P : Program} {w : World} {K : PySem.W.Frag} {mg : Str → Option Value} {base : Heap}
/-! __init__ -/
def sp_x_init (C : Addr × Addr) : Sp := fun vs H Q _ => ∃ (a dx sa pa n : _) (ts : List Addr) (S : Sights), vs = [.ref a, .ref sa, .ref pa, nV n] ∧ H a = some (.ins C.2 dx []) ∧ H sa = some (.lst (ts.map V.ref)) ∧ TupsAt H ts S ∧ H pa = some (.lst ((picsN n).map nV)) ∧ n ≤ 3 ∧
  ∀ H', XAt C H' a pa n S → Keep [a] H H' → Q .non H'
theorem ok_x_init (T : Txt K mg) : FnOk P w K mg base CX0 4 T.f_x_init T.fd_x_init P_x_init (sp_x_init T.cc) := by
  have G_whole_picture := ok_whole_picture (P := P) (w := w) (base := base) T
  have G_lit_in_all := ok_lit_in_all (P := P) (w := w) (base := base) T
  have G_dark_in_all := ok_dark_in_all (P := P) (w := w) (base := base) T
  have G_broken_by_number := ok_broken_by_number (P := P) (w := w) (base := base) T
  refine T.F_x_init.ok sc_x_init (fun vs H Q E h => ?_) (fun cdv A outer s H vs Q E hr h => ⟨_, (pss_cons (ps_fld (pv 0) (pv 2) rfl)
        (pss_cons (ps_fld (pv 0) (pe_call G_whole_picture (hr.mono (by decide)) rfl T.g_whole_picture T.k_whole_picture T.bn_whole_picture .nil pass0 (pa_cons (pv 3) pa_nil)) rfl)
        (pss_cons (ps_fld (pv 0) (pe_call G_lit_in_all (hr.mono (by decide)) rfl T.g_lit_in_all T.k_lit_in_all T.bn_lit_in_all .nil pass0 (pa_cons (pv 1) (pa_cons (pe_fld (pv 0) rfl) pa_nil))) rfl)
        (pss_cons (ps_fld (pv 0) (pe_call G_dark_in_all (hr.mono (by decide)) rfl T.g_dark_in_all T.k_dark_in_all T.bn_dark_in_all .nil pass0 (pa_cons (pv 1) (pa_cons (pe_fld (pv 0) rfl) pa_nil))) rfl)
        (pss_cons (ps_fld (pv 0) (pe_op op_xor (pe_fld (pv 0) rfl) (pe_op op_or (pe_fld (pv 0) rfl) (pe_fld (pv 0) rfl))) rfl)
        (pss_one (ps_fld (pv 0) (pe_call G_broken_by_number (hr.mono (by decide)) rfl T.g_broken_by_number T.k_broken_by_number T.bn_broken_by_number .nil pass0 (pa_cons (pv 1) (pa_cons (pv 2) (pa_cons (pe_fld (pv 0) rfl) pa_nil)))) rfl))))))), ?_⟩)
  · obtain ⟨a, dx, sa, pa, n, ts, S, rfl, _⟩ := h
    rfl
  · obtain ⟨a, dx, sa, pa, n, ts, S, rfl, ha, hs, ht, hp, h3, q⟩ := h
    have nsa : sa ∉ [a] := by simp [ne_of hs ha (fun z => nomatch z)]
    have npa : pa ∉ [a] := by simp [ne_of hp ha (fun z => nomatch z)]
    have sgt : ∀ H', Keep [a] H H' → SightsAt K H' sa S := fun H' k => ⟨ts, SqL.of (k _ _ hs nsa), ht.mono fun t xs e => k _ _ e (by simp [ne_of e ha (fun z => nomatch z)])⟩
    have pct : ∀ H', Keep [a] H H' → SqL K H' pa ((picsN n).map nV) := fun H' k => SqL.of (k _ _ hp npa)
    -- self.pictures = pictures
    refine ⟨_, rfl, _, rfl, a, T.C2, dx, [], rfl, ha, T.cl2, T.n2_pictures, (by decide), ?_⟩
    have k1 : Keep [a] H (upd H a (.ins T.C2 dx (xP1 (V.ref pa)))) := Keep.put (by simp)
    have e1 : upd H a (.ins T.C2 dx (xP1 (V.ref pa))) a = some (.ins T.C2 dx (xP1 (V.ref pa))) := upd_same
    have p1 : putF "pictures" (V.ref pa) [] = (xP1 (V.ref pa)) := rfl
    rw [p1]
    generalize upd H a (.ins T.C2 dx (xP1 (V.ref pa))) = H1 at k1 e1 ⊢
    -- self.whole = whole_picture(digits)
    refine ⟨_, rfl, n, rfl, h3, fun H2 s2 => ?_⟩
    have e2 := s2 _ _ e1
    refine ⟨_, rfl, a, T.C2, dx, _, rfl, e2, T.cl2, T.n2_whole, (by show 1 < 1000; decide), ?_⟩
    rw [put_x1]
    have k3 := (k1.trans (Keep.of s2)).trans (Keep.put (X := [a]) (H := H2) (a := a) (o := .ins T.C2 dx (xP2 (V.ref pa) (nV (wholeN n)))) (by simp))
    have e3 : upd H2 a (.ins T.C2 dx (xP2 (V.ref pa) (nV (wholeN n)))) a = _ := upd_same
    generalize upd H2 a (.ins T.C2 dx (xP2 (V.ref pa) (nV (wholeN n)))) = H3 at k3 e3 ⊢
    -- self.always_lit = lit_in_all(sights, self.whole)
    refine ⟨_, rfl, _, rfl, a, T.C2, dx, _, _, rfl, e3, T.cl2, T.n2_whole, lk_x1_2, sa, S, _, rfl, sgt _ k3, ?_⟩
    refine ⟨_, rfl, a, T.C2, dx, _, rfl, e3, T.cl2, T.n2_always_lit, (by show 2 < 1000; decide), ?_⟩
    rw [put_x2]
    have k4 := k3.trans (Keep.put (X := [a]) (H := H3) (a := a) (o := .ins T.C2 dx (xP3 (V.ref pa) (nV (wholeN n)) (nV (litN (wholeN n) S)))) (by simp))
    have e4 : upd H3 a (.ins T.C2 dx (xP3 (V.ref pa) (nV (wholeN n)) (nV (litN (wholeN n) S)))) a = _ := upd_same
    generalize upd H3 a (.ins T.C2 dx (xP3 (V.ref pa) (nV (wholeN n)) (nV (litN (wholeN n) S)))) = H4 at k4 e4 ⊢
    -- self.never_lit = dark_in_all(sights, self.whole)
    refine ⟨_, rfl, _, rfl, a, T.C2, dx, _, _, rfl, e4, T.cl2, T.n2_whole, lk_x1_3, sa, S, _, rfl, sgt _ k4, ?_⟩
    refine ⟨_, rfl, a, T.C2, dx, _, rfl, e4, T.cl2, T.n2_never_lit, (by show 3 < 1000; decide), ?_⟩
    rw [put_x3]
    have k5 := k4.trans (Keep.put (X := [a]) (H := H4) (a := a) (o := .ins T.C2 dx (xP4 (V.ref pa) (nV (wholeN n)) (nV (litN (wholeN n) S)) (nV (darkN (wholeN n) S)))) (by simp))
    have e5 : upd H4 a (.ins T.C2 dx (xP4 (V.ref pa) (nV (wholeN n)) (nV (litN (wholeN n) S)) (nV (darkN (wholeN n) S)))) a = _ := upd_same
    generalize upd H4 a (.ins T.C2 dx (xP4 (V.ref pa) (nV (wholeN n)) (nV (litN (wholeN n) S)) (nV (darkN (wholeN n) S)))) = H5 at k5 e5 ⊢
    -- self.working = self.whole ^ (self.always_lit | self.never_lit)
    refine ⟨_, rfl, a, T.C2, dx, _, _, rfl, e5, T.cl2, T.n2_whole, lk_x1_4, _, rfl, a, T.C2, dx, _, _, rfl, e5, T.cl2, T.n2_always_lit, lk_x2_4, _, rfl, a, T.C2, dx, _, _, rfl, e5, T.cl2, T.n2_never_lit, lk_x3_4, _, _, rfl, rfl, _, _, rfl, rfl, ?_⟩
    refine ⟨_, rfl, a, T.C2, dx, _, rfl, e5, T.cl2, T.n2_working, (by show 4 < 1000; decide), ?_⟩
    rw [put_x4]
    have ew : V.int (Builtin.bitXor (wholeN n : Int) (Builtin.bitOr (litN (wholeN n) S : Int) (darkN (wholeN n) S : Int))) = nV (workN n S) := by
      rw [orN, xorN]
      rfl
    simp only [ew]
    have k6 := k5.trans (Keep.put (X := [a]) (H := H5) (a := a) (o := .ins T.C2 dx (xP5 (V.ref pa) (nV (wholeN n)) (nV (litN (wholeN n) S)) (nV (darkN (wholeN n) S)) (nV (workN n S)))) (by simp))
    have e6 : upd H5 a (.ins T.C2 dx (xP5 (V.ref pa) (nV (wholeN n)) (nV (litN (wholeN n) S)) (nV (darkN (wholeN n) S)) (nV (workN n S)))) a = _ := upd_same
    generalize upd H5 a (.ins T.C2 dx (xP5 (V.ref pa) (nV (wholeN n)) (nV (litN (wholeN n) S)) (nV (darkN (wholeN n) S)) (nV (workN n S)))) = H6 at k6 e6 ⊢
    -- self.broken = broken_by_number(sights, pictures, self.working)
    refine ⟨_, rfl, _, rfl, _, rfl, a, T.C2, dx, _, _, rfl, e6, T.cl2, T.n2_working, lk_x4_5, sa, pa, S, picsN n, _, rfl, sgt _ k6, pct _ k6, ?_, ?_, fun ba fb => ?_⟩
    · rw [picsN_len]
      exact pow_pos10 n
    · rw [picsN_len]
      exact pow_le h3
    have na : ba ≠ a := Ne.symm (ne_of_none e6 fb)
    refine ⟨_, rfl, a, T.C2, dx, _, rfl, Same.new fb _ _ e6, T.cl2, T.n2_broken, (by show 5 < 1000; decide), ?_⟩
    rw [put_x5]
    exact q _ ⟨dx, ba, upd_same, by rw [upd_ne na, upd_same]; rfl⟩ ((k6.trans (Keep.new fb)).trans (Keep.put (by simp)))
/-! has_none -/
def sp_x_has_none (C : Addr × Addr) : Sp := fun vs H Q _ => ∃ (xa pa n : _) (S : Sights), vs = [.ref xa] ∧ XAt C H xa pa n S ∧ Q (.bl (decide ((brN n S).length = 0))) H
theorem ok_x_has_none (T : Txt K mg) : FnOk P w K mg base CX0 1 T.f_x_has_none T.fd_x_has_none P_x_has_none (sp_x_has_none T.cc) := by
  refine T.F_x_has_none.ok sc_x_has_none (fun vs H Q E h => ?_) (fun cdv A outer s H vs Q E hr h => ⟨_, (pss_one (ps_ret (pe_cmpR op_eq (pe_callB call_lenD rfl T.b_len boot_len (pa_cons (pe_fld (pv 0) rfl) pa_nil)) pe_int (nomark _)))), ?_⟩)
  · obtain ⟨xa, pa, n, S, rfl, _⟩ := h
    rfl
  · obtain ⟨xa, pa, n, S, rfl, ⟨dx, ba, h1, h2⟩, q⟩ := h
    refine ⟨_, rfl, xa, T.C2, dx, _, _, rfl, h1, T.cl2, T.n2_broken, xF_broken, ba, _, rfl, h2, rfl, ?_⟩
    rw [dN_len]
    show Q (.bl (decide (V.int ((brN n S).length : Int) = V.int 0))) H
    rw [decV]
    exact q
/-! surely_broken -/
def sp_x_surely_broken (C : Addr × Addr) : Sp := fun vs H Q _ => ∃ (xa pa n : _) (S : Sights), vs = [.ref xa] ∧ XAt C H xa pa n S ∧ ∀ H', Same H H' → Q (nV (surelyN n S)) H'
theorem ok_x_surely_broken (T : Txt K mg) : FnOk P w K mg base CX0 1 T.f_x_surely_broken T.fd_x_surely_broken P_x_surely_broken (sp_x_surely_broken T.cc) := by
  refine T.F_x_surely_broken.ok sc_x_surely_broken (fun vs H Q E h => ?_) (fun cdv A outer s H vs Q E hr h => ⟨_, (pss_cons (ps_set (i := 1) sc_x_surely_broken.nd rfl (Or.inl rfl) (pe_fld (pv 0) rfl))
        (pss_cons (ps_lock (ps_for PassesOwn.never rfl (pi_values (pe_fld (pv 0) rfl)) (pg_name (i := 2) sc_x_surely_broken.nd rfl (Or.inl rfl)) (pss_one (ps_set (i := 1) sc_x_surely_broken.nd rfl (Or.inl rfl) (pe_op op_and (pv 1) (pv 2))))))
        (pss_one (ps_ret (pv 1))))), ?_⟩)
  · obtain ⟨xa, pa, n, S, rfl, _⟩ := h
    rfl
  · obtain ⟨xa, pa, n, S, rfl, ⟨dx, ba, h1, h2⟩, q⟩ := h
    have nxb : xa ≠ ba := ne_of h1 h2 (fun z => nomatch z)
    refine ⟨_, rfl, xa, T.C2, dx, _, _, rfl, h1, T.cl2, T.n2_whole, xF_whole, ?_⟩
    refine ⟨ba, .dK (dN (brN n S)), h2, trivial, fun od => ?_⟩
    refine ⟨_, rfl, xa, T.C2, dx, xF n S pa ba, _, rfl, ?_, T.cl2, T.n2_broken, xF_broken, ba, od, dN (brN n S), rfl, upd_same, ?_⟩
    · rw [upd_ne nxb]
      exact h1
    refine for_it walk_values (fun i σ H' => ∃ u, σ = [some (.ref xa), some (nV (((brN n S).take i).foldl (fun f p => f &&& p.2) (wholeN n))), u] ∧ H' ba = some (.frz od (.dK (dN (brN n S)))) ∧
      ∀ b o, H b = some o → b ≠ ba → H' b = some o) ⟨none, rfl, upd_same, ?_⟩ (fun i σ H' _ h => h.elim fun u h => h.2.1) ?_ ?_
    · intro b o e hb
      rw [upd_ne hb]
      exact e
    · rintro i x σ H1 H2 hi ⟨u, rfl, g2, g3⟩ ⟨rfl, kk, hkv⟩
      rw [dN_len] at hi
      have hp : (brN n S)[i]? = some (brN n S)[i] := List.getElem?_eq_getElem hi
      generalize (brN n S)[i] = pr at hp
      rw [dN_get hp] at hkv
      cases hkv
      refine ⟨_, rfl, _, rfl, _, _, rfl, rfl, some (nV pr.2), ?_, g2, g3⟩
      rw [foldl_more _ _ hp]
      simp only [andN]
      rfl
    · rintro σ H1 ⟨u, rfl, g2, g3⟩
      rw [dN_len, List.take_length]
      refine ⟨g2, _, rfl, q _ fun b o e => ?_⟩
      by_cases hb : b = ba
      · rw [hb, upd_same]
        rw [hb, h2] at e
        exact e
      · rw [upd_ne hb]
        exact g3 b o e hb
/-! should_show -/
def sp_x_should_show (C : Addr × Addr) : Sp := fun vs H Q _ => ∃ (xa dx pa ba n : _) (S : Sights) (x t : Nat), vs = [.ref xa, nV x, nV t] ∧ H xa = some (.ins C.2 dx (xF n S pa ba)) ∧ H pa = some (.lst ((picsN n).map nV)) ∧ Q (nV (showN n x t)) H
theorem ok_x_should_show (T : Txt K mg) : FnOk P w K mg base CX0 2 T.f_x_should_show T.fd_x_should_show P_x_should_show (sp_x_should_show T.cc) := by
  have G_count_at := ok_count_at (P := P) (w := w) (base := base) T
  refine T.F_x_should_show.ok sc_x_should_show (fun vs H Q E h => ?_) (fun cdv A outer s H vs Q E hr h => ⟨_, (pss_one (ps_ret (pe_ix ix_list (pe_fld (pv 0) rfl) (pe_call G_count_at (hr.mono (by decide)) rfl T.g_count_at T.k_count_at T.bn_count_at .nil pass0 (pa_cons (pv 2) (pa_cons (pv 1) (pa_cons (pe_fld (pv 0) rfl) pa_nil)))) (fun _ _ => rfl)))), ?_⟩)
  · obtain ⟨xa, dx, pa, ba, n, S, x, t, rfl, _⟩ := h
    rfl
  · obtain ⟨xa, dx, pa, ba, n, S, x, t, rfl, h1, hp, q⟩ := h
    have hl : ((picsN n).map nV).length = 10 ^ n := by rw [List.length_map, picsN_len]
    refine ⟨_, rfl, xa, T.C2, dx, _, _, rfl, h1, T.cl2, T.n2_pictures, xF_pictures, _, rfl, _, rfl, _, rfl, xa, T.C2, dx, _, _, rfl, h1, T.cl2, T.n2_pictures, xF_pictures, t, x, pa, _, rfl, SqL.of hp, ?_, ?_⟩
    · rw [hl]
      exact pow_pos10 n
    refine ⟨pa, _, _, _, rfl, rfl, SqL.of hp, at_of (j := (x + t) % 10 ^ n) (by rw [hl]) (map_get (getD_pics (Nat.mod_lt _ (pow_pos10 n)))), ?_⟩
    exact q
/-! can_be_lit, can_be_dark -/
def sp_x_can_be_lit (C : Addr × Addr) : Sp := fun vs H Q _ => ∃ (xa pa n : _) (S : Sights) (t : Nat), vs = [.ref xa, nV t] ∧ XAt C H xa pa n S ∧ H pa = some (.lst ((picsN n).map nV)) ∧ ∀ H', Same H H' → Q (nV (canLitN n S t)) H'
theorem ok_x_can_be_lit (T : Txt K mg) : FnOk P w K mg base CX0 3 T.f_x_can_be_lit T.fd_x_can_be_lit P_x_can_be_lit (sp_x_can_be_lit T.cc) := by
  have G_x_should_show := ok_x_should_show (P := P) (w := w) (base := base) T
  refine T.F_x_can_be_lit.ok sc_x_can_be_lit (fun vs H Q E h => ?_) (fun cdv A outer s H vs Q E hr h => ⟨_, (pss_cons (ps_set (i := 2) sc_x_can_be_lit.nd rfl (Or.inl rfl) (pe_fld (pv 0) rfl))
        (pss_cons (ps_lock (ps_for PassesOwn.never rfl (pi_items (pe_fld (pv 0) rfl)) (pg_tup rfl (pgs_cons (pg_name (i := 3) sc_x_can_be_lit.nd rfl (Or.inl rfl)) (pgs_cons (pg_name (i := 4) sc_x_can_be_lit.nd rfl (Or.inl rfl)) pgs_nil))) (pss_cons (ps_set (i := 5) sc_x_can_be_lit.nd rfl (Or.inl rfl) (pe_op op_xor (pe_fld (pv 0) rfl) (pv 4)))
        (pss_one (ps_set (i := 2) sc_x_can_be_lit.nd rfl (Or.inl rfl) (pe_op op_or (pv 2) (pe_op op_and (pv 5) (pe_meth (pv 0) T.cl2 T.mt_x_should_show G_x_should_show (hr.mono (by decide)) T.bn_x_should_show .nil pass0 (pa_cons (pv 3) (pa_cons (pv 1) pa_nil))))))))))
        (pss_one (ps_ret (pv 2))))), ?_⟩)
  · obtain ⟨xa, pa, n, S, t, rfl, _⟩ := h
    rfl
  · obtain ⟨xa, pa, n, S, t, rfl, ⟨dx, ba, h1, h2⟩, h4, q⟩ := h
    have nxb : xa ≠ ba := ne_of h1 h2 (fun z => nomatch z)
    have npb : pa ≠ ba := ne_of h4 h2 (fun z => nomatch z)
    refine ⟨_, rfl, xa, T.C2, dx, _, _, rfl, h1, T.cl2, T.n2_always_lit, xF_always_lit, ?_⟩
    refine ⟨ba, .dK (dN (brN n S)), h2, trivial, fun od => ?_⟩
    refine ⟨_, rfl, xa, T.C2, dx, xF n S pa ba, _, rfl, ?_, T.cl2, T.n2_broken, xF_broken, ba, od, dN (brN n S), rfl, upd_same, ?_⟩
    · rw [upd_ne nxb]
      exact h1
    refine for_it walk_items (fun i σ H' => ∃ v u c, σ = [some (.ref xa), some (nV t), some (nV (((brN n S).take i).foldl (fun f p => f ||| ((wholeN n ^^^ p.2) &&& showN n p.1 t)) (litN (wholeN n) S))), v, u, c] ∧ H' ba = some (.frz od (.dK (dN (brN n S)))) ∧
      ∀ b o, H b = some o → b ≠ ba → H' b = some o) ⟨none, none, none, rfl, upd_same, ?_⟩ (fun i σ H' _ h => h.elim fun v h => h.elim fun u h => h.elim fun c h => h.2.1) ?_ ?_
    · intro b o e hb
      rw [upd_ne hb]
      exact e
    · rintro i x σ H1 H2 hi ⟨v, u, c, rfl, g2, g3⟩ ⟨z, x1, x2, rfl, hz, rfl, p1, p2⟩
      rw [dN_len] at hi
      have hp : (brN n S)[i]? = some (brN n S)[i] := List.getElem?_eq_getElem hi
      generalize (brN n S)[i] = pr at hp
      dsimp only at p1 p2
      rw [dN_get hp] at p1 p2
      cases p1
      cases p2
      have nz : ∀ b o, H1 b = some o → upd H1 z (.tup [nV pr.1, nV pr.2]) b = some o := fun b o e => by
        rw [upd_ne (ne_of_none e hz)]
        exact e
      have hx := nz _ _ (g3 _ _ h1 nxb)
      have hq := nz _ _ (g3 _ _ h4 npb)
      refine ⟨z, _, rfl, SqT.of upd_same, rfl, _, _, rfl, _, _, rfl, rfl, ?_⟩
      refine ⟨_, rfl, xa, T.C2, dx, _, _, rfl, hx, T.cl2, T.n2_whole, xF_whole, _, rfl, _, _, rfl, rfl, ?_⟩
      refine ⟨_, rfl, _, rfl, _, rfl, xa, dx, _, rfl, hx, xF_no, _, rfl, _, rfl, xa, dx, pa, ba, n, S, pr.1, t, rfl, hx, hq, _, _, rfl, rfl, _, _, rfl, rfl, some (nV pr.1), some (nV pr.2), some (nV (wholeN n ^^^ pr.2)), ?_, nz _ _ g2, fun b o e hb => nz _ _ (g3 b o e hb)⟩
      rw [foldl_more _ _ hp]
      simp only [andN, xorN, orN]
      rfl
    · rintro σ H1 ⟨v, u, c, rfl, g2, g3⟩
      rw [dN_len, List.take_length]
      refine ⟨g2, _, rfl, q _ fun b o e => ?_⟩
      by_cases hb : b = ba
      · rw [hb, upd_same]
        rw [hb, h2] at e
        exact e
      · rw [upd_ne hb]
        exact g3 b o e hb
def sp_x_can_be_dark (C : Addr × Addr) : Sp := fun vs H Q _ => ∃ (xa pa n : _) (S : Sights) (t : Nat), vs = [.ref xa, nV t] ∧ XAt C H xa pa n S ∧ H pa = some (.lst ((picsN n).map nV)) ∧ ∀ H', Same H H' → Q (nV (canDarkN n S t)) H'
theorem ok_x_can_be_dark (T : Txt K mg) : FnOk P w K mg base CX0 3 T.f_x_can_be_dark T.fd_x_can_be_dark P_x_can_be_dark (sp_x_can_be_dark T.cc) := by
  have G_x_should_show := ok_x_should_show (P := P) (w := w) (base := base) T
  refine T.F_x_can_be_dark.ok sc_x_can_be_dark (fun vs H Q E h => ?_) (fun cdv A outer s H vs Q E hr h => ⟨_, (pss_cons (ps_set (i := 2) sc_x_can_be_dark.nd rfl (Or.inl rfl) (pe_fld (pv 0) rfl))
        (pss_cons (ps_lock (ps_for PassesOwn.never rfl (pi_items (pe_fld (pv 0) rfl)) (pg_tup rfl (pgs_cons (pg_name (i := 3) sc_x_can_be_dark.nd rfl (Or.inl rfl)) (pgs_cons (pg_name (i := 4) sc_x_can_be_dark.nd rfl (Or.inl rfl)) pgs_nil))) (pss_cons (ps_set (i := 5) sc_x_can_be_dark.nd rfl (Or.inl rfl) (pe_op op_xor (pe_fld (pv 0) rfl) (pv 4)))
        (pss_one (ps_set (i := 2) sc_x_can_be_dark.nd rfl (Or.inl rfl) (pe_op op_or (pv 2) (pe_op op_and (pv 5) (pe_op op_xor (pe_fld (pv 0) rfl) (pe_meth (pv 0) T.cl2 T.mt_x_should_show G_x_should_show (hr.mono (by decide)) T.bn_x_should_show .nil pass0 (pa_cons (pv 3) (pa_cons (pv 1) pa_nil)))))))))))
        (pss_one (ps_ret (pv 2))))), ?_⟩)
  · obtain ⟨xa, pa, n, S, t, rfl, _⟩ := h
    rfl
  · obtain ⟨xa, pa, n, S, t, rfl, ⟨dx, ba, h1, h2⟩, h4, q⟩ := h
    have nxb : xa ≠ ba := ne_of h1 h2 (fun z => nomatch z)
    have npb : pa ≠ ba := ne_of h4 h2 (fun z => nomatch z)
    refine ⟨_, rfl, xa, T.C2, dx, _, _, rfl, h1, T.cl2, T.n2_never_lit, xF_never_lit, ?_⟩
    refine ⟨ba, .dK (dN (brN n S)), h2, trivial, fun od => ?_⟩
    refine ⟨_, rfl, xa, T.C2, dx, xF n S pa ba, _, rfl, ?_, T.cl2, T.n2_broken, xF_broken, ba, od, dN (brN n S), rfl, upd_same, ?_⟩
    · rw [upd_ne nxb]
      exact h1
    refine for_it walk_items (fun i σ H' => ∃ v u c, σ = [some (.ref xa), some (nV t), some (nV (((brN n S).take i).foldl (fun f p => f ||| ((wholeN n ^^^ p.2) &&& (wholeN n ^^^ showN n p.1 t))) (darkN (wholeN n) S))), v, u, c] ∧ H' ba = some (.frz od (.dK (dN (brN n S)))) ∧
      ∀ b o, H b = some o → b ≠ ba → H' b = some o) ⟨none, none, none, rfl, upd_same, ?_⟩ (fun i σ H' _ h => h.elim fun v h => h.elim fun u h => h.elim fun c h => h.2.1) ?_ ?_
    · intro b o e hb
      rw [upd_ne hb]
      exact e
    · rintro i x σ H1 H2 hi ⟨v, u, c, rfl, g2, g3⟩ ⟨z, x1, x2, rfl, hz, rfl, p1, p2⟩
      rw [dN_len] at hi
      have hp : (brN n S)[i]? = some (brN n S)[i] := List.getElem?_eq_getElem hi
      generalize (brN n S)[i] = pr at hp
      dsimp only at p1 p2
      rw [dN_get hp] at p1 p2
      cases p1
      cases p2
      have nz : ∀ b o, H1 b = some o → upd H1 z (.tup [nV pr.1, nV pr.2]) b = some o := fun b o e => by
        rw [upd_ne (ne_of_none e hz)]
        exact e
      have hx := nz _ _ (g3 _ _ h1 nxb)
      have hq := nz _ _ (g3 _ _ h4 npb)
      refine ⟨z, _, rfl, SqT.of upd_same, rfl, _, _, rfl, _, _, rfl, rfl, ?_⟩
      refine ⟨_, rfl, xa, T.C2, dx, _, _, rfl, hx, T.cl2, T.n2_whole, xF_whole, _, rfl, _, _, rfl, rfl, ?_⟩
      refine ⟨_, rfl, _, rfl, _, rfl, xa, T.C2, dx, _, _, rfl, hx, T.cl2, T.n2_whole, xF_whole, _, rfl, xa, dx, _, rfl, hx, xF_no, _, rfl, _, rfl, xa, dx, pa, ba, n, S, pr.1, t, rfl, hx, hq, _, _, rfl, rfl, _, _, rfl, rfl, _, _, rfl, rfl, some (nV pr.1), some (nV pr.2), some (nV (wholeN n ^^^ pr.2)), ?_, nz _ _ g2, fun b o e hb => nz _ _ (g3 b o e hb)⟩
      rw [foldl_more _ _ hp]
      simp only [andN, xorN, orN]
      rfl
    · rintro σ H1 ⟨v, u, c, rfl, g2, g3⟩
      rw [dN_len, List.take_length]
      refine ⟨g2, _, rfl, q _ fun b o e => ?_⟩
      by_cases hb : b = ba
      · rw [hb, upd_same]
        rw [hb, h2] at e
        exact e
      · rw [upd_ne hb]
        exact g3 b o e hb
/-! are_apart -/
def sp_x_are_apart (C : Addr × Addr) : Sp := fun vs H Q _ => ∃ (xa pa n : _) (S : Sights) (x y t : Nat), vs = [.ref xa, nV x, nV y, nV t] ∧ XAt C H xa pa n S ∧ H pa = some (.lst ((picsN n).map nV)) ∧ Q (.bl (apartB n S x y t)) H
theorem ok_x_are_apart (T : Txt K mg) : FnOk P w K mg base CX0 3 T.f_x_are_apart T.fd_x_are_apart P_x_are_apart (sp_x_are_apart T.cc) := by
  have G_x_should_show := ok_x_should_show (P := P) (w := w) (base := base) T
  refine T.F_x_are_apart.ok sc_x_are_apart (fun vs H Q E h => ?_) (fun cdv A outer s H vs Q E hr h => ⟨_, (pss_cons (ps_set (i := 4) sc_x_are_apart.nd rfl (Or.inl rfl) (pe_op op_xor (pe_meth (pv 0) T.cl2 T.mt_x_should_show G_x_should_show (hr.mono (by decide)) T.bn_x_should_show .nil pass0 (pa_cons (pv 1) (pa_cons (pv 3) pa_nil))) (pe_meth (pv 0) T.cl2 T.mt_x_should_show G_x_should_show (hr.mono (by decide)) T.bn_x_should_show .nil pass0 (pa_cons (pv 2) (pa_cons (pv 3) pa_nil)))))
        (pss_one (ps_ret (pe_cmpR op_ne (pe_op op_and (pv 4) (pe_fld (pv 0) rfl)) pe_int (nomark _))))), ?_⟩)
  · obtain ⟨xa, pa, n, S, x, y, t, rfl, _⟩ := h
    rfl
  · obtain ⟨xa, pa, n, S, x, y, t, rfl, ⟨dx, ba, h1, h2⟩, h4, q⟩ := h
    refine ⟨_, rfl, xa, dx, _, rfl, h1, xF_no, _, rfl, _, rfl, xa, dx, pa, ba, n, S, x, t, rfl, h1, h4, _, rfl, xa, dx, _, rfl, h1, xF_no, _, rfl, _, rfl, xa, dx, pa, ba, n, S, y, t, rfl, h1, h4, _, _, rfl, rfl, ?_⟩
    refine ⟨_, rfl, _, rfl, xa, T.C2, dx, _, _, rfl, h1, T.cl2, T.n2_working, xF_working, _, _, rfl, rfl, rfl, ?_⟩
    simp only [andN, xorN]
    have e : (!decide (V.int ((((showN n x t ^^^ showN n y t) &&& workN n S : Nat) : Nat) : Int) = V.int 0)) = apartB n S x y t := by
      rw [decV]
      rfl
    rw [e]
    exact q
/-! states -/
def sp_x_states (C : Addr × Addr) : Sp := fun vs H Q _ => ∃ (xa pa n : _) (S : Sights) (m : Nat), vs = [.ref xa, nV m] ∧ XAt C H xa pa n S ∧ ∀ H' l, Same H H' → H l = none → H' l = some (.lst ((statesN n S m).map nV)) → Q (.ref l) H'
theorem ok_x_states (T : Txt K mg) : FnOk P w K mg base CX0 2 T.f_x_states T.fd_x_states P_x_states (sp_x_states T.cc) := by
  have G_x_surely_broken := ok_x_surely_broken (P := P) (w := w) (base := base) T
  refine T.F_x_states.ok sc_x_states (fun vs H Q E h => ?_) (fun cdv A outer s H vs Q E hr h => ⟨_, (pss_cons (ps_set (i := 2) sc_x_states.nd rfl (Or.inl rfl) (pe_lst pa_nil))
        (pss_cons (ps_if (pt_cmpR op_eq (pe_op op_and (pe_meth0 (pv 0) T.cl2 T.mt_x_surely_broken G_x_surely_broken (hr.mono (by decide)) T.bn_x_surely_broken .nil pass0) (pv 1)) pe_int (nomark _)) (pss_one (ps_expr (pe_bm PySem.F.plainAttrs_list PySem.F.slot_list_append PySem.F.type_list_append mt_append (pv 2) (pa_cons pe_int pa_nil)))) pss_nil)
        (pss_cons (ps_if (pt_cmpR op_ne (pe_op op_and (pe_fld (pv 0) rfl) (pv 1)) pe_int (nomark _)) (pss_one (ps_expr (pe_bm PySem.F.plainAttrs_list PySem.F.slot_list_append PySem.F.type_list_append mt_append (pv 2) (pa_cons pe_int pa_nil)))) pss_nil)
        (pss_cons (ps_if (pt_cmpR op_ne (pe_op op_and (pe_fld (pv 0) rfl) (pv 1)) pe_int (nomark _)) (pss_one (ps_expr (pe_bm PySem.F.plainAttrs_list PySem.F.slot_list_append PySem.F.type_list_append mt_append (pv 2) (pa_cons pe_int pa_nil)))) pss_nil)
        (pss_one (ps_ret (pv 2))))))), ?_⟩)
  · obtain ⟨xa, pa, n, S, m, rfl, _⟩ := h
    rfl
  · obtain ⟨xa, pa, n, S, m, rfl, hX, q⟩ := h
    obtain ⟨dx, ba, h1, h2⟩ := id hX
    obtain ⟨r1, hr1⟩ : ∃ r, r = if surelyN n S &&& m = 0 then [0] else [] := ⟨_, rfl⟩
    obtain ⟨r2, hr2⟩ : ∃ r, r = if darkN (wholeN n) S &&& m = 0 then [] else [1] := ⟨_, rfl⟩
    obtain ⟨r3, hr3⟩ : ∃ r, r = if litN (wholeN n) S &&& m = 0 then [] else [2] := ⟨_, rfl⟩
    have eq_ : statesN n S m = r1 ++ (r2 ++ r3) := by rw [hr1, hr2, hr3]; rfl
    have l1 : r1.length ≤ 1 := by rw [hr1]; split <;> decide
    have l2 : r2.length ≤ 1 := by rw [hr2]; split <;> decide
    have l3 : r3.length ≤ 1 := by rw [hr3]; split <;> decide
    rw [eq_] at q
    refine ⟨(by decide : 0 ≤ sizeLine), fun l hl => ?_⟩
    have s1 : Same H (upd H l (.lst [])) := Same.new hl
    have f1 : upd H l (.lst []) l = some (.lst (([] : List Nat).map nV)) := upd_same
    generalize upd H l (.lst []) = H1 at s1 f1 ⊢
    refine ⟨_, rfl, xa, dx, _, rfl, s1 _ _ h1, xF_no, xa, pa, n, S, rfl, hX.same s1, fun H2 s2 => ?_⟩
    have f2 := s2 _ _ f1
    have s2' := s1.trans s2
    refine ⟨_, rfl, _, _, rfl, rfl, rfl, _, rfl, ?_⟩
    simp only [andN]
    refine ifD (fun c => ?_) (fun c => ?_)
    · have c' : surelyN n S &&& m = 0 := by
        have := V.int.inj c
        omega
      rw [if_pos c'] at hr1
      refine ⟨_, rfl, .inl ⟨rfl, _, SqL.of f2⟩, l, _, _, rfl, rfl, f2, ?_, ?_⟩
      · rw [List.length_map]
        exact small_line (by first | decide | omega | (rw [List.length_append]; omega))
      have f3 : upd H2 l (.lst (([] : List Nat).map nV ++ [V.int 0])) l = some (.lst (r1.map nV)) := by
        rw [upd_same, hr1]
        rfl
      have s3 : ∀ b o, H b = some o → upd H2 l (.lst (([] : List Nat).map nV ++ [V.int 0])) b = some o := fun b o e => by
        rw [upd_ne (ne_of_none e hl)]
        exact s2' b o e
      generalize upd H2 l (.lst (([] : List Nat).map nV ++ [V.int 0])) = H3 at f3 s3 ⊢
      refine ⟨_, rfl, xa, T.C2, dx, _, _, rfl, s3 _ _ h1, T.cl2, T.n2_never_lit, xF_never_lit, _, rfl, _, _, rfl, rfl, rfl, _, rfl, ?_⟩
      simp only [andN]
      refine ifN (fun c => ?_) (fun c => ?_)
      · have c' : ¬ darkN (wholeN n) S &&& m = 0 := fun z => c (by rw [z]; rfl)
        rw [if_neg c'] at hr2
        refine ⟨_, rfl, .inl ⟨rfl, _, SqL.of f3⟩, l, _, _, rfl, rfl, f3, ?_, ?_⟩
        · rw [List.length_map]
          exact small_line (by first | decide | omega | (rw [List.length_append]; omega))
        have f4 : upd H3 l (.lst (r1.map nV ++ [V.int 1])) l = some (.lst ((r1 ++ r2).map nV)) := by
          rw [upd_same, hr2]
          simp only [List.map_append]
          rfl
        have s4 : ∀ b o, H b = some o → upd H3 l (.lst (r1.map nV ++ [V.int 1])) b = some o := fun b o e => by
          rw [upd_ne (ne_of_none e hl)]
          exact s3 b o e
        generalize upd H3 l (.lst (r1.map nV ++ [V.int 1])) = H4 at f4 s4 ⊢
        refine ⟨_, rfl, xa, T.C2, dx, _, _, rfl, s4 _ _ h1, T.cl2, T.n2_always_lit, xF_always_lit, _, rfl, _, _, rfl, rfl, rfl, _, rfl, ?_⟩
        simp only [andN]
        refine ifN (fun c => ?_) (fun c => ?_)
        · have c' : ¬ litN (wholeN n) S &&& m = 0 := fun z => c (by rw [z]; rfl)
          rw [if_neg c'] at hr3
          refine ⟨_, rfl, .inl ⟨rfl, _, SqL.of f4⟩, l, _, _, rfl, rfl, f4, ?_, ?_⟩
          · rw [List.length_map]
            exact small_line (by first | decide | omega | (rw [List.length_append]; omega))
          have f5 : upd H4 l (.lst ((r1 ++ r2).map nV ++ [V.int 2])) l = some (.lst (((r1 ++ r2) ++ r3).map nV)) := by
            rw [upd_same, hr3]
            simp only [List.map_append]
            rfl
          have s5 : ∀ b o, H b = some o → upd H4 l (.lst ((r1 ++ r2).map nV ++ [V.int 2])) b = some o := fun b o e => by
            rw [upd_ne (ne_of_none e hl)]
            exact s4 b o e
          generalize upd H4 l (.lst ((r1 ++ r2).map nV ++ [V.int 2])) = H5 at f5 s5 ⊢
          exact ⟨_, rfl, q _ l s5 hl (by rw [← List.append_assoc]; exact f5)⟩
        · have c' : litN (wholeN n) S &&& m = 0 := by
            have := V.int.inj c
            omega
          rw [if_pos c'] at hr3
          have f5 : H4 l = some (.lst (((r1 ++ r2) ++ r3).map nV)) := by
            rw [hr3, List.append_nil]
            exact f4
          exact ⟨_, rfl, q _ l s4 hl (by rw [← List.append_assoc]; exact f5)⟩
      · have c' : darkN (wholeN n) S &&& m = 0 := by
          have := V.int.inj c
          omega
        rw [if_pos c'] at hr2
        have f4 : H3 l = some (.lst ((r1 ++ r2).map nV)) := by
          rw [hr2, List.append_nil]
          exact f3
        refine ⟨_, rfl, xa, T.C2, dx, _, _, rfl, s3 _ _ h1, T.cl2, T.n2_always_lit, xF_always_lit, _, rfl, _, _, rfl, rfl, rfl, _, rfl, ?_⟩
        simp only [andN]
        refine ifN (fun c => ?_) (fun c => ?_)
        · have c' : ¬ litN (wholeN n) S &&& m = 0 := fun z => c (by rw [z]; rfl)
          rw [if_neg c'] at hr3
          refine ⟨_, rfl, .inl ⟨rfl, _, SqL.of f4⟩, l, _, _, rfl, rfl, f4, ?_, ?_⟩
          · rw [List.length_map]
            exact small_line (by first | decide | omega | (rw [List.length_append]; omega))
          have f5 : upd H3 l (.lst ((r1 ++ r2).map nV ++ [V.int 2])) l = some (.lst (((r1 ++ r2) ++ r3).map nV)) := by
            rw [upd_same, hr3]
            simp only [List.map_append]
            rfl
          have s5 : ∀ b o, H b = some o → upd H3 l (.lst ((r1 ++ r2).map nV ++ [V.int 2])) b = some o := fun b o e => by
            rw [upd_ne (ne_of_none e hl)]
            exact s3 b o e
          generalize upd H3 l (.lst ((r1 ++ r2).map nV ++ [V.int 2])) = H5 at f5 s5 ⊢
          exact ⟨_, rfl, q _ l s5 hl (by rw [← List.append_assoc]; exact f5)⟩
        · have c' : litN (wholeN n) S &&& m = 0 := by
            have := V.int.inj c
            omega
          rw [if_pos c'] at hr3
          have f5 : H3 l = some (.lst (((r1 ++ r2) ++ r3).map nV)) := by
            rw [hr3, List.append_nil]
            exact f4
          exact ⟨_, rfl, q _ l s3 hl (by rw [← List.append_assoc]; exact f5)⟩
    · have c' : ¬ surelyN n S &&& m = 0 := fun z => c (by rw [z]; rfl)
      rw [if_neg c'] at hr1
      have f3 : H2 l = some (.lst (r1.map nV)) := by
        rw [hr1]
        exact f2
      refine ⟨_, rfl, xa, T.C2, dx, _, _, rfl, s2' _ _ h1, T.cl2, T.n2_never_lit, xF_never_lit, _, rfl, _, _, rfl, rfl, rfl, _, rfl, ?_⟩
      simp only [andN]
      refine ifN (fun c => ?_) (fun c => ?_)
      · have c' : ¬ darkN (wholeN n) S &&& m = 0 := fun z => c (by rw [z]; rfl)
        rw [if_neg c'] at hr2
        refine ⟨_, rfl, .inl ⟨rfl, _, SqL.of f3⟩, l, _, _, rfl, rfl, f3, ?_, ?_⟩
        · rw [List.length_map]
          exact small_line (by first | decide | omega | (rw [List.length_append]; omega))
        have f4 : upd H2 l (.lst (r1.map nV ++ [V.int 1])) l = some (.lst ((r1 ++ r2).map nV)) := by
          rw [upd_same, hr2]
          simp only [List.map_append]
          rfl
        have s4 : ∀ b o, H b = some o → upd H2 l (.lst (r1.map nV ++ [V.int 1])) b = some o := fun b o e => by
          rw [upd_ne (ne_of_none e hl)]
          exact s2' b o e
        generalize upd H2 l (.lst (r1.map nV ++ [V.int 1])) = H4 at f4 s4 ⊢
        refine ⟨_, rfl, xa, T.C2, dx, _, _, rfl, s4 _ _ h1, T.cl2, T.n2_always_lit, xF_always_lit, _, rfl, _, _, rfl, rfl, rfl, _, rfl, ?_⟩
        simp only [andN]
        refine ifN (fun c => ?_) (fun c => ?_)
        · have c' : ¬ litN (wholeN n) S &&& m = 0 := fun z => c (by rw [z]; rfl)
          rw [if_neg c'] at hr3
          refine ⟨_, rfl, .inl ⟨rfl, _, SqL.of f4⟩, l, _, _, rfl, rfl, f4, ?_, ?_⟩
          · rw [List.length_map]
            exact small_line (by first | decide | omega | (rw [List.length_append]; omega))
          have f5 : upd H4 l (.lst ((r1 ++ r2).map nV ++ [V.int 2])) l = some (.lst (((r1 ++ r2) ++ r3).map nV)) := by
            rw [upd_same, hr3]
            simp only [List.map_append]
            rfl
          have s5 : ∀ b o, H b = some o → upd H4 l (.lst ((r1 ++ r2).map nV ++ [V.int 2])) b = some o := fun b o e => by
            rw [upd_ne (ne_of_none e hl)]
            exact s4 b o e
          generalize upd H4 l (.lst ((r1 ++ r2).map nV ++ [V.int 2])) = H5 at f5 s5 ⊢
          exact ⟨_, rfl, q _ l s5 hl (by rw [← List.append_assoc]; exact f5)⟩
        · have c' : litN (wholeN n) S &&& m = 0 := by
            have := V.int.inj c
            omega
          rw [if_pos c'] at hr3
          have f5 : H4 l = some (.lst (((r1 ++ r2) ++ r3).map nV)) := by
            rw [hr3, List.append_nil]
            exact f4
          exact ⟨_, rfl, q _ l s4 hl (by rw [← List.append_assoc]; exact f5)⟩
      · have c' : darkN (wholeN n) S &&& m = 0 := by
          have := V.int.inj c
          omega
        rw [if_pos c'] at hr2
        have f4 : H2 l = some (.lst ((r1 ++ r2).map nV)) := by
          rw [hr2, List.append_nil]
          exact f3
        refine ⟨_, rfl, xa, T.C2, dx, _, _, rfl, s2' _ _ h1, T.cl2, T.n2_always_lit, xF_always_lit, _, rfl, _, _, rfl, rfl, rfl, _, rfl, ?_⟩
        simp only [andN]
        refine ifN (fun c => ?_) (fun c => ?_)
        · have c' : ¬ litN (wholeN n) S &&& m = 0 := fun z => c (by rw [z]; rfl)
          rw [if_neg c'] at hr3
          refine ⟨_, rfl, .inl ⟨rfl, _, SqL.of f4⟩, l, _, _, rfl, rfl, f4, ?_, ?_⟩
          · rw [List.length_map]
            exact small_line (by first | decide | omega | (rw [List.length_append]; omega))
          have f5 : upd H2 l (.lst ((r1 ++ r2).map nV ++ [V.int 2])) l = some (.lst (((r1 ++ r2) ++ r3).map nV)) := by
            rw [upd_same, hr3]
            simp only [List.map_append]
            rfl
          have s5 : ∀ b o, H b = some o → upd H2 l (.lst ((r1 ++ r2).map nV ++ [V.int 2])) b = some o := fun b o e => by
            rw [upd_ne (ne_of_none e hl)]
            exact s2' b o e
          generalize upd H2 l (.lst ((r1 ++ r2).map nV ++ [V.int 2])) = H5 at f5 s5 ⊢
          exact ⟨_, rfl, q _ l s5 hl (by rw [← List.append_assoc]; exact f5)⟩
        · have c' : litN (wholeN n) S &&& m = 0 := by
            have := V.int.inj c
            omega
          rw [if_pos c'] at hr3
          have f5 : H2 l = some (.lst (((r1 ++ r2) ++ r3).map nV)) := by
            rw [hr3, List.append_nil]
            exact f4
          exact ⟨_, rfl, q _ l s2' hl (by rw [← List.append_assoc]; exact f5)⟩
end
end Bs

set_option Elab.async false
set_option linter.all false
set_option maxRecDepth 100000
set_option maxHeartbeats 4000000
namespace Bs
open PySem PySem.Spec PyProof.Rows L2
/-- the fields -/
def oF (n : Nat) (pa sa ba : Addr) : List (Str × V) := [("digits", nV n), ("pictures", .ref pa), ("sights", .ref sa), ("explained", .ref ba)]
/-- .. ahead of the last one -/
def oF3 (n : Nat) (pa sa : Addr) : List (Str × V) := [("digits", nV n), ("pictures", .ref pa), ("sights", .ref sa)]
section
variable {n : Nat} {pa sa ba : Addr}
theorem oF_digits : (oF n pa sa ba).lookup ("digits" : Str) = some (nV n) := lk_here
theorem oF_pictures : (oF n pa sa ba).lookup ("pictures" : Str) = some (.ref pa) := (lk_past (by decide +kernel)).trans lk_here
theorem oF_sights : (oF n pa sa ba).lookup ("sights" : Str) = some (.ref sa) := (lk_past (by decide +kernel)).trans ((lk_past (by decide +kernel)).trans lk_here)
theorem oF_explained : (oF n pa sa ba).lookup ("explained" : Str) = some (.ref ba) := (lk_past (by decide +kernel)).trans ((lk_past (by decide +kernel)).trans ((lk_past (by decide +kernel)).trans lk_here))
theorem oF3_pictures : (oF3 n pa sa).lookup ("pictures" : Str) = some (.ref pa) := (lk_past (by decide +kernel)).trans lk_here
theorem oF3_digits : (oF3 n pa sa).lookup ("digits" : Str) = some (nV n) := lk_here
theorem oF3_sights : (oF3 n pa sa).lookup ("sights" : Str) = some (.ref sa) := (lk_past (by decide +kernel)).trans ((lk_past (by decide +kernel)).trans lk_here)
/-- no method is called like a field -/
theorem oF_no {m : Str} (h : (m == ("digits" : Str)) = false := by decide +kernel) (h1 : (m == ("pictures" : Str)) = false := by decide +kernel) (h2 : (m == ("sights" : Str)) = false := by decide +kernel) (h3 : (m == ("explained" : Str)) = false := by decide +kernel) :
    (oF n pa sa ba).lookup m = none := (lk_past h).trans ((lk_past h1).trans ((lk_past h2).trans ((lk_past h3).trans rfl)))
theorem oF3_no {m : Str} (h : (m == ("digits" : Str)) = false := by decide +kernel) (h1 : (m == ("pictures" : Str)) = false := by decide +kernel) (h2 : (m == ("sights" : Str)) = false := by decide +kernel) :
    (oF3 n pa sa).lookup m = none := (lk_past h).trans ((lk_past h1).trans ((lk_past h2).trans rfl))
theorem put_explained {b : Addr} : putF "explained" (.ref b) (oF n pa sa ba) = oF n pa sa b := (put_past (by decide +kernel)).trans (congrArg _ ((put_past (by decide +kernel)).trans (congrArg _ ((put_past (by decide +kernel)).trans (congrArg _ put_here)))))
theorem put_explained3 {b : Addr} : putF "explained" (.ref b) (oF3 n pa sa) = oF n pa sa b := (put_past (by decide +kernel)).trans (congrArg _ ((put_past (by decide +kernel)).trans (congrArg _ ((put_past (by decide +kernel)).trans rfl))))
theorem put_digits {d : Nat} : putF "digits" (nV d) (oF n pa sa ba) = oF d pa sa ba := put_here
theorem put_pictures {b : Addr} : putF "pictures" (.ref b) (oF n pa sa ba) = oF n b sa ba := (put_past (by decide +kernel)).trans (congrArg _ put_here)
theorem put_sights {b : Addr} : putF "sights" (.ref b) (oF n pa sa ba) = oF n pa b ba := (put_past (by decide +kernel)).trans (congrArg _ ((put_past (by decide +kernel)).trans (congrArg _ put_here)))
theorem put_new3 : putF "sights" (.ref sa) (putF "pictures" (.ref pa) (putF "digits" (nV n) [])) = oF3 n pa sa := by
  show putF "sights" (.ref sa) (putF "pictures" (.ref pa) [("digits", nV n)]) = oF3 n pa sa
  rw [put_past (by decide +kernel)]
  show putF "sights" (.ref sa) [("digits", nV n), ("pictures", .ref pa)] = oF3 n pa sa
  rw [put_past (by decide +kernel), put_past (by decide +kernel)]
  rfl
end
/-- the counter at a: its digits n, its sights S, with the lists that it has at pa, sa -/
structure AtC (C : Addr × Addr) (H : Hp) (a pa sa : Addr) (n : Nat) (S : Sights) : Prop where
  ok : 1 ≤ n ∧ n ≤ 3
  few : S.length ≤ 8
  at_ : ∃ (dx xa : Addr) (ts : List Addr), H a = some (.ins C.1 dx (oF n pa sa xa)) ∧ H pa = some (.lst ((picsN n).map nV)) ∧ H sa = some (.lst (ts.map V.ref)) ∧ TupsAt H ts S ∧ XAt C H xa pa n S
theorem AtC.keep {C : Addr × Addr} {X : List Addr} {H H' : Hp} {a pa sa : Addr} {n : Nat} {S : Sights} (h : AtC C H a pa sa n S) (k : Keep X H H') (h1 : pa ∉ X) (h2 : sa ∉ X) (hX : ∀ b ∈ X, ∀ o, H b = some o → ∃ xs, o = .lst xs) : AtC C H' a pa sa n S := by
  obtain ⟨ok, few, dx, xa, ts, e1, e2, e3, e4, e5⟩ := h
  have no : ∀ b o, H b = some o → (∀ xs, o ≠ .lst xs) → b ∉ X := fun b o e d z => by
    obtain ⟨xs, q⟩ := hX b z o e
    exact d xs q
  exact ⟨ok, few, dx, xa, ts, k _ _ e1 (no _ _ e1 fun _ z => nomatch z), k _ _ e2 h1, k _ _ e3 h2, e4.mono fun t xs e => k _ _ e (no _ _ e fun _ z => nomatch z), e5.mono fun b o e d => k _ _ e (no _ _ e d)⟩
theorem AtC.same {C : Addr × Addr} {H H' : Hp} {a pa sa : Addr} {n : Nat} {S : Sights} (h : AtC C H a pa sa n S) (k : Same H H') : AtC C H' a pa sa n S :=
  h.keep (X := []) (Keep.of k) (by simp) (by simp) (by simp)
section
variable {P : Program} {w : World} {K : PySem.W.Frag} {mg : Str → Option Value} {base : Heap}
/-! explain -/
def sp_m_explain (C : Addr × Addr) : Sp := fun vs H Q _ => ∃ (a dx pa sa n : _) (fs : List (Str × V)) (ts : List Addr) (S : Sights), vs = [.ref a] ∧ H a = some (.ins C.1 dx fs) ∧ fs.lookup ("sights" : Str) = some (.ref sa) ∧ fs.lookup ("pictures" : Str) = some (.ref pa) ∧ fs.lookup ("digits" : Str) = some (nV n) ∧ fs.length < 1000 ∧
  H sa = some (.lst (ts.map V.ref)) ∧ TupsAt H ts S ∧ H pa = some (.lst ((picsN n).map nV)) ∧ n ≤ 3 ∧
  ∀ H' xa, H' a = some (.ins C.1 dx (putF "explained" (.ref xa) fs)) → XAt C H' xa pa n S → Keep [a] H H' → Q .non H'
theorem ok_m_explain (T : Txt K mg) : FnOk P w K mg base CX0 6 T.f_m_explain T.fd_m_explain P_m_explain (sp_m_explain T.cc) := by
  have G_x_init := ok_x_init (P := P) (w := w) (base := base) T
  refine T.F_m_explain.ok sc_m_explain (fun vs H Q E h => ?_) (fun cdv A outer s H vs Q E hr h => ⟨_, (pss_one (ps_fld (pv 0) (pe_make T.mkI2 G_x_init (hr.mono (by decide)) rfl T.gC2 T.bn_x_init .nil pass0 (pa_cons (pe_fld (pv 0) rfl) (pa_cons (pe_fld (pv 0) rfl) (pa_cons (pe_fld (pv 0) rfl) pa_nil)))) rfl)), ?_⟩)
  · obtain ⟨a, dx, pa, sa, n, fs, ts, S, rfl, _⟩ := h
    rfl
  · obtain ⟨a, dx, pa, sa, n, fs, ts, S, rfl, ha, l1, l2, l0, lf, hs, ht, hp, h3, q⟩ := h
    refine ⟨_, rfl, a, T.C, dx, fs, _, rfl, ha, T.cl, T.n_sights, l1, _, rfl, a, T.C, dx, fs, _, rfl, ha, T.cl, T.n_pictures, l2, _, rfl, a, T.C, dx, fs, _, rfl, ha, T.cl, T.n_digits, l0, ?_⟩
    intro x ddx nx ndx nxd
    have k1 : ∀ b o, H b = some o → upd (upd H ddx (.own x)) x (.ins T.C2 ddx []) b = some o := fun b o e => by
      rw [upd_ne (ne_of_none e nx), upd_ne (ne_of_none e ndx)]
      exact e
    have e1 : upd (upd H ddx (.own x)) x (.ins T.C2 ddx []) x = some (.ins T.C2 ddx []) := upd_same
    generalize upd (upd H ddx (.own x)) x (.ins T.C2 ddx []) = H1 at k1 e1 ⊢
    refine ⟨x, ddx, sa, pa, n, ts, S, rfl, e1, k1 _ _ hs, ht.mono fun t xs e => k1 _ _ e, k1 _ _ hp, h3, fun H2 hX k2 => ⟨rfl, ?_⟩⟩
    have k3 : ∀ b o, H b = some o → H2 b = some o := fun b o e => k2 b o (k1 b o e) (by simp [ne_of_none e nx])
    refine ⟨_, rfl, a, T.C, dx, fs, rfl, k3 _ _ ha, T.cl, T.n_explained, lf, ?_⟩
    obtain ⟨dxx, ba, g1, g2⟩ := hX
    refine q _ x upd_same ⟨dxx, ba, ?_, ?_⟩ fun b o e hb => ?_
    · rw [upd_ne (Ne.symm (ne_of_none ha nx))]
      exact g1
    · rw [upd_ne (ne_of g2 (k3 _ _ ha) (fun z => nomatch z))]
      exact g2
    · rw [upd_ne (fun z => hb (by rw [z]; exact List.mem_singleton.mpr rfl))]
      exact k3 b o e
/-! make_new -/
def sp_m_make_new (C : Addr × Addr) : Sp := fun vs H Q _ => ∃ (a dx : Addr) (n : Nat) (fs : List (Str × V)), vs = [.ref a, nV n] ∧ 1 ≤ n ∧ n ≤ 3 ∧ H a = some (.ins C.1 dx fs) ∧ (fs = [] ∨ ∃ m pa sa ba, fs = oF m pa sa ba) ∧
  ∀ H' pa sa, AtC C H' a pa sa n [] → H pa = none → H sa = none → Keep [a] H H' → Q .non H'
theorem ok_m_make_new (T : Txt K mg) : FnOk P w K mg base CX0 7 T.f_m_make_new T.fd_m_make_new P_m_make_new (sp_m_make_new T.cc) := by
  have G_all_pictures := ok_all_pictures (P := P) (w := w) (base := base) T
  have G_m_explain := ok_m_explain (P := P) (w := w) (base := base) T
  refine T.F_m_make_new.ok sc_m_make_new (fun vs H Q E h => ?_) (fun cdv A outer s H vs Q E hr h => ⟨_, (pss_cons (ps_fld (pv 0) (pv 1) rfl)
        (pss_cons (ps_fld (pv 0) (pe_call G_all_pictures (hr.mono (by decide)) rfl T.g_all_pictures T.k_all_pictures T.bn_all_pictures .nil pass0 (pa_cons (pv 1) pa_nil)) rfl)
        (pss_cons (ps_fld (pv 0) (pe_lst pa_nil) rfl)
        (pss_one (ps_expr (pe_meth0 (pv 0) T.cl T.mt_m_explain G_m_explain (hr.mono (by decide)) T.bn_m_explain .nil pass0)))))), ?_⟩)
  · obtain ⟨a, dx, n, fs, rfl, _⟩ := h
    rfl
  · obtain ⟨a, dx, n, fs, rfl, h1, h3, ha, hf, q⟩ := h
    have lf : ∀ pa sa, fs.length < 1000 ∧ (putF "digits" (nV n) fs).length < 1000 ∧ (putF "pictures" (.ref pa) (putF "digits" (nV n) fs)).length < 1000 ∧ ∀ sb,
        (putF "sights" (.ref sa) (putF "pictures" (.ref pa) (putF "digits" (nV n) fs))).length < 1000 ∧ (putF "sights" (.ref sa) (putF "pictures" (.ref pa) (putF "digits" (nV n) fs))).lookup ("sights" : Str) = some (.ref sa) ∧
        (putF "sights" (.ref sa) (putF "pictures" (.ref pa) (putF "digits" (nV n) fs))).lookup ("pictures" : Str) = some (.ref pa) ∧ (putF "sights" (.ref sa) (putF "pictures" (.ref pa) (putF "digits" (nV n) fs))).lookup ("digits" : Str) = some (nV n) ∧ (putF "sights" (.ref sa) (putF "pictures" (.ref pa) (putF "digits" (nV n) fs))).lookup ("explain" : Str) = none ∧
        putF "explained" (.ref sb) (putF "sights" (.ref sa) (putF "pictures" (.ref pa) (putF "digits" (nV n) fs))) = oF n pa sa sb := by
      intro pa sa
      rcases hf with rfl | ⟨m, pa0, sa0, ba0, rfl⟩
      · refine ⟨by decide, by show 1 < 1000; decide, by show 2 < 1000; decide, fun sb => ?_⟩
        rw [put_new3]
        exact ⟨by show 3 < 1000; decide, oF3_sights, oF3_pictures, oF3_digits, oF3_no, put_explained3⟩
      · refine ⟨by show 4 < 1000; decide, by show 4 < 1000; decide, by show 4 < 1000; decide, fun sb => ?_⟩
        rw [put_digits, put_pictures, put_sights]
        exact ⟨by show 4 < 1000; decide, oF_sights, oF_pictures, oF_digits, oF_no, put_explained⟩
    -- self.digits = digits
    refine ⟨_, rfl, _, rfl, a, T.C, dx, fs, rfl, ha, T.cl, T.n_digits, (lf 0 0).1, ?_⟩
    -- self.pictures = all_pictures(digits)
    refine ⟨_, rfl, n, rfl, h1, h3, fun H1 pa s1 fp e1 => ?_⟩
    have fpa : H pa = none ∧ pa ≠ a := by
      have ne : pa ≠ a := fun z => by
        rw [z, upd_same] at fp
        cases fp
      rw [upd_ne ne] at fp
      exact ⟨fp, ne⟩
    have ha1 := s1 a _ upd_same
    refine ⟨_, rfl, a, T.C, dx, _, rfl, ha1, T.cl, T.n_pictures, (lf 0 0).2.1, ?_⟩
    -- self.sights = []
    refine ⟨(by decide : 0 ≤ sizeLine), fun sa fs2 => ?_⟩
    have fsa : H1 sa = none ∧ sa ≠ a := by
      have ne : sa ≠ a := fun z => by
        rw [z, upd_same] at fs2
        cases fs2
      rw [upd_ne ne] at fs2
      exact ⟨fs2, ne⟩
    have fsa0 : H sa = none := by
      cases z : H sa with
      | none => rfl
      | some o =>
        have := s1 sa o (by rw [upd_ne fsa.2]; exact z)
        rw [fsa.1] at this
        cases this
    refine ⟨_, rfl, a, T.C, dx, _, rfl, Same.new fs2 _ _ upd_same, T.cl, T.n_sights, (lf pa 0).2.2.1, ?_⟩
    have npa : pa ≠ sa := fun z => by
      rw [z, fsa.1] at e1
      cases e1
    obtain ⟨g1, g2, g3, g0, g4, _⟩ := (lf pa sa).2.2.2 0
    -- self.explain()
    refine ⟨_, rfl, a, dx, _, rfl, upd_same, g4, a, dx, pa, sa, n, _, [], [], rfl, upd_same, g2, g3, g0, g1, ?_, trivial, ?_, h3, fun H' xa f1 fx k' => ?_⟩
    · rw [upd_ne fsa.2, upd_same]
      rfl
    · rw [upd_ne fpa.2, upd_ne npa, upd_ne fpa.2]
      exact e1
    obtain ⟨_, _, _, _, _, g6⟩ := (lf pa sa).2.2.2 xa
    rw [g6] at f1
    refine q _ pa sa ⟨⟨h1, h3⟩, Nat.zero_le _, dx, xa, [], f1, ?_, ?_, trivial, fx⟩ fpa.1 fsa0 ?_
    · refine k' _ _ ?_ (by simp [fpa.2])
      rw [upd_ne fpa.2, upd_ne npa, upd_ne fpa.2]
      exact e1
    · refine k' _ _ ?_ (by simp [fsa.2])
      rw [upd_ne fsa.2, upd_same]
      rfl
    · intro b o e hb
      have hb' : b ≠ a := fun z => hb (by rw [z]; exact List.mem_singleton.mpr rfl)
      have e1' := s1 b o (by rw [upd_ne hb']; exact e)
      refine k' b o ?_ hb
      rw [upd_ne hb', upd_ne (ne_of_none e1' fsa.1), upd_ne hb']
      exact e1'
/-! __init__ -/
def sp_m_init (C : Addr × Addr) : Sp := fun vs H Q _ => ∃ (a dx : Addr), vs = [.ref a] ∧ H a = some (.ins C.1 dx []) ∧ ∀ H' pa sa, AtC C H' a pa sa 1 [] → H pa = none → H sa = none → Keep [a] H H' → Q .non H'
theorem ok_m_init (T : Txt K mg) : FnOk P w K mg base CX0 8 T.f_m_init T.fd_m_init P_m_init (sp_m_init T.cc) := by
  have G_m_make_new := ok_m_make_new (P := P) (w := w) (base := base) T
  refine T.F_m_init.ok sc_m_init (fun vs H Q E h => ?_) (fun cdv A outer s H vs Q E hr h => ⟨_, (pss_one (ps_expr (pe_meth (pv 0) T.cl T.mt_m_make_new G_m_make_new (hr.mono (by decide)) T.bn_m_make_new .nil pass0 (pa_cons pe_int pa_nil)))), ?_⟩)
  · obtain ⟨a, dx, rfl, _⟩ := h
    rfl
  · obtain ⟨a, dx, rfl, ha, q⟩ := h
    exact ⟨_, rfl, a, dx, [], rfl, ha, rfl, a, dx, 1, [], rfl, by decide, by decide, ha, .inl rfl, fun H' pa sa h1 h2 h3 h4 => q H' pa sa h1 h2 h3 h4⟩
end
end Bs

set_option Elab.async false
set_option linter.all false
set_option maxRecDepth 100000
set_option maxHeartbeats 4000000
namespace Bs
open PySem PySem.Spec PyProof.Rows L2
theorem TupsAt.last {H : Hp} : ∀ {ts : List Addr} {S : Sights}, TupsAt H ts S → S ≠ [] → ∃ ts' t S' s, ts = ts' ++ [t] ∧ S = S' ++ [s] ∧ H t = some (.tup (sV s))
  | [], [], _, h => (h rfl).elim
  | [t], [s], h, _ => ⟨[], t, [], s, rfl, rfl, h.1⟩
  | t :: t' :: ts, s :: s' :: S, h, _ => by
    obtain ⟨a, b, c, d, e1, e2, e3⟩ := TupsAt.last (ts := t' :: ts) (S := s' :: S) h.2 (by simp)
    exact ⟨t :: a, b, s :: c, d, by rw [e1]; rfl, by rw [e2]; rfl, e3⟩
  | [], _ :: _, h, _ => h.elim
  | _ :: _, [], h, _ => h.elim
  | [_], _ :: _ :: _, h, _ => h.2.elim
  | _ :: _ :: _, [_], h, _ => h.2.elim
theorem nowN_snoc (S : Sights) (s : Nat × Nat) : nowN (S ++ [s]) = s.1 := by
  unfold nowN
  rw [List.getLast?_append]
  rfl
theorem zlen {α : Type} {l : List α} {n : Int} (h : V.int (l.length : Int) = V.int n) : (l.length : Int) = n := V.int.inj h
theorem valV_find : ∀ (l : List (Nat × Nat)) (k : Nat), valV (dN l) (Sum.inl (k : Int) : Key) = (l.find? fun p => decide (p.1 = k)).map fun p => nV p.2
  | [], _ => rfl
  | p :: r, k => by
    show valV ((Sum.inl (p.1 : Int), nV p.2) :: dN r) _ = _
    by_cases e : p.1 = k
    · rw [valV_pos (by rw [e]), List.find?_cons, decide_eq_true e]
      rfl
    · rw [valV_neg (fun z => e (by have e2 : (p.1 : Int) = (k : Int) := Sum.inl.inj z; omega)), List.find?_cons, decide_eq_false e]
      exact valV_find r k
/-- what a caller is given behind a call on the counter at a -/
def After (C : Addr × Addr) (H : Hp) (a pa sa : Addr) (r : Nat × Sights × List Int) (Q : VK) : Prop :=
  ∀ H' pa' sa' p, AtC C H' a pa' sa' r.1 r.2.1 → (pa' = pa ∨ H pa' = none) → (sa' = sa ∨ H sa' = none) → Keep [a, sa] H H' → H p = none → H' p = some (.lst (r.2.2.map V.int)) → Q (.ref p) H'
/-- the counter stands as it was; the answer is a new list -/
theorem After.same {C : Addr × Addr} {H H' : Hp} {a pa sa p : Addr} {n : Nat} {S : Sights} {z : List Int} {xs : List V} {Q : VK} (q : After C H a pa sa (n, S, z) Q) (h : AtC C H a pa sa n S) (s : Same H H') (hp : H' p = none) (e : xs = z.map V.int) : Q (.ref p) (upd H' p (.lst xs)) := by
  have s2 := s.trans (Same.new (o := .lst xs) hp)
  exact q _ pa sa p (h.same s2) (.inl rfl) (.inl rfl) (Keep.of s2) (s.free hp) (by rw [upd_same, e])
theorem AtC.pa_ne_sa {C : Addr × Addr} {H : Hp} {a pa sa : Addr} {n : Nat} {S : Sights} (h : AtC C H a pa sa n S) : pa ≠ sa := by
  obtain ⟨ok, few, dx, xa, ts, e1, e2, e3, e4, e5⟩ := h
  intro z
  rw [z, e3] at e2
  have e : ts.map V.ref = (picsN n).map nV := HO.lst.inj (Option.some.inj e2)
  have h0 : 0 < (picsN n).length := by
    rw [picsN_len]
    exact pow_pos10 n
  cases q : picsN n with
  | nil =>
    rw [q] at h0
    exact absurd h0 (by decide)
  | cons x r =>
    rw [q] at e
    cases ts with
    | nil => cases e
    | cons t r' => cases e
theorem Keep.free {X : List Addr} {H H' : Hp} {p : Addr} (k : Keep X H H') (h : ∀ b ∈ X, H' b ≠ none) (hp : H' p = none) : H p = none := by
  cases z : H p with
  | none => rfl
  | some o =>
    have := k p o z fun m => h p m hp
    rw [hp] at this
    cases this
/-- explained anew -/
theorem AtC.made {C : Addr × Addr} {H H' : Hp} {a dx pa sa xa xb : Addr} {ts : List Addr} {n : Nat} {S : Sights} (ok : 1 ≤ n ∧ n ≤ 3) (few : S.length ≤ 8) (e1 : H a = some (.ins C.1 dx (oF n pa sa xa))) (e2 : H pa = some (.lst ((picsN n).map nV)))
    (e3 : H sa = some (.lst (ts.map V.ref))) (e4 : TupsAt H ts S) (f1 : H' a = some (.ins C.1 dx (oF n pa sa xb))) (fx : XAt C H' xb pa n S) (k : Keep [a] H H') : AtC C H' a pa sa n S :=
  ⟨ok, few, dx, xb, ts, f1, k _ _ e2 (by simp [ne_of e2 e1 (fun z => nomatch z)]), k _ _ e3 (by simp [ne_of e3 e1 (fun z => nomatch z)]), e4.mono fun t xs e => k _ _ e (by simp [ne_of e e1 (fun z => nomatch z)]), fx⟩
section
variable {P : Program} {w : World} {K : PySem.W.Frag} {mg : Str → Option Value} {base : Heap}
/-! how_many_numbers, there_is, may_begin_with, places -/
def sp_m_how_many_numbers (C : Addr × Addr) : Sp := fun vs H Q _ => ∃ (a pa sa n : _) (S : Sights), vs = [.ref a] ∧ AtC C H a pa sa n S ∧ Q (nV (brN n S).length) H
theorem ok_m_how_many_numbers (T : Txt K mg) : FnOk P w K mg base CX0 1 T.f_m_how_many_numbers T.fd_m_how_many_numbers P_m_how_many_numbers (sp_m_how_many_numbers T.cc) := by
  refine T.F_m_how_many_numbers.ok sc_m_how_many_numbers (fun vs H Q E h => ?_) (fun cdv A outer s H vs Q E hr h => ⟨_, (pss_one (ps_ret (pe_callB call_lenD rfl T.b_len boot_len (pa_cons (pe_fld (pe_fld (pv 0) rfl) rfl) pa_nil)))), ?_⟩)
  · obtain ⟨a, pa, sa, n, S, rfl, _⟩ := h
    rfl
  · obtain ⟨a, pa, sa, n, S, rfl, ⟨ok, few, dx, xa, ts, e1, e2, e3, e4, dxx, ba, h1, h2⟩, q⟩ := h
    refine ⟨_, rfl, a, T.C, dx, _, _, rfl, e1, T.cl, T.n_explained, oF_explained, xa, T.C2, dxx, _, _, rfl, h1, T.cl2, T.n2_broken, xF_broken, ba, _, rfl, h2, ?_⟩
    rw [dN_len]
    exact q
def sp_m_there_is (C : Addr × Addr) : Sp := fun vs H Q _ => ∃ (a pa sa n : _) (S : Sights) (x : Nat), vs = [.ref a, nV x] ∧ AtC C H a pa sa n S ∧ Q (.bl (decide (x < 10 ^ n))) H
theorem ok_m_there_is (T : Txt K mg) : FnOk P w K mg base CX0 1 T.f_m_there_is T.fd_m_there_is P_m_there_is (sp_m_there_is T.cc) := by
  refine T.F_m_there_is.ok sc_m_there_is (fun vs H Q E h => ?_) (fun cdv A outer s H vs Q E hr h => ⟨_, (pss_one (ps_ret (pe_cmpR op_lt (pv 1) (pe_callB call_len_seq rfl T.b_len boot_len (pa_cons (pe_fld (pv 0) rfl) pa_nil)) (nomark _)))), ?_⟩)
  · obtain ⟨a, pa, sa, n, S, x, rfl, _⟩ := h
    rfl
  · obtain ⟨a, pa, sa, n, S, x, rfl, ⟨ok, few, dx, xa, ts, e1, e2, e3, e4, e5⟩, q⟩ := h
    refine ⟨_, rfl, _, rfl, a, T.C, dx, _, _, rfl, e1, T.cl, T.n_pictures, oF_pictures, pa, _, rfl, .inl (SqL.of e2), _, _, rfl, rfl, ?_⟩
    rw [List.length_map, picsN_len]
    have e : decide ((x : Int) < ((10 ^ n : Nat) : Int)) = decide (x < 10 ^ n) := decide_eq_decide.mpr Int.ofNat_lt
    show Q (.bl (decide ((x : Int) < ((10 ^ n : Nat) : Int)))) H
    rw [e]
    exact q
def sp_m_may_begin_with (C : Addr × Addr) : Sp := fun vs H Q _ => ∃ (a pa sa n : _) (S : Sights) (x : Nat), vs = [.ref a, nV x] ∧ AtC C H a pa sa n S ∧ Q (.bl (isIn n S x)) H
theorem ok_m_may_begin_with (T : Txt K mg) : FnOk P w K mg base CX0 1 T.f_m_may_begin_with T.fd_m_may_begin_with P_m_may_begin_with (sp_m_may_begin_with T.cc) := by
  refine T.F_m_may_begin_with.ok sc_m_may_begin_with (fun vs H Q E h => ?_) (fun cdv A outer s H vs Q E hr h => ⟨_, (pss_one (ps_ret (pe_cmp (pc_din (hu_of hr) (pv 1) (pe_fld (pe_fld (pv 0) rfl) rfl))))), ?_⟩)
  · obtain ⟨a, pa, sa, n, S, x, rfl, _⟩ := h
    rfl
  · obtain ⟨a, pa, sa, n, S, x, rfl, ⟨ok, few, dx, xa, ts, e1, e2, e3, e4, dxx, ba, h1, h2⟩, q⟩ := h
    refine ⟨_, rfl, _, rfl, a, T.C, dx, _, _, rfl, e1, T.cl, T.n_explained, oF_explained, xa, T.C2, dxx, _, _, rfl, h1, T.cl2, T.n2_broken, xF_broken, ba, _, rfl, DGet.k (k := Sum.inl (x : Int)) h2, ?_⟩
    rw [valV_find]
    unfold isIn at q
    cases hf : (brN n S).find? fun p => decide (p.1 = x) with
    | none =>
      rw [hf] at q
      exact q
    | some p =>
      rw [hf] at q
      exact q
def sp_m_places (C : Addr × Addr) : Sp := fun vs H Q _ => ∃ (a pa sa n : _) (S : Sights) (p : Nat), vs = [.ref a, nV p] ∧ AtC C H a pa sa n S ∧ ∀ l, H l = none → Q (.ref l) (upd H l (.lst ((unpackN n p).map nV)))
theorem ok_m_places (T : Txt K mg) : FnOk P w K mg base CX0 2 T.f_m_places T.fd_m_places P_m_places (sp_m_places T.cc) := by
  have G_places_of := ok_places_of (P := P) (w := w) (base := base) T
  refine T.F_m_places.ok sc_m_places (fun vs H Q E h => ?_) (fun cdv A outer s H vs Q E hr h => ⟨_, (pss_one (ps_ret (pe_call G_places_of (hr.mono (by decide)) rfl T.g_places_of T.k_places_of T.bn_places_of .nil pass0 (pa_cons (pv 1) (pa_cons (pe_fld (pv 0) rfl) pa_nil))))), ?_⟩)
  · obtain ⟨a, pa, sa, n, S, p, rfl, _⟩ := h
    rfl
  · obtain ⟨a, pa, sa, n, S, p, rfl, ⟨ok, few, dx, xa, ts, e1, e2, e3, e4, e5⟩, q⟩ := h
    exact ⟨_, rfl, _, rfl, a, T.C, dx, _, _, rfl, e1, T.cl, T.n_digits, oF_digits, p, n, rfl, by omega, q⟩
/-! now -/
def sp_m_now (C : Addr × Addr) : Sp := fun vs H Q _ => ∃ (a pa sa n : _) (S : Sights), vs = [.ref a] ∧ AtC C H a pa sa n S ∧ Q (nV (nowN S)) H
theorem ok_m_now (T : Txt K mg) : FnOk P w K mg base CX0 1 T.f_m_now T.fd_m_now P_m_now (sp_m_now T.cc) := by
  refine T.F_m_now.ok sc_m_now (fun vs H Q E h => ?_) (fun cdv A outer s H vs Q E hr h => ⟨_, (pss_cons (ps_if (pt_cmpR op_eq (pe_callB call_len_seq rfl T.b_len boot_len (pa_cons (pe_fld (pv 0) rfl) pa_nil)) pe_int (nomark _)) (pss_one (ps_ret pe_int)) pss_nil)
        (pss_one (ps_ret (pe_ix ix_tup (pe_ix ix_list (pe_fld (pv 0) rfl) (pe_un un_neg pe_int) (fun _ _ => rfl)) pe_int (fun _ _ => rfl))))), ?_⟩)
  · obtain ⟨a, pa, sa, n, S, rfl, _⟩ := h
    rfl
  · obtain ⟨a, pa, sa, n, S, rfl, ⟨ok, few, dx, xa, ts, e1, e2, e3, e4, e5⟩, q⟩ := h
    refine ⟨_, rfl, a, T.C, dx, _, _, rfl, e1, T.cl, T.n_sights, oF_sights, sa, _, rfl, .inl (SqL.of e3), rfl, _, rfl, ?_⟩
    refine ifD (fun c => ?_) (fun c => ?_)
    · have hS : S = [] := by
        have := V.int.inj c
        rw [List.length_map, e4.len] at this
        exact List.eq_nil_of_length_eq_zero (by omega)
      subst hS
      exact q
    · have hS : S ≠ [] := fun z => c (by subst z; rw [List.length_map, e4.len]; rfl)
      obtain ⟨ts', t, S', s', rfl, rfl, ht⟩ := e4.last hS
      refine ⟨_, rfl, a, T.C, dx, _, _, rfl, e1, T.cl, T.n_sights, oF_sights, _, rfl, sa, _, _, .ref t, rfl, rfl, SqL.of e3, ?_, t, _, _, _, rfl, rfl, SqT.of ht, at_of (j := 0) (v := nV s'.1) rfl rfl, ?_⟩
      · rw [List.map_append]
        exact atI_last _ _
      · rw [nowN_snoc] at q
        exact q
/-! begins -/
def sp_m_begins (C : Addr × Addr) : Sp := fun vs H Q _ => ∃ (a pa sa n : _) (S : Sights) (d : Nat), vs = [.ref a, nV d] ∧ AtC C H a pa sa n S ∧ After C H a pa sa (beginsN n S d) Q
theorem ok_m_begins (T : Txt K mg) : FnOk P w K mg base CX0 8 T.f_m_begins T.fd_m_begins P_m_begins (sp_m_begins T.cc) := by
  have G_m_make_new := ok_m_make_new (P := P) (w := w) (base := base) T
  have G_m_how_many_numbers := ok_m_how_many_numbers (P := P) (w := w) (base := base) T
  refine T.F_m_begins.ok sc_m_begins (fun vs H Q E h => ?_) (fun cdv A outer s H vs Q E hr h => ⟨_, (pss_cons (ps_if (PW.pt (pw_or (pt_cmpR op_lt (pv 1) pe_int (nomark _)) (pw_or1 (pt_cmpR op_gt (pv 1) (pe_gint rfl T.c_MOST_DIGITS) (nomark _))))) (pss_one (ps_ret (pe_lst (pa_cons (pe_un un_neg pe_int) pa_nil)))) pss_nil)
        (pss_cons (ps_expr (pe_meth (pv 0) T.cl T.mt_m_make_new G_m_make_new (hr.mono (by decide)) T.bn_m_make_new .nil pass0 (pa_cons (pv 1) pa_nil)))
        (pss_one (ps_ret (pe_lst (pa_cons (pe_meth0 (pv 0) T.cl T.mt_m_how_many_numbers G_m_how_many_numbers (hr.mono (by decide)) T.bn_m_how_many_numbers .nil pass0) pa_nil)))))), ?_⟩)
  · obtain ⟨a, pa, sa, n, S, d, rfl, _⟩ := h
    rfl
  · obtain ⟨a, pa, sa, n, S, d, rfl, hC, q⟩ := h
    have no : d < 1 ∨ 3 < d → ∀ p, H p = none → Q (.ref p) (upd H p (.lst [.int (-1)])) := fun c p hp => by
      unfold beginsN at q
      rw [if_pos c] at q
      exact q.same hC (Same.refl H) hp rfl
    have yes : ¬ (d < 1 ∨ 3 < d) → After T.cc H a pa sa (d, [], [((brN d []).length : Int)]) Q := fun c => by
      unfold beginsN at q
      rw [if_neg c] at q
      exact q
    refine ⟨_, rfl, _, _, rfl, rfl, _, rfl, ?_⟩
    refine ifD (fun c => ?_) (fun c => ?_)
    · exact ⟨_, rfl, (by decide : 1 ≤ sizeLine), fun p hp => no (.inl (by omega)) p hp⟩
    · refine ⟨_, rfl, _, _, rfl, rfl, _, rfl, ?_⟩
      refine ifD (fun c2 => ?_) (fun c2 => ?_)
      · exact ⟨_, rfl, (by decide : 1 ≤ sizeLine), fun p hp => no (.inr (by omega)) p hp⟩
      · have cc : ¬ (d < 1 ∨ 3 < d) := by omega
        have y := yes cc
        obtain ⟨ok, few, dx, xa, ts, e1, e2, e3, e4, e5⟩ := hC
        refine ⟨_, rfl, a, dx, _, rfl, e1, oF_no, _, rfl, a, dx, d, _, rfl, by omega, by omega, e1, .inr ⟨n, pa, sa, xa, rfl⟩, fun H' pa' sa' h1 h2 h3 h4 => ?_⟩
        obtain ⟨_, _, dx', xa', ts', g1, g2, g3, g4, g5⟩ := id h1
        refine ⟨_, rfl, a, dx', _, rfl, g1, oF_no, a, pa', sa', d, [], rfl, h1, (by decide : 1 ≤ sizeLine), fun p hp => ?_⟩
        refine y _ pa' sa' p (h1.same (Same.new hp)) (.inr h2) (.inr h3) ((h4.sub (by simp)).trans (Keep.new hp)) (h4.free (by simp [g1]) hp) ?_
        rw [upd_same]
        rfl
/-! can_be_seen -/
def sp_m_can_be_seen (K : PySem.W.Frag) (C : Addr × Addr) : Sp := fun vs H Q _ => ∃ (a pa sa n : _) (S : Sights) (d : Nat) (b : Addr) (l : List Nat), vs = [.ref a, nV d, .ref b] ∧ AtC C H a pa sa n S ∧ SqL K H b (l.map nV) ∧ Q (.bl (seenOk n d l)) H
theorem ok_m_can_be_seen (T : Txt K mg) : FnOk P w K mg base CX0 1 T.f_m_can_be_seen T.fd_m_can_be_seen P_m_can_be_seen (sp_m_can_be_seen K T.cc) := by
  refine T.F_m_can_be_seen.ok sc_m_can_be_seen (fun vs H Q E h => ?_) (fun cdv A outer s H vs Q E hr h => ⟨_, (pss_cons (ps_if (PW.pt (pw_or (pt_cmpR op_gt (pv 1) (pe_gint rfl T.c_MOST_SECONDS) (nomark _)) (pw_or1 (pt_cmpR op_ne (pe_callB call_len_seq rfl T.b_len boot_len (pa_cons (pv 2) pa_nil)) (pe_fld (pv 0) rfl) (nomark _))))) (pss_one (ps_ret pe_bl)) pss_nil)
        (pss_one (ps_ret (pe_cmpR op_le (pe_callB (cr_max rfl) rfl T.b_max boot_max (pa_cons (pv 2) pa_nil)) (pe_gint rfl T.c_ALL_STROKES) (nomark _))))), ?_⟩)
  · obtain ⟨a, pa, sa, n, S, d, b, l, rfl, _⟩ := h
    rfl
  · obtain ⟨a, pa, sa, n, S, d, b, l, rfl, hC, hb, q⟩ := h
    obtain ⟨ok, few, dx, xa, ts, e1, e2, e3, e4, e5⟩ := hC
    refine ⟨_, rfl, _, _, rfl, rfl, _, rfl, ?_⟩
    refine ifD (fun c => ?_) (fun c => ?_)
    · have e : seenOk n d l = false := by
        unfold seenOk
        rw [decide_eq_false (by omega)]
        rfl
      rw [e] at q
      exact q
    · refine ⟨_, rfl, b, _, rfl, .inl hb, _, rfl, a, T.C, dx, _, _, rfl, e1, T.cl, T.n_digits, oF_digits, rfl, _, rfl, ?_⟩
      refine ifN (fun c2 => ?_) (fun c2 => ?_)
      · have c3 : ¬ l.length = n := fun z => c2 (by rw [List.length_map, z])
        have e : seenOk n d l = false := by
          unfold seenOk
          rw [decide_eq_true (by omega : d ≤ 10000), decide_eq_false c3]
          rfl
        rw [e] at q
        exact q
      · have c3 : l.length = n := by
          have := V.int.inj c2
          rw [List.length_map] at this
          omega
        refine ⟨_, rfl, b, l.map (fun (x : Nat) => (x : Int)), rfl, ?_, ?_, fun m hm hle => ?_⟩
        · rw [List.map_map]
          exact hb
        · rw [List.length_map]
          omega
        refine ⟨_, _, rfl, rfl, ?_⟩
        have e : decide (m ≤ 127) = seenOk n d l := by
          unfold seenOk
          rw [decide_eq_true (by omega : d ≤ 10000), decide_eq_true c3, Bool.true_and, Bool.true_and]
          obtain ⟨x, hx, rfl⟩ := List.mem_map.mp hm
          by_cases c4 : x ≤ 127
          · rw [decide_eq_true (by omega), eq_comm, List.all_eq_true]
            intro y hy
            have := hle _ (List.mem_map.mpr ⟨y, hy, rfl⟩)
            rw [decide_eq_true_eq]
            omega
          · rw [decide_eq_false (by omega), eq_comm, List.all_eq_false]
            exact ⟨x, hx, by rw [decide_eq_true_eq]; omega⟩
        show Q (.bl (decide (m ≤ 127))) H
        rw [e]
        exact q
/-! sees -/
def sp_m_sees (K : PySem.W.Frag) (C : Addr × Addr) : Sp := fun vs H Q _ => ∃ (a pa sa n : _) (S : Sights) (d : Nat) (b : Addr) (l : List Nat), vs = [.ref a, nV d, .ref b] ∧ AtC C H a pa sa n S ∧ SqL K H b (l.map nV) ∧ After C H a pa sa (seesN n S d l) Q
theorem ok_m_sees (T : Txt K mg) : FnOk P w K mg base CX0 7 T.f_m_sees T.fd_m_sees P_m_sees (sp_m_sees K T.cc) := by
  have G_m_how_many_numbers := ok_m_how_many_numbers (P := P) (w := w) (base := base) T
  have G_m_can_be_seen := ok_m_can_be_seen (P := P) (w := w) (base := base) T
  have G_m_now := ok_m_now (P := P) (w := w) (base := base) T
  have G_picture_of := ok_picture_of (P := P) (w := w) (base := base) T
  have G_m_explain := ok_m_explain (P := P) (w := w) (base := base) T
  refine T.F_m_sees.ok sc_m_sees (fun vs H Q E h => ?_) (fun cdv A outer s H vs Q E hr h => ⟨_, (pss_cons (ps_if (pt_not (pt_val (pe_meth (pv 0) T.cl T.mt_m_can_be_seen G_m_can_be_seen (hr.mono (by decide)) T.bn_m_can_be_seen .nil pass0 (pa_cons (pv 1) (pa_cons (pv 2) pa_nil))))) (pss_one (ps_ret (pe_lst (pa_cons (pe_un un_neg pe_int) pa_nil)))) pss_nil)
        (pss_cons (ps_if (pt_cmpR op_eq (pe_callB call_len_seq rfl T.b_len boot_len (pa_cons (pe_fld (pv 0) rfl) pa_nil)) (pe_gint rfl T.c_MOST_SIGHTS) (nomark _)) (pss_one (ps_ret (pe_lst (pa_cons (pe_un un_neg pe_int) pa_nil)))) pss_nil)
        (pss_cons (ps_expr (pe_bm PySem.F.plainAttrs_list PySem.F.slot_list_append PySem.F.type_list_append mt_append (pe_fld (pv 0) rfl) (pa_cons (pe_tup (pa_cons (pe_op op_add (pe_meth0 (pv 0) T.cl T.mt_m_now G_m_now (hr.mono (by decide)) T.bn_m_now .nil pass0) (pv 1)) (pa_cons (pe_call G_picture_of (hr.mono (by decide)) rfl T.g_picture_of T.k_picture_of T.bn_picture_of .nil pass0 (pa_cons (pv 2) pa_nil)) pa_nil))) pa_nil)))
        (pss_cons (ps_expr (pe_meth0 (pv 0) T.cl T.mt_m_explain G_m_explain (hr.mono (by decide)) T.bn_m_explain .nil pass0))
        (pss_one (ps_ret (pe_lst (pa_cons (pe_meth0 (pv 0) T.cl T.mt_m_how_many_numbers G_m_how_many_numbers (hr.mono (by decide)) T.bn_m_how_many_numbers .nil pass0) pa_nil)))))))), ?_⟩)
  · obtain ⟨a, pa, sa, n, S, d, b, l, rfl, _⟩ := h
    rfl
  · obtain ⟨a, pa, sa, n, S, d, b, l, rfl, hC, hb, q⟩ := h
    have hC' := hC
    obtain ⟨ok, few, dx, xa, ts, e1, e2, e3, e4, e5⟩ := hC'
    refine ⟨_, rfl, a, dx, _, rfl, e1, oF_no, _, rfl, _, rfl, a, pa, sa, n, S, d, b, l, rfl, hC, hb, _, rfl, ?_⟩
    unfold seesN at q
    cases hok : seenOk n d l with
    | false =>
      rw [if_pos hok] at q
      exact ⟨_, rfl, (by decide : 1 ≤ sizeLine), fun p hp => q.same hC (Same.refl H) hp rfl⟩
    | true =>
      rw [if_neg (by rw [hok]; exact Bool.noConfusion)] at q
      refine ⟨_, rfl, a, T.C, dx, _, _, rfl, e1, T.cl, T.n_sights, oF_sights, sa, _, rfl, .inl (SqL.of e3), rfl, _, rfl, ?_⟩
      have el : (ts.map V.ref).length = S.length := by rw [List.length_map, e4.len]
      refine ifD (fun c => ?_) (fun c => ?_)
      · have c8 : S.length = 8 := by
          have := V.int.inj c
          omega
        rw [if_pos c8] at q
        exact ⟨_, rfl, (by decide : 1 ≤ sizeLine), fun p hp => q.same hC (Same.refl H) hp rfl⟩
      · have c8 : ¬ S.length = 8 := fun z => c (by rw [el, z]; rfl)
        rw [if_neg c8] at q
        -- self.sights.append((self.now() + seconds, picture_of(lit)))
        refine ⟨_, rfl, a, T.C, dx, _, _, rfl, e1, T.cl, T.n_sights, oF_sights, .inl ⟨rfl, _, SqL.of e3⟩, ?_⟩
        refine ⟨_, rfl, a, dx, _, rfl, e1, oF_no, a, pa, sa, n, S, rfl, hC, _, rfl, _, _, rfl, rfl, ?_⟩
        refine ⟨_, rfl, b, l, rfl, hb, (by decide : 2 ≤ sizeLine), fun t ht => ?_⟩
        have sT : Same H (upd H t (.tup (sV (nowN S + d, packN l)))) := Same.new ht
        have hT : upd H t (.tup (sV (nowN S + d, packN l))) t = some (.tup (sV (nowN S + d, packN l))) := upd_same
        have eT : (HO.tup [V.int (↑(nowN S) + ↑d), nV (packN l)]) = .tup (sV (nowN S + d, packN l)) := rfl
        rw [eT]
        generalize upd H t (.tup (sV (nowN S + d, packN l))) = H1 at sT hT ⊢
        refine ⟨sa, _, _, rfl, rfl, sT _ _ e3, small_line (by rw [el]; omega), ?_⟩
        have nas : a ≠ sa := ne_of e1 e3 (fun z => nomatch z)
        have nps : pa ≠ sa := hC.pa_ne_sa
        have k1 : Keep [a, sa] H (upd H1 sa (.lst (ts.map V.ref ++ [.ref t]))) := (Keep.of sT).trans (Keep.put (by simp))
        have f1 : upd H1 sa (.lst (ts.map V.ref ++ [.ref t])) a = some (.ins T.C dx (oF n pa sa xa)) := by
          rw [upd_ne nas]
          exact sT _ _ e1
        have f2 : upd H1 sa (.lst (ts.map V.ref ++ [.ref t])) pa = some (.lst ((picsN n).map nV)) := by
          rw [upd_ne nps]
          exact sT _ _ e2
        have f3 : upd H1 sa (.lst (ts.map V.ref ++ [.ref t])) sa = some (.lst ((ts ++ [t]).map V.ref)) := by
          rw [upd_same, List.map_append]
          rfl
        have nt : ∀ b xs, H1 b = some (.tup xs) → upd H1 sa (.lst (ts.map V.ref ++ [.ref t])) b = some (.tup xs) := fun b xs e => by
          rw [upd_ne (ne_of e (sT _ _ e3) (fun z => nomatch z))]
          exact e
        have f4 : TupsAt (upd H1 sa (.lst (ts.map V.ref ++ [.ref t]))) (ts ++ [t]) (S ++ [(nowN S + d, packN l)]) := TupsAt.snoc (nt _ _ hT) ((e4.mono fun b xs e => sT _ _ e).mono nt)
        generalize upd H1 sa (.lst (ts.map V.ref ++ [.ref t])) = H2 at k1 f1 f2 f3 f4 ⊢
        -- self.explain()
        refine ⟨_, rfl, a, dx, _, rfl, f1, oF_no, a, dx, pa, sa, n, _, ts ++ [t], _, rfl, f1, oF_sights, oF_pictures, oF_digits, (by show 4 < 1000; decide), f3, f4, f2, ok.2, fun H3 xb g1 g2 g3 => ?_⟩
        rw [put_explained] at g1
        have g := AtC.made (C := T.cc) ok (by rw [List.length_append]; show S.length + 1 ≤ 8; omega) f1 f2 f3 f4 g1 g2 g3
        have k2 := k1.trans (g3.sub (Y := [a, sa]) (by simp))
        obtain ⟨_, _, dx', xb', ts2, i1, i2, i3, i4, i5⟩ := id g
        refine ⟨_, rfl, a, dx', _, rfl, i1, oF_no, a, pa, sa, n, _, rfl, g, (by decide : 1 ≤ sizeLine), fun p hp => ?_⟩
        refine q _ pa sa p (g.same (Same.new hp)) (.inl rfl) (.inl rfl) (k2.trans (Keep.new hp)) (k2.free (by simp [i1, i3]) hp) ?_
        rw [upd_same]
        rfl
/-! undo -/
def sp_m_undo (C : Addr × Addr) : Sp := fun vs H Q _ => ∃ (a pa sa n : _) (S : Sights), vs = [.ref a] ∧ AtC C H a pa sa n S ∧ After C H a pa sa (undoN n S) Q
theorem ok_m_undo (T : Txt K mg) : FnOk P w K mg base CX0 7 T.f_m_undo T.fd_m_undo P_m_undo (sp_m_undo T.cc) := by
  have G_m_explain := ok_m_explain (P := P) (w := w) (base := base) T
  refine T.F_m_undo.ok sc_m_undo (fun vs H Q E h => ?_) (fun cdv A outer s H vs Q E hr h => ⟨_, (pss_cons (ps_if (pt_cmpR op_eq (pe_callB call_len_seq rfl T.b_len boot_len (pa_cons (pe_fld (pv 0) rfl) pa_nil)) pe_int (nomark _)) (pss_one (ps_ret (pe_lst (pa_cons (pe_un un_neg pe_int) pa_nil)))) pss_nil)
        (pss_cons (ps_expr (pe_bm0 PySem.F.plainAttrs_list PySem.F.slot_list_pop PySem.F.type_list_pop mt_pop (pe_fld (pv 0) rfl)))
        (pss_cons (ps_expr (pe_meth0 (pv 0) T.cl T.mt_m_explain G_m_explain (hr.mono (by decide)) T.bn_m_explain .nil pass0))
        (pss_one (ps_ret (pe_lst (pa_cons (pe_callB call_len_seq rfl T.b_len boot_len (pa_cons (pe_fld (pv 0) rfl) pa_nil)) pa_nil))))))), ?_⟩)
  · obtain ⟨a, pa, sa, n, S, rfl, _⟩ := h
    rfl
  · obtain ⟨a, pa, sa, n, S, rfl, hC, q⟩ := h
    have hC' := hC
    obtain ⟨ok, few, dx, xa, ts, e1, e2, e3, e4, e5⟩ := hC'
    have el : (ts.map V.ref).length = S.length := by rw [List.length_map, e4.len]
    refine ⟨_, rfl, a, T.C, dx, _, _, rfl, e1, T.cl, T.n_sights, oF_sights, sa, _, rfl, .inl (SqL.of e3), rfl, _, rfl, ?_⟩
    unfold undoN at q
    refine ifD (fun c => ?_) (fun c => ?_)
    · have c0 : S.length = 0 := by
        have := V.int.inj c
        omega
      rw [if_pos c0] at q
      exact ⟨_, rfl, (by decide : 1 ≤ sizeLine), fun p hp => q.same hC (Same.refl H) hp rfl⟩
    · have c0 : ¬ S.length = 0 := fun z => c (by rw [el, z]; rfl)
      rw [if_neg c0] at q
      have hS : S ≠ [] := fun z => c0 (by rw [z]; rfl)
      obtain ⟨ts', t, S', s', rfl, rfl, ht⟩ := e4.last hS
      refine ⟨_, rfl, a, T.C, dx, _, _, rfl, e1, T.cl, T.n_sights, oF_sights, .inl ⟨rfl, _, SqL.of e3⟩, sa, _, .ref t, rfl, rfl, e3, ?_, ?_⟩
      · rw [List.map_append, List.length_append]
        show ((ts'.map V.ref) ++ [V.ref t])[(ts'.map V.ref).length + 1 - 1]? = _
        rw [Nat.add_sub_cancel, List.getElem?_append_right (Nat.le_refl _), Nat.sub_self]
        rfl
      have ed : ((ts' ++ [t]).map V.ref).dropLast = ts'.map V.ref := by rw [List.map_append]; exact List.dropLast_concat
      rw [ed]
      have nas : a ≠ sa := ne_of e1 e3 (fun z => nomatch z)
      have nps : pa ≠ sa := hC.pa_ne_sa
      have k1 : Keep [a, sa] H (upd H sa (.lst (ts'.map V.ref))) := Keep.put (by simp)
      have f1 : upd H sa (.lst (ts'.map V.ref)) a = some (.ins T.C dx (oF n pa sa xa)) := by
        rw [upd_ne nas]
        exact e1
      have f2 : upd H sa (.lst (ts'.map V.ref)) pa = some (.lst ((picsN n).map nV)) := by
        rw [upd_ne nps]
        exact e2
      have f3 : upd H sa (.lst (ts'.map V.ref)) sa = some (.lst (ts'.map V.ref)) := upd_same
      have nt : ∀ b xs, H b = some (.tup xs) → upd H sa (.lst (ts'.map V.ref)) b = some (.tup xs) := fun b xs e => by
        rw [upd_ne (ne_of e e3 (fun z => nomatch z))]
        exact e
      have f4 : TupsAt (upd H sa (.lst (ts'.map V.ref))) ts' S' := by
        have := e4.init
        rw [List.dropLast_concat, List.dropLast_concat] at this
        exact this.mono nt
      generalize upd H sa (.lst (ts'.map V.ref)) = H2 at k1 f1 f2 f3 f4 ⊢
      refine ⟨_, rfl, a, dx, _, rfl, f1, oF_no, a, dx, pa, sa, n, _, ts', _, rfl, f1, oF_sights, oF_pictures, oF_digits, (by show 4 < 1000; decide), f3, f4, f2, ok.2, fun H3 xb g1 g2 g3 => ?_⟩
      rw [put_explained] at g1
      rw [List.length_append] at few
      have g := AtC.made (C := T.cc) ok (by omega) f1 f2 f3 f4 g1 g2 g3
      obtain ⟨_, _, dx', xb', ts2, h1, h2, h3, h4, h5⟩ := id g
      refine ⟨_, rfl, a, T.C, dx', _, _, rfl, h1, T.cl, T.n_sights, oF_sights, sa, _, rfl, .inl (SqL.of h3), (by decide : 1 ≤ sizeLine), fun p hp => ?_⟩
      have k2 := k1.trans (g3.sub (Y := [a, sa]) (by simp))
      refine q _ pa sa p ?_ (.inl rfl) (.inl rfl) (k2.trans (Keep.new hp)) (k2.free (by simp [h1, h3]) hp) ?_
      · rw [List.dropLast_concat]
        exact g.same (Same.new hp)
      · rw [upd_same, List.dropLast_concat, List.length_map, h4.len]
        rfl
end
end Bs

set_option Elab.async false
set_option linter.all false
set_option maxRecDepth 100000
set_option maxHeartbeats 4000000
namespace Bs
open PySem PySem.Spec PyProof.Rows L2
theorem keys_dN (l : List (Nat × Nat)) : (dN l).map (fun kv => kV kv.1) = (l.map (·.1)).map nV := by
  unfold dN
  rw [List.map_map, List.map_map]
  rfl
theorem vals_dN (l : List (Nat × Nat)) : (dN l).map (·.2) = (l.map fun p => (p.2 : Int)).map V.int := by
  unfold dN
  rw [List.map_map, List.map_map]
  rfl
theorem find_at : ∀ {l : List (Nat × Nat)} {i : Nat} {p : Nat × Nat}, (l.map (·.1)).Pairwise (· < ·) → l[i]? = some p → (l.find? fun q => decide (q.1 = p.1)) = some p
  | [], i, p, _, h => by simp at h
  | a :: r, 0, p, _, h => by
    have e : a = p := Option.some.inj h
    subst e
    rw [List.find?_cons, decide_eq_true rfl]
  | a :: r, i + 1, p, hp, h => by
    have hp' : (a.1 :: r.map (·.1)).Pairwise (· < ·) := hp
    obtain ⟨h1, h2⟩ := List.pairwise_cons.mp hp'
    have hm : p ∈ r := List.mem_of_getElem? h
    have := h1 _ (List.mem_map.mpr ⟨p, hm, rfl⟩)
    rw [List.find?_cons, decide_eq_false (by omega)]
    exact find_at h2 h
theorem ints_map (l : List Nat) : (intsN l).map V.int = l.map nV := by
  unfold intsN
  rw [List.map_map]
  rfl
theorem toldN_two (a b : List Int) : toldN [a, b] = (a.length : Int) :: (a ++ ((b.length : Int) :: b)) := by
  unfold toldN
  show ((a.length : Int) :: a) ++ (((b.length : Int) :: b) ++ []) = _
  rw [List.append_nil]
  rfl
theorem toldN_one (a : List Int) : toldN [a] = (a.length : Int) :: a := by
  unfold toldN
  show ((a.length : Int) :: a) ++ [] = _
  rw [List.append_nil]
section
variable {P : Program} {w : World} {K : PySem.W.Frag} {mg : Str → Option Value} {base : Heap}
/-! may -/
def sp_m_may (C : Addr × Addr) : Sp := fun vs H Q _ => ∃ (a pa sa n : _) (S : Sights) (k : Nat), vs = [.ref a, nV k] ∧ AtC C H a pa sa n S ∧ After C H a pa sa (n, S, mayN n S k) Q
theorem ok_m_may (T : Txt K mg) : FnOk P w K mg base CX0 2 T.f_m_may T.fd_m_may P_m_may (sp_m_may T.cc) := by
  have G_answer_with := ok_answer_with (P := P) (w := w) (base := base) T
  have G_behind_others := ok_behind_others (P := P) (w := w) (base := base) T
  refine T.F_m_may.ok sc_m_may (fun vs H Q E h => ?_) (fun cdv A outer s H vs Q E hr h => ⟨_, (pss_cons (ps_set (i := 2) sc_m_may.nd rfl (Or.inl rfl) (pe_callTy (call_list_dK rfl) rfl T.b_list (by decide +kernel) (pa_cons (pe_fld (pe_fld (pv 0) rfl) rfl) pa_nil)))
        (pss_one (ps_ret (pe_call G_answer_with (hr.mono (by decide)) rfl T.g_answer_with T.k_answer_with T.bn_answer_with .nil pass0 (pa_cons (pe_callB call_len_seq rfl T.b_len boot_len (pa_cons (pv 2) pa_nil)) (pa_cons (pe_lst (pa_cons (pe_call G_behind_others (hr.mono (by decide)) rfl T.g_behind_others T.k_behind_others T.bn_behind_others .nil pass0 (pa_cons (pv 2) (pa_cons (pv 1) pa_nil))) pa_nil)) pa_nil)))))), ?_⟩)
  · obtain ⟨a, pa, sa, n, S, k, rfl, _⟩ := h
    rfl
  · obtain ⟨a, pa, sa, n, S, k, rfl, hC, q⟩ := h
    obtain ⟨ok, few, dx, xa, ts, e1, e2, e3, e4, e6⟩ := id hC
    obtain ⟨dxx, ba, h1, e5⟩ := id e6
    refine ⟨_, rfl, a, T.C, dx, _, _, rfl, e1, T.cl, T.n_explained, oF_explained, xa, T.C2, dxx, _, _, rfl, h1, T.cl2, T.n2_broken, xF_broken, ba, _, rfl, e5, fun l hl => ?_⟩
    rw [keys_dN]
    refine ⟨_, rfl, l, _, rfl, .inl (SqL.of upd_same), _, rfl, _, rfl, l, _, k, rfl, SqL.of upd_same, fun p hp => ?_⟩
    refine ⟨(by decide : 1 ≤ sizeLine), fun r hr' => ?_⟩
    have s1 : Same H (upd H l (.lst (((brN n S).map (·.1)).map nV))) := Same.new hl
    generalize upd H l (.lst (((brN n S).map (·.1)).map nV)) = H1 at s1 hp hr' ⊢
    have s2 : Same H1 (upd H1 p (.lst ((pickN ((brN n S).map (·.1)) k).map nV))) := Same.new hp
    have e6 : upd H1 p (.lst ((pickN ((brN n S).map (·.1)) k).map nV)) p = some (.lst ((intsN (pickN ((brN n S).map (·.1)) k)).map V.int)) := by rw [upd_same, ints_map]
    generalize upd H1 p (.lst ((pickN ((brN n S).map (·.1)) k).map nV)) = H2 at s2 e6 hr' ⊢
    have s3 : Same H2 (upd H2 r (.lst [.ref p])) := Same.new hr'
    have e7 : upd H2 r (.lst [.ref p]) r = some (.lst [.ref p]) := upd_same
    generalize upd H2 r (.lst [.ref p]) = H3 at s3 e7 ⊢
    refine ⟨_, r, [p], [intsN (pickN ((brN n S).map (·.1)) k)], rfl, SqL.of e7, ⟨s3 _ _ e6, trivial⟩, ?_, fun u hu => ?_⟩
    · have := pickN_len ((brN n S).map (·.1)) k
      rw [toldN_one, List.length_cons]
      unfold intsN
      rw [List.length_map]
      omega
    · refine q.same hC ((s1.trans s2).trans s3) hu ?_
      rw [List.length_map]
      rfl
/-! guess -/
def sp_m_guess (C : Addr × Addr) : Sp := fun vs H Q _ => ∃ (a pa sa n : _) (S : Sights) (x : Nat), vs = [.ref a, nV x] ∧ AtC C H a pa sa n S ∧ After C H a pa sa (n, S, guessN n S x) Q
theorem ok_m_guess (T : Txt K mg) : FnOk P w K mg base CX0 3 T.f_m_guess T.fd_m_guess P_m_guess (sp_m_guess T.cc) := by
  have G_answer_with := ok_answer_with (P := P) (w := w) (base := base) T
  have G_how_many_strokes := ok_how_many_strokes (P := P) (w := w) (base := base) T
  have G_m_places := ok_m_places (P := P) (w := w) (base := base) T
  have G_m_there_is := ok_m_there_is (P := P) (w := w) (base := base) T
  have G_m_may_begin_with := ok_m_may_begin_with (P := P) (w := w) (base := base) T
  refine T.F_m_guess.ok sc_m_guess (fun vs H Q E h => ?_) (fun cdv A outer s H vs Q E hr h => ⟨_, (pss_cons (ps_if (pt_not (pt_val (pe_meth (pv 0) T.cl T.mt_m_there_is G_m_there_is (hr.mono (by decide)) T.bn_m_there_is .nil pass0 (pa_cons (pv 1) pa_nil)))) (pss_one (ps_ret (pe_lst (pa_cons (pe_un un_neg pe_int) pa_nil)))) pss_nil)
        (pss_cons (ps_if (pt_not (pt_val (pe_meth (pv 0) T.cl T.mt_m_may_begin_with G_m_may_begin_with (hr.mono (by decide)) T.bn_m_may_begin_with .nil pass0 (pa_cons (pv 1) pa_nil)))) (pss_one (ps_ret (pe_lst (pa_cons (pe_un un_neg pe_int) pa_nil)))) pss_nil)
        (pss_cons (ps_set (i := 2) sc_m_guess.nd rfl (Or.inl rfl) (pe_dget (hu_of hr) (pe_fld (pe_fld (pv 0) rfl) rfl) (pv 1) (fun _ _ => rfl)))
        (pss_one (ps_ret (pe_call G_answer_with (hr.mono (by decide)) rfl T.g_answer_with T.k_answer_with T.bn_answer_with .nil pass0 (pa_cons (pe_call G_how_many_strokes (hr.mono (by decide)) rfl T.g_how_many_strokes T.k_how_many_strokes T.bn_how_many_strokes .nil pass0 (pa_cons (pv 2) pa_nil)) (pa_cons (pe_lst (pa_cons (pe_meth (pv 0) T.cl T.mt_m_places G_m_places (hr.mono (by decide)) T.bn_m_places .nil pass0 (pa_cons (pv 2) pa_nil)) pa_nil)) pa_nil)))))))), ?_⟩)
  · obtain ⟨a, pa, sa, n, S, x, rfl, _⟩ := h
    rfl
  · obtain ⟨a, pa, sa, n, S, x, rfl, hC, q⟩ := h
    obtain ⟨ok, few, dx, xa, ts, e1, e2, e3, e4, e6⟩ := id hC
    obtain ⟨dxx, ba, h1, e5⟩ := id e6
    unfold guessN at q
    refine ⟨_, rfl, a, dx, _, rfl, e1, oF_no, _, rfl, a, pa, sa, n, S, x, rfl, hC, _, rfl, ?_⟩
    refine ifN (fun c => ?_) (fun c => ?_)
    · rw [if_pos (by omega)] at q
      exact ⟨_, rfl, (by decide : 1 ≤ sizeLine), fun p hp => q.same hC (Same.refl H) hp rfl⟩
    · rw [if_neg (by omega)] at q
      refine ⟨_, rfl, a, dx, _, rfl, e1, oF_no, _, rfl, a, pa, sa, n, S, x, rfl, hC, _, rfl, ?_⟩
      have hin : isIn n S x = ((brN n S).find? fun p => decide (p.1 = x)).isSome := rfl
      rw [hin]
      cases hf : (brN n S).find? fun p => decide (p.1 = x) with
      | none =>
        rw [hf] at q
        exact ⟨_, rfl, (by decide : 1 ≤ sizeLine), fun p hp => q.same hC (Same.refl H) hp rfl⟩
      | some pr =>
        rw [hf] at q
        have eg : some (nV pr.2) = valV (dN (brN n S)) (Sum.inl (x : Int) : Key) := by
          rw [valV_find, hf]
          rfl
        refine ⟨_, rfl, a, T.C, dx, _, _, rfl, e1, T.cl, T.n_explained, oF_explained, xa, T.C2, dxx, _, _, rfl, h1, T.cl2, T.n2_broken, xF_broken, _, rfl, ba, nV pr.2, rfl, ?_, ?_⟩
        · rw [eg]
          exact DGet.k (k := Sum.inl (x : Int)) e5
        refine ⟨_, rfl, pr.2, rfl, _, rfl, a, dx, _, rfl, e1, oF_no, _, rfl, a, pa, sa, n, S, pr.2, rfl, hC, fun l hl => ?_⟩
        have s1 : Same H (upd H l (.lst ((unpackN n pr.2).map nV))) := Same.new hl
        have e6 : upd H l (.lst ((unpackN n pr.2).map nV)) l = some (.lst ((intsN (unpackN n pr.2)).map V.int)) := by rw [upd_same, ints_map]
        refine ⟨(by decide : 1 ≤ sizeLine), fun r hr' => ?_⟩
        generalize upd H l (.lst ((unpackN n pr.2).map nV)) = H1 at s1 e6 hr' ⊢
        have s3 : Same H1 (upd H1 r (.lst [.ref l])) := Same.new hr'
        have e7 : upd H1 r (.lst [.ref l]) r = some (.lst [.ref l]) := upd_same
        generalize upd H1 r (.lst [.ref l]) = H3 at s3 e7 ⊢
        refine ⟨_, r, [l], [intsN (unpackN n pr.2)], rfl, SqL.of e7, ⟨s3 _ _ e6, trivial⟩, ?_, fun u hu => ?_⟩
        · rw [toldN_one, List.length_cons]
          unfold intsN
          rw [List.length_map, unpackN_len]
          omega
        · exact q.same hC (s1.trans s3) hu rfl
/-! likely -/
def sp_m_likely (C : Addr × Addr) : Sp := fun vs H Q _ => ∃ (a pa sa n : _) (S : Sights) (k : Nat), vs = [.ref a, nV k] ∧ AtC C H a pa sa n S ∧ After C H a pa sa (n, S, likelyN n S k) Q
theorem ok_m_likely (T : Txt K mg) : FnOk P w K mg base CX0 2 T.f_m_likely T.fd_m_likely P_m_likely (sp_m_likely T.cc) := by
  have G_x_has_none := ok_x_has_none (P := P) (w := w) (base := base) T
  have G_answer_with := ok_answer_with (P := P) (w := w) (base := base) T
  have G_how_many_strokes := ok_how_many_strokes (P := P) (w := w) (base := base) T
  have G_behind_others := ok_behind_others (P := P) (w := w) (base := base) T
  refine T.F_m_likely.ok sc_m_likely (fun vs H Q E h => ?_) (fun cdv A outer s H vs Q E hr h => ⟨_, (pss_cons (ps_if (pt_val (pe_meth0 (pe_fld (pv 0) rfl) T.cl2 T.mt_x_has_none G_x_has_none (hr.mono (by decide)) T.bn_x_has_none .nil pass0)) (pss_one (ps_ret (pe_lst (pa_cons (pe_un un_neg pe_int) pa_nil)))) pss_nil)
        (pss_cons (ps_set (i := 2) sc_m_likely.nd rfl (Or.inr rfl) pe_dnewK)
        (pss_cons (ps_lock (ps_for PassesOwn.never rfl (pi_items (pe_fld (pe_fld (pv 0) rfl) rfl)) (pg_tup rfl (pgs_cons (pg_name (i := 3) sc_m_likely.nd rfl (Or.inl rfl)) (pgs_cons (pg_name (i := 4) sc_m_likely.nd rfl (Or.inl rfl)) pgs_nil))) (pss_one (ps_dput (hu_of hr) (pv 2) (pv 3) (pe_call G_how_many_strokes (hr.mono (by decide)) rfl T.g_how_many_strokes T.k_how_many_strokes T.bn_how_many_strokes .nil pass0 (pa_cons (pv 4) pa_nil)) rfl))))
        (pss_cons (ps_set (i := 5) sc_m_likely.nd rfl (Or.inr rfl) (pe_minVals rfl rfl T.b_min (pv 2)))
        (pss_cons (ps_lock (ps_setLc (i := 6) (own := [("number", 3)]) (g := gName 3) rfl sc_m_likely.nd rfl rfl (sw_true rfl rfl rfl (by decide +kernel)) (pi_keys (pv 2)) (blkOk_by (own := [("number", 3)]) (N := N_m_likely) (sc := defScope s_m_likely) (by decide +kernel)) (fun _ _ _ _ _ => (pg_name (i := 3) sc_m_likely.nd rfl (Or.inl rfl))) (fun _ _ _ _ _ => (pts_one (pt_cmpR op_eq (pe_dget (hu_of hr) (pv 2) (pv 3) (fun _ _ => rfl)) (pv 5) (nomark _)))) (fun _ _ _ _ _ => (pv 3))))
        (pss_one (ps_ret (pe_call G_answer_with (hr.mono (by decide)) rfl T.g_answer_with T.k_answer_with T.bn_answer_with .nil pass0 (pa_cons (pv 5) (pa_cons (pe_lst (pa_cons (pe_lst (pa_cons (pe_callB call_len_seq rfl T.b_len boot_len (pa_cons (pv 6) pa_nil)) pa_nil)) (pa_cons (pe_call G_behind_others (hr.mono (by decide)) rfl T.g_behind_others T.k_behind_others T.bn_behind_others .nil pass0 (pa_cons (pv 6) (pa_cons (pv 1) pa_nil))) pa_nil))) pa_nil)))))))))), ?_⟩)
  · obtain ⟨a, pa, sa, n, S, k, rfl, _⟩ := h
    rfl
  · obtain ⟨a, pa, sa, n, S, k, rfl, hC, q⟩ := h
    obtain ⟨ok, few, dx, xa, ts, e1, e2, e3, e4, e6⟩ := id hC
    obtain ⟨dxx, ba, h1, e5⟩ := id e6
    unfold likelyN at q
    refine ⟨_, rfl, a, T.C, dx, _, _, rfl, e1, T.cl, T.n_explained, oF_explained, xa, dxx, _, rfl, h1, xF_no, xa, pa, n, S, rfl, e6, _, rfl, ?_⟩
    refine ifD (fun c0 => ?_) (fun c0 => ?_)
    · rw [if_pos c0] at q
      exact ⟨_, rfl, (by decide : 1 ≤ sizeLine), fun p hp => q.same hC (Same.refl H) hp rfl⟩
    · rw [if_neg c0] at q
      -- breaks = {}
      refine fun br hbr => ?_
      have nba : ba ≠ br := ne_of_none e5 hbr
      have nab : a ≠ ba := ne_of e1 e5 (fun z => nomatch z)
      have nxb : xa ≠ ba := ne_of h1 e5 (fun z => nomatch z)
      -- for number, broken in self.broken.items()
      refine ⟨ba, .dK (dN (brN n S)), ?_, trivial, fun od => ?_⟩
      · rw [upd_ne nba]
        exact e5
      refine ⟨_, rfl, a, T.C, dx, oF n pa sa xa, _, rfl, ?_, T.cl, T.n_explained, oF_explained, xa, T.C2, dxx, xF n S pa ba, _, rfl, ?_, T.cl2, T.n2_broken, xF_broken, ba, od, dN (brN n S), rfl, upd_same, ?_⟩
      · rw [upd_ne nab, upd_ne (ne_of_none e1 hbr)]
        exact e1
      · rw [upd_ne nxb, upd_ne (ne_of_none h1 hbr)]
        exact h1
      refine for_it walk_items (fun i σ H' => ∃ v u, σ = [some (.ref a), some (nV k), some (.ref br), v, u, none, none] ∧ H' ba = some (.frz od (.dK (dN (brN n S)))) ∧ H' br = some (.dK (dN (bitsOf ((brN n S).take i)))) ∧
        ∀ b o, H b = some o → b ≠ ba → H' b = some o) ⟨none, none, rfl, upd_same, ?_, ?_⟩ (fun i σ H' _ h => h.elim fun v h => h.elim fun u h => h.2.1) ?_ ?_
      · rw [upd_ne (Ne.symm nba), upd_same]
        rfl
      · intro b o e hb
        rw [upd_ne hb, upd_ne (ne_of_none e hbr)]
        exact e
      · rintro i x σ H1 H2 hi ⟨v, u, rfl, g1, g2, g3⟩ ⟨t, x1, x2, rfl, ht, rfl, p1, p2⟩
        rw [dN_len] at hi
        have hp : (brN n S)[i]? = some (brN n S)[i] := List.getElem?_eq_getElem hi
        generalize (brN n S)[i] = pr at hp
        have ex1 : x1 = nV pr.1 := by
          have : (dN (brN n S))[i]? = some (Sum.inl (pr.1 : Int), nV pr.2) := by
            unfold dN
            rw [List.getElem?_map, hp]
            rfl
          dsimp only at p1
          rw [this] at p1
          exact (Option.some.inj p1).symm
        have ex2 : x2 = nV pr.2 := by
          have : (dN (brN n S))[i]? = some (Sum.inl (pr.1 : Int), nV pr.2) := by
            unfold dN
            rw [List.getElem?_map, hp]
            rfl
          dsimp only at p2
          rw [this] at p2
          exact (Option.some.inj p2).symm
        subst ex1 ex2
        have hlt : ∀ z ∈ bitsOf ((brN n S).take i), z.1 ≠ pr.1 := by
          intro z hz
          obtain ⟨y, hy, rfl⟩ := List.mem_map.mp hz
          have hpw := brN_pair n S
          rw [← List.take_append_drop (i + 1) (brN n S), take_more hp, List.map_append, List.map_append] at hpw
          have h1 := (List.pairwise_append.mp hpw).1
          have h2 := (List.pairwise_append.mp h1).2.2 y.1 (List.mem_map.mpr ⟨y, hy, rfl⟩) pr.1 (by simp)
          show y.1 ≠ pr.1
          omega
        have nt : br ≠ t := ne_of_none g2 ht
        refine ⟨t, _, rfl, SqT.of upd_same, rfl, _, _, rfl, _, _, rfl, rfl, ?_⟩
        refine ⟨_, rfl, pr.2, rfl, _, rfl, _, rfl, br, upd (upd H1 t (.tup [nV pr.1, nV pr.2])) br (.dK (dN (bitsOf ((brN n S).take (i + 1))))), rfl, ?_, some (nV pr.1), some (nV pr.2), rfl, ?_, ?_, ?_⟩
        · rw [take_more hp]
          unfold bitsOf
          rw [List.map_append]
          show DPut _ br (nV pr.1) _ (upd _ br (.dK (dN (bitsOf ((brN n S).take i) ++ [(pr.1, bits pr.2)]))))
          rw [← dN_snoc hlt]
          refine DPut.k (k := Sum.inl (pr.1 : Int)) ?_ ?_
          · rw [upd_ne nt]
            exact g2
          · rw [dN_len]
            unfold bitsOf
            rw [List.length_map, List.length_take]
            have h1 := brN_len n S
            have h2 := pow_le ok.2
            exact small_line (by omega)
        · rw [upd_ne (ne_of g1 g2 (fun z => nomatch z)), upd_ne (ne_of_none g1 ht)]
          exact g1
        · rw [upd_same]
        · intro b o e hb
          have e' := g3 b o e hb
          rw [upd_ne (ne_of_none e hbr), upd_ne (ne_of_none e' ht)]
          exact e'
      · rintro σ H1 ⟨v, u, rfl, g1, g2, g3⟩
        rw [dN_len, List.take_length] at g2
        refine ⟨g1, ?_⟩
        -- behind the loop
        have s1 : Same H (upd H1 ba (.dK (dN (brN n S)))) := fun b o e => by
          by_cases hb : b = ba
          · rw [hb, upd_same]
            rw [hb, e5] at e
            exact e
          · rw [upd_ne hb]
            exact g3 b o e hb
        have f1 : upd H1 ba (.dK (dN (brN n S))) br = some (.dK (dN (bitsOf (brN n S)))) := by
          rw [upd_ne (Ne.symm nba)]
          exact g2
        generalize upd H1 ba (.dK (dN (brN n S))) = H2 at s1 f1 ⊢
        -- least = min(breaks.values())
        refine ⟨_, rfl, br, _, (bitsOf (brN n S)).map (fun p => (p.2 : Int)), rfl, f1, vals_dN _, ?_, fun m hm hle => ?_⟩
        · intro z
          have := congrArg List.length z
          unfold bitsOf at this
          rw [List.length_map, List.length_map] at this
          exact c0 this
        have em : m = ((minN ((brN n S).map fun p => bits p.2) : Nat) : Int) := by
          obtain ⟨p, hp, rfl⟩ := List.mem_map.mp hm
          obtain ⟨p0, hp0, rfl⟩ := List.mem_map.mp hp
          have := minN_is (l := (brN n S).map fun p => bits p.2) (m := bits p0.2) (List.mem_map.mpr ⟨p0, hp0, rfl⟩) (fun y hy => by
            obtain ⟨p1, hp1, rfl⟩ := List.mem_map.mp hy
            have := hle (bits p1.2 : Int) (List.mem_map.mpr ⟨(p1.1, bits p1.2), List.mem_map.mpr ⟨p1, hp1, rfl⟩, rfl⟩)
            omega)
          show (bits p0.2 : Int) = _
          rw [← this]
        subst em
        generalize minN ((brN n S).map fun p => bits p.2) = mm at q ⊢
        -- numbers = [number for number in breaks if breaks[number] == least]
        refine ⟨br, .dK (dN (bitsOf (brN n S))), f1, trivial, fun od2 => ?_⟩
        refine ⟨_, rfl, br, od2, rfl, .inl ⟨dN (bitsOf (brN n S)), upd_same, fun D hD => ?_⟩⟩
        have nbD : br ≠ D := ne_of_none (o := .frz od2 (.dK (dN (bitsOf (brN n S))))) upd_same hD
        refine lc_it walk_keys (fun i H' => H' br = some (.frz od2 (.dK (dN (bitsOf (brN n S))))) ∧ H' D = some (.lst ((leastIn ((brN n S).take i) mm).map nV)) ∧ ∀ b o, H2 b = some o → b ≠ br → H' b = some o) ⟨?_, upd_same, ?_⟩ (fun i H' _ h => h.1) ?_ ?_
        · rw [upd_ne nbD, upd_same]
        · intro b o e hb
          rw [upd_ne (ne_of_none (show upd H2 br _ b = some o by rw [upd_ne hb]; exact e) hD), upd_ne hb]
          exact e
        · rintro i x H3 H4 hi ⟨g1, g2, g3⟩ ⟨rfl, kk, vv, hkv, rfl⟩
          rw [dN_len] at hi
          have hi' : i < (brN n S).length := by
            unfold bitsOf at hi
            rw [List.length_map] at hi
            exact hi
          have hp : (brN n S)[i]? = some (brN n S)[i] := List.getElem?_eq_getElem hi'
          generalize (brN n S)[i] = pr at hp
          have hb : (bitsOf (brN n S))[i]? = some (pr.1, bits pr.2) := by
            unfold bitsOf
            rw [List.getElem?_map, hp]
            rfl
          have ekv : (kk, vv) = (Sum.inl (pr.1 : Int), nV (bits pr.2)) := by
            unfold dN at hkv
            rw [List.getElem?_map, hb] at hkv
            exact (Option.some.inj hkv).symm
          cases ekv
          have hfind := find_at (l := bitsOf (brN n S)) (p := (pr.1, bits pr.2)) (by
            unfold bitsOf
            rw [List.map_map]
            exact brN_pair n S) hb
          have eg : some (nV (bits pr.2)) = valV (dN (bitsOf (brN n S))) (Sum.inl (pr.1 : Int) : Key) := by
            rw [valV_find, hfind]
            rfl
          refine ⟨rfl, _, rfl, _, rfl, br, nV (bits pr.2), rfl, ?_, _, rfl, rfl, _, rfl, ?_⟩
          · rw [eg]
            exact .inl ⟨_, _, .inr ⟨od2, g1⟩, rfl, rfl⟩
          refine ifD (fun c2 => ?_) (fun c2 => ?_)
          · have c3 : bits pr.2 = mm := by
              have := V.int.inj c2
              omega
            refine ⟨_, rfl, _, g2, ?_, ?_, ?_, ?_⟩
            · unfold leastIn
              rw [List.length_map, List.length_map]
              have h1 := List.length_filter_le (fun p : Nat × Nat => decide (bits p.2 = mm)) ((brN n S).take i)
              rw [List.length_take] at h1
              have h2 := brN_len n S
              have h3 := pow_le ok.2
              exact small_line (by omega)
            · rw [upd_ne nbD]
              exact g1
            · rw [upd_same, take_more hp]
              unfold leastIn
              rw [List.filter_append, List.map_append, List.map_append, List.filter_cons, if_pos (decide_eq_true c3)]
              rfl
            · intro b o e hb
              have hbD : b ≠ D := ne_of_none (show upd H2 br _ b = some o by rw [upd_ne hb]; exact e) hD
              rw [upd_ne hbD]
              exact g3 b o e hb
          · have c3 : ¬ bits pr.2 = mm := fun z => c2 (by rw [z])
            refine ⟨g1, ?_, g3⟩
            rw [take_more hp]
            unfold leastIn at g2 ⊢
            rw [List.filter_append, List.filter_cons, if_neg (by rw [decide_eq_true_eq]; exact c3)]
            show _ = some (HO.lst ((((List.filter _ _) ++ []).map _).map _))
            rw [List.append_nil]
            exact g2
        · rintro H3 ⟨g1, g2, g3⟩
          refine ⟨g1, ?_⟩
          rw [dN_len] at g2
          unfold bitsOf at g2
          rw [List.length_map, List.take_length] at g2
          have s2 : Same H2 (upd H3 br (.dK (dN (bitsOf (brN n S))))) := fun b o e => by
            by_cases hb : b = br
            · rw [hb, upd_same]
              rw [hb, f1] at e
              exact e
            · rw [upd_ne hb]
              exact g3 b o e hb
          have f2 : upd H3 br (.dK (dN (bitsOf (brN n S)))) D = some (.lst ((leastIn (brN n S) mm).map nV)) := by
            rw [upd_ne (Ne.symm nbD)]
            exact g2
          generalize upd H3 br (.dK (dN (bitsOf (brN n S)))) = H4 at s2 f2 ⊢
          have sH := s1.trans s2
          -- return answer_with(least, [[len(numbers)], behind_others(numbers, k)])
          refine ⟨_, rfl, _, rfl, D, _, rfl, .inl (SqL.of f2), (by decide : 1 ≤ sizeLine), fun p hp => ?_⟩
          have s3 : Same H4 (upd H4 p (.lst [.int (((leastIn (brN n S) mm).map nV).length : Int)])) := Same.new hp
          have f3 : upd H4 p (.lst [.int (((leastIn (brN n S) mm).map nV).length : Int)]) p = some (.lst (([((leastIn (brN n S) mm).length : Int)]).map V.int)) := by
            rw [upd_same, List.length_map]
            rfl
          generalize upd H4 p (.lst [.int (((leastIn (brN n S) mm).map nV).length : Int)]) = H5 at s3 f3 ⊢
          refine ⟨_, rfl, _, rfl, D, _, k, rfl, SqL.of (s3 _ _ f2), fun r hr' => ?_⟩
          have s4 : Same H5 (upd H5 r (.lst ((pickN (leastIn (brN n S) mm) k).map nV))) := Same.new hr'
          have f4 : upd H5 r (.lst ((pickN (leastIn (brN n S) mm) k).map nV)) r = some (.lst ((intsN (pickN (leastIn (brN n S) mm) k)).map V.int)) := by rw [upd_same, ints_map]
          refine ⟨(by decide : 2 ≤ sizeLine), fun z hz => ?_⟩
          generalize upd H5 r (.lst ((pickN (leastIn (brN n S) mm) k).map nV)) = H6 at s4 f4 hz ⊢
          have s5 : Same H6 (upd H6 z (.lst [.ref p, .ref r])) := Same.new hz
          have f5 : upd H6 z (.lst [.ref p, .ref r]) z = some (.lst [.ref p, .ref r]) := upd_same
          generalize upd H6 z (.lst [.ref p, .ref r]) = H7 at s5 f5 ⊢
          refine ⟨_, z, [p, r], [[((leastIn (brN n S) mm).length : Int)], intsN (pickN (leastIn (brN n S) mm) k)], rfl, SqL.of f5, ⟨s5 _ _ (s4 _ _ f3), s5 _ _ f4, trivial⟩, ?_, fun u hu => ?_⟩
          · have h1 : (intsN (pickN (leastIn (brN n S) mm) k)).length ≤ 1 := by
              unfold intsN
              rw [List.length_map]
              exact pickN_len _ _
            rw [toldN_two, List.length_cons, List.length_append, List.length_cons]
            show 1 + (_ + 1) + 1 ≤ 10000
            omega
          · exact q.same hC (((sH.trans s3).trans s4).trans s5) hu rfl
end
end Bs

set_option Elab.async false
set_option linter.all false
set_option maxRecDepth 100000
set_option maxHeartbeats 4000000
namespace Bs
open PySem PySem.Spec PyProof.Rows L2
theorem ifNB {b : Bool} {A B : Prop} (h1 : b = false → A) (h2 : b = true → B) : if (!b) = true then A else B := by
  cases b with
  | true => exact h2 rfl
  | false => exact h1 rfl
theorem intsN_len (l : List Nat) : (intsN l).length = l.length := List.length_map ..
theorem statesN_len (n : Nat) (S : Sights) (m : Nat) : (statesN n S m).length ≤ 3 := by
  unfold statesN
  split <;> split <;> split <;> decide
theorem flat_len (n : Nat) : ∀ (S : Sights), (S.flatMap fun z => z.1 :: unpackN n z.2).length = S.length * (n + 1)
  | [] => by
    show 0 = 0 * (n + 1)
    rw [Nat.zero_mul]
  | z :: S => by
    rw [List.flatMap_cons, List.length_append, flat_len n S, List.length_cons, unpackN_len, List.length_cons, Nat.add_mul]
    omega
theorem told2_len (a b : List Int) {k : Nat} (h : a.length + b.length + 2 ≤ k) : (toldN [a, b]).length ≤ k := by
  rw [toldN_two, List.length_cons, List.length_append, List.length_cons]
  omega
theorem told1_len (a : List Int) {k : Nat} (h : a.length + 1 ≤ k) : (toldN [a]).length ≤ k := by
  rw [toldN_one, List.length_cons]
  omega
section
variable {P : Program} {w : World} {K : PySem.W.Frag} {mg : Str → Option Value} {base : Heap}
/-! stroke -/
def sp_m_states_of (C : Addr × Addr) : Sp := fun vs H Q _ => ∃ (a pa sa n : _) (S : Sights) (k i : Nat), vs = [.ref a, nV k, nV i] ∧ AtC C H a pa sa n S ∧ After C H a pa sa (n, S, strokeN n S k i) Q
theorem ok_m_states_of (T : Txt K mg) : FnOk P w K mg base CX0 3 T.f_m_states_of T.fd_m_states_of P_m_states_of (sp_m_states_of T.cc) := by
  have G_answer_with := ok_answer_with (P := P) (w := w) (base := base) T
  have G_stroke_alone := ok_stroke_alone (P := P) (w := w) (base := base) T
  have G_x_has_none := ok_x_has_none (P := P) (w := w) (base := base) T
  have G_x_states := ok_x_states (P := P) (w := w) (base := base) T
  refine T.F_m_states_of.ok sc_m_states_of (fun vs H Q E h => ?_) (fun cdv A outer s H vs Q E hr h => ⟨_, (pss_cons (ps_if (PW.pt (pw_or (pt_cmpR op_ge (pv 1) (pe_fld (pv 0) rfl) (nomark _)) (pw_or1 (pt_cmpR op_ge (pv 2) (pe_gint rfl T.c_STROKES) (nomark _))))) (pss_one (ps_ret (pe_lst (pa_cons (pe_un un_neg pe_int) pa_nil)))) pss_nil)
        (pss_cons (ps_if (pt_val (pe_meth0 (pe_fld (pv 0) rfl) T.cl2 T.mt_x_has_none G_x_has_none (hr.mono (by decide)) T.bn_x_has_none .nil pass0)) (pss_one (ps_ret (pe_lst (pa_cons (pe_un un_neg pe_int) pa_nil)))) pss_nil)
        (pss_cons (ps_set (i := 3) sc_m_states_of.nd rfl (Or.inl rfl) (pe_meth (pe_fld (pv 0) rfl) T.cl2 T.mt_x_states G_x_states (hr.mono (by decide)) T.bn_x_states .nil pass0 (pa_cons (pe_call G_stroke_alone (hr.mono (by decide)) rfl T.g_stroke_alone T.k_stroke_alone T.bn_stroke_alone .nil pass0 (pa_cons (pv 1) (pa_cons (pv 2) (pa_cons (pe_fld (pv 0) rfl) pa_nil)))) pa_nil)))
        (pss_one (ps_ret (pe_call G_answer_with (hr.mono (by decide)) rfl T.g_answer_with T.k_answer_with T.bn_answer_with .nil pass0 (pa_cons (pe_callB call_len_seq rfl T.b_len boot_len (pa_cons (pv 3) pa_nil)) (pa_cons (pe_lst (pa_cons (pv 3) pa_nil)) pa_nil)))))))), ?_⟩)
  · obtain ⟨a, pa, sa, n, S, k, i, rfl, _⟩ := h
    rfl
  · obtain ⟨a, pa, sa, n, S, k, i, rfl, hC, q⟩ := h
    obtain ⟨ok, few, dx, xa, ts, e1, e2, e3, e4, e6⟩ := id hC
    obtain ⟨dxx, ba, h1, e5⟩ := id e6
    unfold strokeN at q
    have no : (n ≤ k ∨ 7 ≤ i) → ∀ p, H p = none → Q (.ref p) (upd H p (.lst [.int (-2)])) := fun c p hp => by
      rw [if_pos c] at q
      exact q.same hC (Same.refl H) hp rfl
    refine ⟨_, rfl, _, rfl, a, T.C, dx, _, _, rfl, e1, T.cl, T.n_digits, oF_digits, _, _, rfl, rfl, _, rfl, ?_⟩
    refine ifD (fun c => ?_) (fun c => ?_)
    · exact ⟨_, rfl, (by decide : 1 ≤ sizeLine), fun p hp => no (.inl (by omega)) p hp⟩
    · refine ⟨_, rfl, _, _, rfl, rfl, _, rfl, ?_⟩
      refine ifD (fun c2 => ?_) (fun c2 => ?_)
      · exact ⟨_, rfl, (by decide : 1 ≤ sizeLine), fun p hp => no (.inr (by omega)) p hp⟩
      · have hk : k < n := by omega
        have hi : i < 7 := by omega
        rw [if_neg (by omega)] at q
        refine ⟨_, rfl, a, T.C, dx, _, _, rfl, e1, T.cl, T.n_explained, oF_explained, xa, dxx, _, rfl, h1, xF_no, xa, pa, n, S, rfl, e6, _, rfl, ?_⟩
        refine ifD (fun c0 => ?_) (fun c0 => ?_)
        · rw [if_pos c0] at q
          exact ⟨_, rfl, (by decide : 1 ≤ sizeLine), fun p hp => q.same hC (Same.refl H) hp rfl⟩
        · rw [if_neg c0] at q
          refine ⟨_, rfl, a, T.C, dx, _, _, rfl, e1, T.cl, T.n_explained, oF_explained, xa, dxx, _, rfl, h1, xF_no, _, rfl, _, rfl, _, rfl, a, T.C, dx, _, _, rfl, e1, T.cl, T.n_digits, oF_digits, k, i, n, rfl, hk, ok.2, hi, fun H1 s1 => ?_⟩
          refine ⟨xa, pa, n, S, _, rfl, e6.same s1, fun H2 l s2 hl el => ?_⟩
          have hlen := statesN_len n S (aloneN n k i)
          have el' : H2 l = some (.lst ((intsN (statesN n S (aloneN n k i))).map V.int)) := by rw [el, ints_map]
          refine ⟨_, rfl, l, _, rfl, .inl (SqL.of el), _, rfl, (by decide : 1 ≤ sizeLine), fun r hr' => ?_⟩
          rw [List.length_map]
          have s3 : Same H2 (upd H2 r (.lst [.ref l])) := Same.new hr'
          have e7 : upd H2 r (.lst [.ref l]) r = some (.lst [.ref l]) := upd_same
          generalize upd H2 r (.lst [.ref l]) = H3 at s3 e7 ⊢
          refine ⟨_, r, [l], [intsN (statesN n S (aloneN n k i))], rfl, SqL.of e7, ⟨s3 _ _ el', trivial⟩, ?_, fun u hu => ?_⟩
          · exact told1_len _ (by rw [intsN_len]; omega)
          · exact q.same hC ((s1.trans s2).trans s3) hu rfl
/-! sure -/
def sp_m_sure (C : Addr × Addr) : Sp := fun vs H Q _ => ∃ (a pa sa n : _) (S : Sights), vs = [.ref a] ∧ AtC C H a pa sa n S ∧ After C H a pa sa (n, S, sureN n S) Q
theorem ok_m_sure (T : Txt K mg) : FnOk P w K mg base CX0 3 T.f_m_sure T.fd_m_sure P_m_sure (sp_m_sure T.cc) := by
  have G_answer_with := ok_answer_with (P := P) (w := w) (base := base) T
  have G_how_many_strokes := ok_how_many_strokes (P := P) (w := w) (base := base) T
  have G_m_places := ok_m_places (P := P) (w := w) (base := base) T
  have G_x_has_none := ok_x_has_none (P := P) (w := w) (base := base) T
  have G_x_surely_broken := ok_x_surely_broken (P := P) (w := w) (base := base) T
  refine T.F_m_sure.ok sc_m_sure (fun vs H Q E h => ?_) (fun cdv A outer s H vs Q E hr h => ⟨_, (pss_cons (ps_if (pt_val (pe_meth0 (pe_fld (pv 0) rfl) T.cl2 T.mt_x_has_none G_x_has_none (hr.mono (by decide)) T.bn_x_has_none .nil pass0)) (pss_one (ps_ret (pe_lst (pa_cons (pe_un un_neg pe_int) pa_nil)))) pss_nil)
        (pss_cons (ps_set (i := 1) sc_m_sure.nd rfl (Or.inl rfl) (pe_meth0 (pe_fld (pv 0) rfl) T.cl2 T.mt_x_surely_broken G_x_surely_broken (hr.mono (by decide)) T.bn_x_surely_broken .nil pass0))
        (pss_one (ps_ret (pe_call G_answer_with (hr.mono (by decide)) rfl T.g_answer_with T.k_answer_with T.bn_answer_with .nil pass0 (pa_cons (pe_call G_how_many_strokes (hr.mono (by decide)) rfl T.g_how_many_strokes T.k_how_many_strokes T.bn_how_many_strokes .nil pass0 (pa_cons (pv 1) pa_nil)) (pa_cons (pe_lst (pa_cons (pe_meth (pv 0) T.cl T.mt_m_places G_m_places (hr.mono (by decide)) T.bn_m_places .nil pass0 (pa_cons (pv 1) pa_nil)) (pa_cons (pe_meth (pv 0) T.cl T.mt_m_places G_m_places (hr.mono (by decide)) T.bn_m_places .nil pass0 (pa_cons (pe_fld (pe_fld (pv 0) rfl) rfl) pa_nil)) pa_nil))) pa_nil))))))), ?_⟩)
  · obtain ⟨a, pa, sa, n, S, rfl, _⟩ := h
    rfl
  · obtain ⟨a, pa, sa, n, S, rfl, hC, q⟩ := h
    obtain ⟨ok, few, dx, xa, ts, e1, e2, e3, e4, e6⟩ := id hC
    obtain ⟨dxx, ba, h1, e5⟩ := id e6
    unfold sureN at q
    refine ⟨_, rfl, a, T.C, dx, _, _, rfl, e1, T.cl, T.n_explained, oF_explained, xa, dxx, _, rfl, h1, xF_no, xa, pa, n, S, rfl, e6, _, rfl, ?_⟩
    refine ifD (fun c0 => ?_) (fun c0 => ?_)
    · rw [if_pos c0] at q
      exact ⟨_, rfl, (by decide : 1 ≤ sizeLine), fun p hp => q.same hC (Same.refl H) hp rfl⟩
    · rw [if_neg c0] at q
      refine ⟨_, rfl, a, T.C, dx, _, _, rfl, e1, T.cl, T.n_explained, oF_explained, xa, dxx, _, rfl, h1, xF_no, xa, pa, n, S, rfl, e6, fun H1 s1 => ?_⟩
      refine ⟨_, rfl, surelyN n S, rfl, _, rfl, a, dx, _, rfl, s1 _ _ e1, oF_no, _, rfl, a, pa, sa, n, S, surelyN n S, rfl, hC.same s1, fun l hl => ?_⟩
      have s2 : Same H1 (upd H1 l (.lst ((unpackN n (surelyN n S)).map nV))) := Same.new hl
      have f2 : upd H1 l (.lst ((unpackN n (surelyN n S)).map nV)) l = some (.lst ((intsN (unpackN n (surelyN n S))).map V.int)) := by rw [upd_same, ints_map]
      generalize upd H1 l (.lst ((unpackN n (surelyN n S)).map nV)) = H2 at s2 f2 ⊢
      have s12 := s1.trans s2
      refine ⟨_, rfl, a, dx, _, rfl, s12 _ _ e1, oF_no, _, rfl, a, T.C, dx, _, _, rfl, s12 _ _ e1, T.cl, T.n_explained, oF_explained, xa, T.C2, dxx, _, _, rfl, s12 _ _ h1, T.cl2, T.n2_working, xF_working, a, pa, sa, n, S, workN n S, rfl, hC.same s12, fun m hm => ?_⟩
      have s3 : Same H2 (upd H2 m (.lst ((unpackN n (workN n S)).map nV))) := Same.new hm
      have f3 : upd H2 m (.lst ((unpackN n (workN n S)).map nV)) m = some (.lst ((intsN (unpackN n (workN n S))).map V.int)) := by rw [upd_same, ints_map]
      refine ⟨(by decide : 2 ≤ sizeLine), fun r hr' => ?_⟩
      generalize upd H2 m (.lst ((unpackN n (workN n S)).map nV)) = H3 at s3 f3 hr' ⊢
      have s4 : Same H3 (upd H3 r (.lst [.ref l, .ref m])) := Same.new hr'
      have e7 : upd H3 r (.lst [.ref l, .ref m]) r = some (.lst [.ref l, .ref m]) := upd_same
      generalize upd H3 r (.lst [.ref l, .ref m]) = H4 at s4 e7 ⊢
      refine ⟨_, r, [l, m], [intsN (unpackN n (surelyN n S)), intsN (unpackN n (workN n S))], rfl, SqL.of e7, ⟨s4 _ _ (s3 _ _ f2), s4 _ _ f3, trivial⟩, ?_, fun u hu => ?_⟩
      · exact told2_len _ _ (by rw [intsN_len, intsN_len, unpackN_len, unpackN_len]; omega)
      · exact q.same hC ((s12.trans s3).trans s4) hu rfl
/-! next -/
def sp_m_will_show (C : Addr × Addr) : Sp := fun vs H Q _ => ∃ (a pa sa n : _) (S : Sights) (d : Nat), vs = [.ref a, nV d] ∧ AtC C H a pa sa n S ∧ After C H a pa sa (n, S, nextN n S d) Q
theorem ok_m_will_show (T : Txt K mg) : FnOk P w K mg base CX0 4 T.f_m_will_show T.fd_m_will_show P_m_will_show (sp_m_will_show T.cc) := by
  have G_answer_with := ok_answer_with (P := P) (w := w) (base := base) T
  have G_how_many_strokes := ok_how_many_strokes (P := P) (w := w) (base := base) T
  have G_m_places := ok_m_places (P := P) (w := w) (base := base) T
  have G_m_now := ok_m_now (P := P) (w := w) (base := base) T
  have G_x_has_none := ok_x_has_none (P := P) (w := w) (base := base) T
  have G_x_can_be_lit := ok_x_can_be_lit (P := P) (w := w) (base := base) T
  have G_x_can_be_dark := ok_x_can_be_dark (P := P) (w := w) (base := base) T
  refine T.F_m_will_show.ok sc_m_will_show (fun vs H Q E h => ?_) (fun cdv A outer s H vs Q E hr h => ⟨_, (pss_cons (ps_if (pt_cmpR op_gt (pv 1) (pe_gint rfl T.c_MOST_SECONDS) (nomark _)) (pss_one (ps_ret (pe_lst (pa_cons (pe_un un_neg pe_int) pa_nil)))) pss_nil)
        (pss_cons (ps_if (pt_val (pe_meth0 (pe_fld (pv 0) rfl) T.cl2 T.mt_x_has_none G_x_has_none (hr.mono (by decide)) T.bn_x_has_none .nil pass0)) (pss_one (ps_ret (pe_lst (pa_cons (pe_un un_neg pe_int) pa_nil)))) pss_nil)
        (pss_cons (ps_set (i := 2) sc_m_will_show.nd rfl (Or.inl rfl) (pe_meth (pe_fld (pv 0) rfl) T.cl2 T.mt_x_can_be_lit G_x_can_be_lit (hr.mono (by decide)) T.bn_x_can_be_lit .nil pass0 (pa_cons (pe_op op_add (pe_meth0 (pv 0) T.cl T.mt_m_now G_m_now (hr.mono (by decide)) T.bn_m_now .nil pass0) (pv 1)) pa_nil)))
        (pss_cons (ps_set (i := 3) sc_m_will_show.nd rfl (Or.inl rfl) (pe_meth (pe_fld (pv 0) rfl) T.cl2 T.mt_x_can_be_dark G_x_can_be_dark (hr.mono (by decide)) T.bn_x_can_be_dark .nil pass0 (pa_cons (pe_op op_add (pe_meth0 (pv 0) T.cl T.mt_m_now G_m_now (hr.mono (by decide)) T.bn_m_now .nil pass0) (pv 1)) pa_nil)))
        (pss_cons (ps_set (i := 4) sc_m_will_show.nd rfl (Or.inl rfl) (pe_op op_and (pv 2) (pv 3)))
        (pss_one (ps_ret (pe_call G_answer_with (hr.mono (by decide)) rfl T.g_answer_with T.k_answer_with T.bn_answer_with .nil pass0 (pa_cons (pe_call G_how_many_strokes (hr.mono (by decide)) rfl T.g_how_many_strokes T.k_how_many_strokes T.bn_how_many_strokes .nil pass0 (pa_cons (pv 4) pa_nil)) (pa_cons (pe_lst (pa_cons (pe_meth (pv 0) T.cl T.mt_m_places G_m_places (hr.mono (by decide)) T.bn_m_places .nil pass0 (pa_cons (pe_op op_xor (pv 2) (pv 4)) pa_nil)) (pa_cons (pe_meth (pv 0) T.cl T.mt_m_places G_m_places (hr.mono (by decide)) T.bn_m_places .nil pass0 (pa_cons (pe_op op_xor (pv 3) (pv 4)) pa_nil)) pa_nil))) pa_nil)))))))))), ?_⟩)
  · obtain ⟨a, pa, sa, n, S, d, rfl, _⟩ := h
    rfl
  · obtain ⟨a, pa, sa, n, S, d, rfl, hC, q⟩ := h
    obtain ⟨ok, few, dx, xa, ts, e1, e2, e3, e4, e6⟩ := id hC
    obtain ⟨dxx, ba, h1, e5⟩ := id e6
    unfold nextN at q
    refine ⟨_, rfl, _, _, rfl, rfl, _, rfl, ?_⟩
    refine ifD (fun c => ?_) (fun c => ?_)
    · rw [if_pos (by omega)] at q
      exact ⟨_, rfl, (by decide : 1 ≤ sizeLine), fun p hp => q.same hC (Same.refl H) hp rfl⟩
    · rw [if_neg (by omega)] at q
      refine ⟨_, rfl, a, T.C, dx, _, _, rfl, e1, T.cl, T.n_explained, oF_explained, xa, dxx, _, rfl, h1, xF_no, xa, pa, n, S, rfl, e6, _, rfl, ?_⟩
      refine ifD (fun c0 => ?_) (fun c0 => ?_)
      · rw [if_pos c0] at q
        exact ⟨_, rfl, (by decide : 1 ≤ sizeLine), fun p hp => q.same hC (Same.refl H) hp rfl⟩
      · rw [if_neg c0] at q
        -- lit
        refine ⟨_, rfl, a, T.C, dx, _, _, rfl, e1, T.cl, T.n_explained, oF_explained, xa, dxx, _, rfl, h1, xF_no, _, rfl, a, dx, _, rfl, e1, oF_no, a, pa, sa, n, S, rfl, hC, _, rfl, _, _, rfl, rfl, xa, pa, n, S, nowN S + d, rfl, e6, e2, fun H1 s1 => ?_⟩
        -- dark
        refine ⟨_, rfl, a, T.C, dx, _, _, rfl, s1 _ _ e1, T.cl, T.n_explained, oF_explained, xa, dxx, _, rfl, s1 _ _ h1, xF_no, _, rfl, a, dx, _, rfl, s1 _ _ e1, oF_no, a, pa, sa, n, S, rfl, hC.same s1, _, rfl, _, _, rfl, rfl, xa, pa, n, S, nowN S + d, rfl, e6.same s1, s1 _ _ e2, fun H2 s2 => ?_⟩
        have s12 := s1.trans s2
        dsimp only at q
        generalize canLitN n S (nowN S + d) = L at q ⊢
        generalize canDarkN n S (nowN S + d) = D at q ⊢
        -- either
        refine ⟨_, rfl, _, rfl, _, _, rfl, rfl, ?_⟩
        have ee : V.int (Builtin.bitAnd (L : Int) (D : Int)) = nV (L &&& D) := by rw [andN]
        simp only [ee]
        generalize hE : L &&& D = E at q ⊢
        have e3 : ∀ z : Nat, V.int (Builtin.bitXor (z : Int) (E : Int)) = nV (z ^^^ E) := fun z => by rw [xorN]
        refine ⟨_, rfl, E, rfl, _, rfl, a, dx, _, rfl, s12 _ _ e1, oF_no, _, rfl, _, rfl, _, _, rfl, rfl, a, pa, sa, n, S, L ^^^ E, (by rw [← e3]; rfl), hC.same s12, fun l hl => ?_⟩
        have s3 : Same H2 (upd H2 l (.lst ((unpackN n (L ^^^ E)).map nV))) := Same.new hl
        have f3 : upd H2 l (.lst ((unpackN n (L ^^^ E)).map nV)) l = some (.lst ((intsN (unpackN n (L ^^^ E))).map V.int)) := by rw [upd_same, ints_map]
        generalize upd H2 l (.lst ((unpackN n (L ^^^ E)).map nV)) = H3 at s3 f3 ⊢
        have s13 := s12.trans s3
        refine ⟨_, rfl, a, dx, _, rfl, s13 _ _ e1, oF_no, _, rfl, _, rfl, _, _, rfl, rfl, a, pa, sa, n, S, D ^^^ E, (by rw [← e3]; rfl), hC.same s13, fun m hm => ?_⟩
        have s4 : Same H3 (upd H3 m (.lst ((unpackN n (D ^^^ E)).map nV))) := Same.new hm
        have f4 : upd H3 m (.lst ((unpackN n (D ^^^ E)).map nV)) m = some (.lst ((intsN (unpackN n (D ^^^ E))).map V.int)) := by rw [upd_same, ints_map]
        refine ⟨(by decide : 2 ≤ sizeLine), fun r hr' => ?_⟩
        generalize upd H3 m (.lst ((unpackN n (D ^^^ E)).map nV)) = H4 at s4 f4 hr' ⊢
        have s5 : Same H4 (upd H4 r (.lst [.ref l, .ref m])) := Same.new hr'
        have e7 : upd H4 r (.lst [.ref l, .ref m]) r = some (.lst [.ref l, .ref m]) := upd_same
        generalize upd H4 r (.lst [.ref l, .ref m]) = H5 at s5 e7 ⊢
        refine ⟨_, r, [l, m], [intsN (unpackN n (L ^^^ E)), intsN (unpackN n (D ^^^ E))], rfl, SqL.of e7, ⟨s5 _ _ (s4 _ _ f3), s5 _ _ f4, trivial⟩, ?_, fun u hu => ?_⟩
        · exact told2_len _ _ (by rw [intsN_len, intsN_len, unpackN_len, unpackN_len]; omega)
        · exact q.same hC ((s13.trans s4).trans s5) hu rfl
/-! apart -/
def sp_m_apart (C : Addr × Addr) : Sp := fun vs H Q _ => ∃ (a pa sa n : _) (S : Sights) (x y d : Nat), vs = [.ref a, nV x, nV y, nV d] ∧ AtC C H a pa sa n S ∧ After C H a pa sa (n, S, apartN n S x y d) Q
theorem ok_m_apart (T : Txt K mg) : FnOk P w K mg base CX0 4 T.f_m_apart T.fd_m_apart P_m_apart (sp_m_apart T.cc) := by
  have G_m_there_is := ok_m_there_is (P := P) (w := w) (base := base) T
  have G_m_may_begin_with := ok_m_may_begin_with (P := P) (w := w) (base := base) T
  have G_m_now := ok_m_now (P := P) (w := w) (base := base) T
  have G_x_are_apart := ok_x_are_apart (P := P) (w := w) (base := base) T
  refine T.F_m_apart.ok sc_m_apart (fun vs H Q E h => ?_) (fun cdv A outer s H vs Q E hr h => ⟨_, (pss_cons (ps_if (PW.pt (pw_or (pt_not (pt_val (pe_meth (pv 0) T.cl T.mt_m_there_is G_m_there_is (hr.mono (by decide)) T.bn_m_there_is .nil pass0 (pa_cons (pv 1) pa_nil)))) (pw_or1 (pt_not (pt_val (pe_meth (pv 0) T.cl T.mt_m_there_is G_m_there_is (hr.mono (by decide)) T.bn_m_there_is .nil pass0 (pa_cons (pv 2) pa_nil))))))) (pss_one (ps_ret (pe_lst (pa_cons (pe_un un_neg pe_int) pa_nil)))) pss_nil)
        (pss_cons (ps_if (PW.pt (pw_or (pt_cmpR op_gt (pv 3) (pe_gint rfl T.c_MOST_SECONDS) (nomark _)) (pw_or1 (pt_cmpR op_eq (pv 1) (pv 2) (nomark _))))) (pss_one (ps_ret (pe_lst (pa_cons (pe_un un_neg pe_int) pa_nil)))) pss_nil)
        (pss_cons (ps_if (PW.pt (pw_or (pt_not (pt_val (pe_meth (pv 0) T.cl T.mt_m_may_begin_with G_m_may_begin_with (hr.mono (by decide)) T.bn_m_may_begin_with .nil pass0 (pa_cons (pv 1) pa_nil)))) (pw_or1 (pt_not (pt_val (pe_meth (pv 0) T.cl T.mt_m_may_begin_with G_m_may_begin_with (hr.mono (by decide)) T.bn_m_may_begin_with .nil pass0 (pa_cons (pv 2) pa_nil))))))) (pss_one (ps_ret (pe_lst (pa_cons (pe_un un_neg pe_int) pa_nil)))) pss_nil)
        (pss_one (ps_ret (pe_lst (pa_cons (pe_callTy call_int1 rfl T.b_int (by decide +kernel) (pa_cons (pe_meth (pe_fld (pv 0) rfl) T.cl2 T.mt_x_are_apart G_x_are_apart (hr.mono (by decide)) T.bn_x_are_apart .nil pass0 (pa_cons (pv 1) (pa_cons (pv 2) (pa_cons (pe_op op_add (pe_meth0 (pv 0) T.cl T.mt_m_now G_m_now (hr.mono (by decide)) T.bn_m_now .nil pass0) (pv 3)) pa_nil)))) pa_nil)) pa_nil))))))), ?_⟩)
  · obtain ⟨a, pa, sa, n, S, x, y, d, rfl, _⟩ := h
    rfl
  · obtain ⟨a, pa, sa, n, S, x, y, d, rfl, hC, q⟩ := h
    obtain ⟨ok, few, dx, xa, ts, e1, e2, e3, e4, e6⟩ := id hC
    obtain ⟨dxx, ba, h1, e5⟩ := id e6
    unfold apartN at q
    have no1 : (10 ^ n ≤ x ∨ 10 ^ n ≤ y) → ∀ p, H p = none → Q (.ref p) (upd H p (.lst [.int (-2)])) := fun c p hp => by
      rw [if_pos c] at q
      exact q.same hC (Same.refl H) hp rfl
    refine ⟨_, rfl, a, dx, _, rfl, e1, oF_no, _, rfl, a, pa, sa, n, S, x, rfl, hC, _, rfl, ?_⟩
    refine ifN (fun c => ?_) (fun c => ?_)
    · exact ⟨_, rfl, (by decide : 1 ≤ sizeLine), fun p hp => no1 (.inl (by omega)) p hp⟩
    refine ⟨_, rfl, a, dx, _, rfl, e1, oF_no, _, rfl, a, pa, sa, n, S, y, rfl, hC, _, rfl, ?_⟩
    refine ifN (fun c2 => ?_) (fun c2 => ?_)
    · exact ⟨_, rfl, (by decide : 1 ≤ sizeLine), fun p hp => no1 (.inr (by omega)) p hp⟩
    rw [if_neg (by omega)] at q
    have no2 : (10000 < d ∨ x = y) → ∀ p, H p = none → Q (.ref p) (upd H p (.lst [.int (-1)])) := fun c p hp => by
      rw [if_pos c] at q
      exact q.same hC (Same.refl H) hp rfl
    refine ⟨_, rfl, _, _, rfl, rfl, _, rfl, ?_⟩
    refine ifD (fun c3 => ?_) (fun c3 => ?_)
    · exact ⟨_, rfl, (by decide : 1 ≤ sizeLine), fun p hp => no2 (.inl (by omega)) p hp⟩
    refine ⟨_, rfl, _, rfl, rfl, _, rfl, ?_⟩
    refine ifD (fun c4 => ?_) (fun c4 => ?_)
    · have c4' : x = y := by
        have := V.int.inj c4
        omega
      exact ⟨_, rfl, (by decide : 1 ≤ sizeLine), fun p hp => no2 (.inr c4') p hp⟩
    have c4' : ¬ x = y := fun z => c4 (by rw [z])
    rw [if_neg (by omega)] at q
    have no3 : (isIn n S x = false ∨ isIn n S y = false) → ∀ p, H p = none → Q (.ref p) (upd H p (.lst [.int (-6)])) := fun c p hp => by
      rw [if_pos c] at q
      exact q.same hC (Same.refl H) hp rfl
    refine ⟨_, rfl, a, dx, _, rfl, e1, oF_no, _, rfl, a, pa, sa, n, S, x, rfl, hC, _, rfl, ?_⟩
    refine ifNB (fun c5 => ?_) (fun c5 => ?_)
    · exact ⟨_, rfl, (by decide : 1 ≤ sizeLine), fun p hp => no3 (.inl c5) p hp⟩
    refine ⟨_, rfl, a, dx, _, rfl, e1, oF_no, _, rfl, a, pa, sa, n, S, y, rfl, hC, _, rfl, ?_⟩
    refine ifNB (fun c6 => ?_) (fun c6 => ?_)
    · exact ⟨_, rfl, (by decide : 1 ≤ sizeLine), fun p hp => no3 (.inr c6) p hp⟩
    rw [if_neg (by rw [c5, c6]; decide)] at q
    refine ⟨_, rfl, a, T.C, dx, _, _, rfl, e1, T.cl, T.n_explained, oF_explained, xa, dxx, _, rfl, h1, xF_no, _, rfl, _, rfl, _, rfl, a, dx, _, rfl, e1, oF_no, a, pa, sa, n, S, rfl, hC, _, rfl, _, _, rfl, rfl, xa, pa, n, S, x, y, nowN S + d, rfl, e6, e2, .inr ⟨_, rfl, (by decide : 1 ≤ sizeLine), fun p hp => ?_⟩⟩
    exact q.same hC (Same.refl H) hp rfl
/-! shown -/
def sp_m_shown (C : Addr × Addr) : Sp := fun vs H Q _ => ∃ (a pa sa n : _) (S : Sights) (x d : Nat), vs = [.ref a, nV x, nV d] ∧ AtC C H a pa sa n S ∧ After C H a pa sa (n, S, shownN n S x d) Q
theorem ok_m_shown (T : Txt K mg) : FnOk P w K mg base CX0 3 T.f_m_shown T.fd_m_shown P_m_shown (sp_m_shown T.cc) := by
  have G_m_there_is := ok_m_there_is (P := P) (w := w) (base := base) T
  have G_m_now := ok_m_now (P := P) (w := w) (base := base) T
  have G_m_places := ok_m_places (P := P) (w := w) (base := base) T
  have G_count_at := ok_count_at (P := P) (w := w) (base := base) T
  have G_answer_with := ok_answer_with (P := P) (w := w) (base := base) T
  refine T.F_m_shown.ok sc_m_shown (fun vs H Q E h => ?_) (fun cdv A outer s H vs Q E hr h => ⟨_, (pss_cons (ps_if (pt_not (pt_val (pe_meth (pv 0) T.cl T.mt_m_there_is G_m_there_is (hr.mono (by decide)) T.bn_m_there_is .nil pass0 (pa_cons (pv 1) pa_nil)))) (pss_one (ps_ret (pe_lst (pa_cons (pe_un un_neg pe_int) pa_nil)))) pss_nil)
        (pss_cons (ps_if (pt_cmpR op_gt (pv 2) (pe_gint rfl T.c_MOST_SECONDS) (nomark _)) (pss_one (ps_ret (pe_lst (pa_cons (pe_un un_neg pe_int) pa_nil)))) pss_nil)
        (pss_cons (ps_set (i := 3) sc_m_shown.nd rfl (Or.inl rfl) (pe_call G_count_at (hr.mono (by decide)) rfl T.g_count_at T.k_count_at T.bn_count_at .nil pass0 (pa_cons (pe_op op_add (pe_meth0 (pv 0) T.cl T.mt_m_now G_m_now (hr.mono (by decide)) T.bn_m_now .nil pass0) (pv 2)) (pa_cons (pv 1) (pa_cons (pe_fld (pv 0) rfl) pa_nil)))))
        (pss_one (ps_ret (pe_call G_answer_with (hr.mono (by decide)) rfl T.g_answer_with T.k_answer_with T.bn_answer_with .nil pass0 (pa_cons (pv 3) (pa_cons (pe_lst (pa_cons (pe_meth (pv 0) T.cl T.mt_m_places G_m_places (hr.mono (by decide)) T.bn_m_places .nil pass0 (pa_cons (pe_ix ix_list (pe_fld (pv 0) rfl) (pv 3) (fun _ _ => rfl)) pa_nil)) pa_nil)) pa_nil)))))))), ?_⟩)
  · obtain ⟨a, pa, sa, n, S, x, d, rfl, _⟩ := h
    rfl
  · obtain ⟨a, pa, sa, n, S, x, d, rfl, hC, q⟩ := h
    obtain ⟨ok, few, dx, xa, ts, e1, e2, e3, e4, e6⟩ := id hC
    unfold shownN at q
    refine ⟨_, rfl, a, dx, _, rfl, e1, oF_no, _, rfl, a, pa, sa, n, S, x, rfl, hC, _, rfl, ?_⟩
    refine ifN (fun c => ?_) (fun c => ?_)
    · rw [if_pos (by omega)] at q
      exact ⟨_, rfl, (by decide : 1 ≤ sizeLine), fun p hp => q.same hC (Same.refl H) hp rfl⟩
    rw [if_neg (by omega)] at q
    refine ⟨_, rfl, _, _, rfl, rfl, _, rfl, ?_⟩
    refine ifD (fun c3 => ?_) (fun c3 => ?_)
    · rw [if_pos (by omega)] at q
      exact ⟨_, rfl, (by decide : 1 ≤ sizeLine), fun p hp => q.same hC (Same.refl H) hp rfl⟩
    rw [if_neg (by omega)] at q
    have hl : ((picsN n).map nV).length = 10 ^ n := by rw [List.length_map, picsN_len]
    -- count = count_at(self.now() + seconds, number, self.pictures)
    refine ⟨_, rfl, a, dx, _, rfl, e1, oF_no, a, pa, sa, n, S, rfl, hC, _, rfl, _, _, rfl, rfl, _, rfl, _, rfl, a, T.C, dx, _, _, rfl, e1, T.cl, T.n_pictures, oF_pictures, nowN S + d, x, pa, _, rfl, SqL.of e2, ?_, ?_⟩
    · rw [hl]
      exact pow_pos10 n
    rw [hl]
    have hc : (x + (nowN S + d)) % 10 ^ n < 10 ^ n := Nat.mod_lt _ (pow_pos10 n)
    generalize (x + (nowN S + d)) % 10 ^ n = c at hc q ⊢
    refine ⟨_, rfl, _, rfl, a, dx, _, rfl, e1, oF_no, _, rfl, a, T.C, dx, _, _, rfl, e1, T.cl, T.n_pictures, oF_pictures, _, rfl, pa, _, _, _, rfl, rfl, SqL.of e2, at_of (j := c) rfl (map_get (getD_pics hc)), a, pa, sa, n, S, shouldN n c, rfl, hC, fun l hl => ?_⟩
    have s1 : Same H (upd H l (.lst ((unpackN n (shouldN n c)).map nV))) := Same.new hl
    have f1 : upd H l (.lst ((unpackN n (shouldN n c)).map nV)) l = some (.lst ((intsN (unpackN n (shouldN n c))).map V.int)) := by rw [upd_same, ints_map]
    refine ⟨(by decide : 1 ≤ sizeLine), fun r hr' => ?_⟩
    generalize upd H l (.lst ((unpackN n (shouldN n c)).map nV)) = H1 at s1 f1 hr' ⊢
    have s2 : Same H1 (upd H1 r (.lst [.ref l])) := Same.new hr'
    have e7 : upd H1 r (.lst [.ref l]) r = some (.lst [.ref l]) := upd_same
    generalize upd H1 r (.lst [.ref l]) = H2 at s2 e7 ⊢
    refine ⟨_, r, [l], [intsN (unpackN n (shouldN n c))], rfl, SqL.of e7, ⟨s2 _ _ f1, trivial⟩, ?_, fun u hu => ?_⟩
    · exact told1_len _ (by rw [intsN_len, unpackN_len]; omega)
    · exact q.same hC (s1.trans s2) hu rfl
/-! state -/
def sp_m_state (C : Addr × Addr) : Sp := fun vs H Q _ => ∃ (a pa sa n : _) (S : Sights), vs = [.ref a] ∧ AtC C H a pa sa n S ∧ After C H a pa sa (n, S, stateN n S) Q
theorem ok_m_state (T : Txt K mg) : FnOk P w K mg base CX0 3 T.f_m_state T.fd_m_state P_m_state (sp_m_state T.cc) := by
  have G_m_now := ok_m_now (P := P) (w := w) (base := base) T
  have G_m_places := ok_m_places (P := P) (w := w) (base := base) T
  have G_answer_with := ok_answer_with (P := P) (w := w) (base := base) T
  refine T.F_m_state.ok sc_m_state (fun vs H Q E h => ?_) (fun cdv A outer s H vs Q E hr h => ⟨_, (pss_cons (ps_set (i := 1) sc_m_state.nd rfl (Or.inl rfl) (pe_lst pa_nil))
        (pss_cons (ps_for PassesOwn.never rfl (pi_list (pe_fld (pv 0) rfl)) (pg_tup rfl (pgs_cons (pg_name (i := 2) sc_m_state.nd rfl (Or.inl rfl)) (pgs_cons (pg_name (i := 3) sc_m_state.nd rfl (Or.inl rfl)) pgs_nil))) (pss_cons (ps_expr (pe_bm PySem.F.plainAttrs_list PySem.F.slot_list_append PySem.F.type_list_append mt_append (pv 1) (pa_cons (pv 2) pa_nil)))
        (pss_one (ps_expr (pe_bm PySem.F.plainAttrs_list PySem.F.slot_list_extend PySem.F.type_list_extend mt_extend (pv 1) (pa_cons (pe_meth (pv 0) T.cl T.mt_m_places G_m_places (hr.mono (by decide)) T.bn_m_places .nil pass0 (pa_cons (pv 3) pa_nil)) pa_nil))))))
        (pss_one (ps_ret (pe_call G_answer_with (hr.mono (by decide)) rfl T.g_answer_with T.k_answer_with T.bn_answer_with .nil pass0 (pa_cons (pe_meth0 (pv 0) T.cl T.mt_m_now G_m_now (hr.mono (by decide)) T.bn_m_now .nil pass0) (pa_cons (pe_lst (pa_cons (pe_lst (pa_cons (pe_fld (pv 0) rfl) pa_nil)) (pa_cons (pv 1) pa_nil))) pa_nil))))))), ?_⟩)
  · obtain ⟨a, pa, sa, n, S, rfl, _⟩ := h
    rfl
  · obtain ⟨a, pa, sa, n, S, rfl, hC, q⟩ := h
    obtain ⟨ok, few, dx, xa, ts, e1, e2, e3, e4, e6⟩ := id hC
    unfold stateN at q
    have hle : ∀ i, ((S.take i).flatMap fun z => z.1 :: unpackN n z.2).length ≤ 32 := fun i => by
      rw [flat_len, List.length_take]
      have h1 : min i S.length ≤ 8 := by omega
      exact Nat.mul_le_mul h1 (show n + 1 ≤ 4 by omega)
    refine ⟨(by decide : 0 ≤ sizeLine), fun l hl => ?_⟩
    have sm : ∀ o, Same H (upd H l o) := fun o => Same.new hl
    refine ⟨_, rfl, a, T.C, dx, _, _, rfl, (sm _) _ _ e1, T.cl, T.n_sights, oF_sights, sa, rfl, ⟨_, SqL.of ((sm _) _ _ e3)⟩, for_list (K := K) (a := sa) (xs := ts.map V.ref) (fun i σ H' => ∃ v u, σ = [some (.ref a), some (.ref l), v, u] ∧ H' l = some (.lst ((intsN ((S.take i).flatMap fun z => z.1 :: unpackN n z.2)).map V.int)) ∧ ∀ b o, H b = some o → H' b = some o)
      ⟨none, none, rfl, upd_same, sm _⟩ (fun i σ H' _ h => h.elim fun v h => h.elim fun u h => SqL.of (h.2.2 _ _ e3)) ?_ ?_⟩
    · rintro i y σ H1 hi ⟨v, u, rfl, g1, g2⟩
      obtain ⟨t, hz, rfl⟩ := get_map hi
      obtain ⟨s, hS, hT⟩ := e4.at hz
      have hi8 := hle (i + 1)
      have et : (S.take (i + 1)).flatMap (fun z => z.1 :: unpackN n z.2) = (S.take i).flatMap (fun z => z.1 :: unpackN n z.2) ++ (s.1 :: unpackN n s.2) := by
        rw [take_more hS, List.flatMap_append, List.flatMap_cons, List.flatMap_nil, List.append_nil]
      rw [et, List.length_append, List.length_cons] at hi8
      refine ⟨t, _, rfl, SqT.of (g2 _ _ hT), rfl, _, _, rfl, _, _, rfl, rfl, ?_⟩
      refine ⟨_, rfl, .inl ⟨rfl, _, SqL.of g1⟩, _, rfl, l, _, _, rfl, rfl, g1, ?_, ?_⟩
      · rw [List.length_map, intsN_len]
        exact small_line (by omega)
      have f1 : upd H1 l (.lst ((intsN ((S.take i).flatMap fun z => z.1 :: unpackN n z.2)).map V.int ++ [nV s.1])) l = some (.lst ((intsN ((S.take i).flatMap fun z => z.1 :: unpackN n z.2)).map V.int ++ [nV s.1])) := upd_same
      have f2 : ∀ b o, H b = some o → upd H1 l (.lst ((intsN ((S.take i).flatMap fun z => z.1 :: unpackN n z.2)).map V.int ++ [nV s.1])) b = some o := fun b o e => by
        rw [upd_ne (ne_of_none e hl)]
        exact g2 b o e
      generalize upd H1 l (.lst ((intsN ((S.take i).flatMap fun z => z.1 :: unpackN n z.2)).map V.int ++ [nV s.1])) = H2 at f1 f2 ⊢
      refine ⟨_, rfl, .inl ⟨rfl, _, SqL.of f1⟩, _, rfl, a, dx, _, rfl, f2 _ _ e1, oF_no, _, rfl, a, pa, sa, n, S, s.2, rfl, hC.same f2, fun z hz' => ?_⟩
      have nlz : l ≠ z := ne_of_none f1 hz'
      refine ⟨l, z, _, _, rfl, rfl, (by rw [upd_ne nlz]; exact f1), upd_same, ?_, some (nV s.1), some (nV s.2), rfl, ?_, ?_⟩
      · rw [List.length_append, List.length_map, List.length_map, intsN_len, List.length_cons, List.length_nil]
        exact Nat.le_of_lt (small_line (by omega))
      · rw [upd_same, et, ints_map, ints_map, List.map_append, List.append_assoc]
        rfl
      · intro b o e
        rw [upd_ne (ne_of_none e hl), upd_ne (ne_of_none (f2 b o e) hz')]
        exact f2 b o e
    · rintro σ H1 ⟨v, u, rfl, g1, g2⟩
      rw [List.length_map, e4.len, List.take_length] at g1
      refine ⟨_, rfl, a, dx, _, rfl, g2 _ _ e1, oF_no, a, pa, sa, n, S, rfl, hC.same g2, _, rfl, a, T.C, dx, _, _, rfl, g2 _ _ e1, T.cl, T.n_digits, oF_digits, (by decide : 1 ≤ sizeLine), fun p hp => ?_⟩
      have s3 : Same H1 (upd H1 p (.lst [nV n])) := Same.new hp
      have f3 : upd H1 p (.lst [nV n]) p = some (.lst (([(n : Int)]).map V.int)) := upd_same
      refine ⟨_, rfl, (by decide : 2 ≤ sizeLine), fun z hz => ?_⟩
      generalize upd H1 p (.lst [nV n]) = H2 at s3 f3 hz ⊢
      have s4 : Same H2 (upd H2 z (.lst [.ref p, .ref l])) := Same.new hz
      have e7 : upd H2 z (.lst [.ref p, .ref l]) z = some (.lst [.ref p, .ref l]) := upd_same
      generalize upd H2 z (.lst [.ref p, .ref l]) = H3 at s4 e7 ⊢
      refine ⟨_, z, [p, l], [[(n : Int)], intsN (S.flatMap fun z => z.1 :: unpackN n z.2)], rfl, SqL.of e7, ⟨s4 _ _ f3, s4 _ _ (s3 _ _ g1), trivial⟩, ?_, fun u hu => ?_⟩
      · have := hle S.length
        rw [List.take_length] at this
        exact told2_len _ _ (by rw [intsN_len]; show 1 + _ + 2 ≤ 10000; omega)
      · have g2' : Same H H1 := g2
        exact q.same hC ((g2'.trans s3).trans s4) hu rfl
end
end Bs

set_option linter.all false
namespace Bs
/-! # The specification by bits -/
theorem has_bit (m i : Nat) : Sy69.has m i = m.testBit i := by
  unfold Sy69.has
  rw [Nat.testBit_eq_decide_div_mod_eq]
  exact Bool.beq_eq_decide_eq ..
theorem bit_join {s : Nat} (p j : Nat) (h : s < 128) : (p * 128 + s).testBit j = if j < 7 then s.testBit j else p.testBit (j - 7) := by
  rw [Nat.mul_comm]
  exact Nat.testBit_two_pow_mul_add (i := 7) p h j
theorem packN_snoc (l : List Nat) (s : Nat) : packN (l ++ [s]) = packN l * 128 + s := by
  unfold packN
  rw [List.foldl_append]
  rfl
theorem packN_cons_aux : ∀ (l : List Nat) (a : Nat), l.foldl (fun p s => p * 128 + s) a = a * 128 ^ l.length + packN l
  | [], a => by
    show a = a * 128 ^ 0 + 0
    rw [Nat.pow_zero]
    omega
  | s :: l, a => by
    show l.foldl _ (a * 128 + s) = a * 128 ^ (l.length + 1) + l.foldl _ (0 * 128 + s)
    rw [Nat.zero_mul, Nat.zero_add, packN_cons_aux l (a * 128 + s), packN_cons_aux l s, Nat.pow_succ, Nat.add_mul, Nat.mul_assoc, Nat.mul_comm 128, Nat.add_assoc]
theorem packN_cons (s : Nat) (l : List Nat) : packN (s :: l) = s * 128 ^ l.length + packN l := by
  show l.foldl _ (0 * 128 + s) = _
  rw [Nat.zero_mul, Nat.zero_add, packN_cons_aux]
theorem packN_lt : ∀ (l : List Nat), (∀ m ∈ l, m < 128) → packN l < 128 ^ l.length
  | [], _ => by decide
  | s :: l, h => by
    have ih := packN_lt l fun m hm => h m (List.mem_cons_of_mem _ hm)
    have hs := h s List.mem_cons_self
    rw [packN_cons, List.length_cons, Nat.pow_succ]
    have : s * 128 ^ l.length ≤ 127 * 128 ^ l.length := Nat.mul_le_mul_right _ (by omega)
    omega
theorem pow128 (n : Nat) : 128 ^ n = 2 ^ (7 * n) := by
  rw [Nat.pow_mul]
/-- the bit of a stroke at a place -/
theorem pack_bit : ∀ (l : List Nat) (k i : Nat), (∀ m ∈ l, m < 128) → k < l.length → i < 7 → (packN l).testBit (7 * (l.length - 1 - k) + i) = (l.getD k 0).testBit i
  | [], k, i, _, hk, _ => absurd hk (by simp)
  | s :: l, 0, i, h, hk, hi => by
    have hl := packN_lt l fun m hm => h m (List.mem_cons_of_mem _ hm)
    rw [packN_cons, pow128, Nat.mul_comm, List.length_cons, show 7 * (l.length + 1 - 1 - 0) + i = 7 * l.length + i by omega]
    rw [pow128] at hl
    rw [Nat.testBit_two_pow_mul_add s hl, if_neg (by omega), show 7 * l.length + i - 7 * l.length = i by omega]
    rfl
  | s :: l, k + 1, i, h, hk, hi => by
    have hl := packN_lt l fun m hm => h m (List.mem_cons_of_mem _ hm)
    have hk' : k < l.length := Nat.lt_of_succ_lt_succ hk
    rw [pow128] at hl
    rw [packN_cons, pow128, Nat.mul_comm, List.length_cons, Nat.testBit_two_pow_mul_add s hl, if_pos (by omega), show l.length + 1 - 1 - (k + 1) = l.length - 1 - k by omega,
      pack_bit l k i (fun m hm => h m (List.mem_cons_of_mem _ hm)) hk' hi]
    rfl
/-! bits -/
theorem bits_two (q r : Nat) (h : r < 2) : bits (2 * q + r) = r + bits q := by
  by_cases c : 2 * q + r = 0
  · have h1 : q = 0 := by omega
    have h2 : r = 0 := by omega
    subst h1 h2
    rfl
  · rw [bits_step (by omega), show (2 * q + r) % 2 = r by omega, show (2 * q + r) / 2 = q by omega]
theorem bits_join : ∀ (i p s : Nat), s < 2 ^ i → bits (2 ^ i * p + s) = bits p + bits s
  | 0, p, s, h => by
    have e : s = 0 := by
      rw [Nat.pow_zero] at h
      omega
    subst e
    rw [Nat.pow_zero, Nat.one_mul]
    rfl
  | i + 1, p, s, h => by
    rw [Nat.pow_succ] at h
    have ih := bits_join i p (s / 2) (by omega)
    have e1 : 2 ^ (i + 1) * p + s = 2 * (2 ^ i * p + s / 2) + s % 2 := by
      rw [Nat.pow_succ, Nat.mul_comm (2 ^ i) 2, Nat.mul_assoc]
      omega
    have e2 : bits s = s % 2 + bits (s / 2) := by
      have := bits_two (s / 2) (s % 2) (by omega)
      rw [show 2 * (s / 2) + s % 2 = s by omega] at this
      exact this
    rw [e1, bits_two _ _ (by omega), ih, e2]
    omega
theorem bits_pack : ∀ (l : List Nat), (∀ m ∈ l, m < 128) → bits (packN l) = (l.map bits).sum
  | [], _ => rfl
  | s :: l, h => by
    have hl := packN_lt l fun m hm => h m (List.mem_cons_of_mem _ hm)
    rw [pow128] at hl
    rw [packN_cons, pow128, Nat.mul_comm, bits_join _ _ _ hl, bits_pack l fun m hm => h m (List.mem_cons_of_mem _ hm), List.map_cons, List.sum_cons]
/-! unpack -/
theorem unpackR_pack : ∀ (l : List Nat), (∀ m ∈ l, m < 128) → unpackR l.length (packN l.reverse) = l
  | [], _ => rfl
  | s :: l, h => by
    have hs := h s List.mem_cons_self
    rw [List.reverse_cons, packN_snoc, List.length_cons]
    show (packN l.reverse * 128 + s) % 128 :: unpackR l.length ((packN l.reverse * 128 + s) / 128) = s :: l
    rw [show (packN l.reverse * 128 + s) % 128 = s by omega, show (packN l.reverse * 128 + s) / 128 = packN l.reverse by omega, unpackR_pack l fun m hm => h m (List.mem_cons_of_mem _ hm)]
theorem unpackN_pack (l : List Nat) (h : ∀ m ∈ l, m < 128) : unpackN l.length (packN l) = l := by
  have := unpackR_pack l.reverse fun m hm => h m (List.mem_reverse.mp hm)
  rw [List.length_reverse, List.reverse_reverse] at this
  unfold unpackN
  rw [this, List.reverse_reverse]
theorem unpackR_lt : ∀ (n p : Nat), ∀ m ∈ unpackR n p, m < 128
  | 0, _, m, h => absurd h (by simp [unpackR])
  | n + 1, p, m, h => by
    have h : m ∈ p % 128 :: unpackR n (p / 128) := h
    rcases List.mem_cons.mp h with rfl | h
    · omega
    · exact unpackR_lt n (p / 128) m h
theorem unpackN_lt (n p : Nat) : ∀ m ∈ unpackN n p, m < 128 := fun m h => unpackR_lt n p m (List.mem_reverse.mp h)
theorem pack_unpackR : ∀ (n p : Nat), p < 128 ^ n → packN (unpackR n p).reverse = p
  | 0, p, h => by
    rw [Nat.pow_zero] at h
    have : p = 0 := by omega
    subst this
    rfl
  | n + 1, p, h => by
    show packN ((p % 128 :: unpackR n (p / 128)).reverse) = p
    rw [List.reverse_cons, packN_snoc, pack_unpackR n (p / 128) (by rw [Nat.pow_succ] at h; omega)]
    omega
theorem pack_unpack (n p : Nat) (h : p < 128 ^ n) : packN (unpackN n p) = p := pack_unpackR n p h
/-! a place's strokes as one number -/
theorem mask_all : ∀ m : Nat, m < 128 → (((List.range 7).filter fun i => m.testBit i).map fun i => 2 ^ i).sum = m := by decide +kernel
theorem count_all : ∀ m : Nat, m < 128 → ((List.range 7).filter fun i => m.testBit i).length = bits m := by decide +kernel
/-- as the specification has them -/
theorem masks_of (s : Sy69.St) (f : Nat → Nat → Bool) (p : Nat) (hp : p < 128 ^ s.digits) (h : ∀ k i, k < s.digits → i < 7 → f k i = p.testBit (7 * (s.digits - 1 - k) + i)) : Sy69.masks s f = intsN (unpackN s.digits p) := by
  have hl : (unpackN s.digits p).length = s.digits := unpackN_len _ _
  have e : intsN (unpackN s.digits p) = (List.range s.digits).map fun k => (((unpackN s.digits p).getD k 0 : Nat) : Int) := by
    unfold intsN
    refine List.ext_getElem ?_ fun k h1 h2 => ?_
    · rw [List.length_map, List.length_map, List.length_range, hl]
    · rw [List.getElem_map, List.getElem_map, List.getElem_range, List.getD_eq_getElem?_getD, List.getElem?_eq_getElem]
      rfl
  rw [e]
  unfold Sy69.masks
  refine List.map_congr_left fun k hk => ?_
  have hk := List.mem_range.mp hk
  have hm : (unpackN s.digits p).getD k 0 < 128 := by
    rw [List.getD_eq_getElem?_getD, List.getElem?_eq_getElem (by omega)]
    exact unpackN_lt _ _ _ (List.getElem_mem _)
  have hf : (List.range 7).filter (fun i => f k i) = (List.range 7).filter fun i => ((unpackN s.digits p).getD k 0).testBit i := by
    refine List.filter_congr fun i hi => ?_
    have hi := List.mem_range.mp hi
    rw [h k i hk hi]
    have := pack_bit (unpackN s.digits p) k i (unpackN_lt _ _) (by omega) hi
    rw [hl, pack_unpack _ _ hp] at this
    rw [this]
  rw [hf, mask_all _ hm]
theorem count_of (s : Sy69.St) (f : Nat × Nat → Bool) (p : Nat) (hp : p < 128 ^ s.digits) (h : ∀ k i, k < s.digits → i < 7 → f (k, i) = p.testBit (7 * (s.digits - 1 - k) + i)) : ((Sy69.strokes s).filter f).length = bits p := by
  have hl : (unpackN s.digits p).length = s.digits := unpackN_len _ _
  have e := bits_pack (unpackN s.digits p) (unpackN_lt _ _)
  rw [pack_unpack _ _ hp] at e
  rw [e]
  have e2 : (unpackN s.digits p).map bits = (List.range s.digits).map fun k => bits ((unpackN s.digits p).getD k 0) := by
    refine List.ext_getElem ?_ fun k h1 h2 => ?_
    · rw [List.length_map, List.length_map, List.length_range, hl]
    · rw [List.getElem_map, List.getElem_map, List.getElem_range, List.getD_eq_getElem?_getD, List.getElem?_eq_getElem]
      rfl
  rw [e2]
  unfold Sy69.strokes
  rw [List.filter_flatMap, List.length_flatMap]
  refine congrArg List.sum (List.map_congr_left fun k hk => ?_)
  have hk := List.mem_range.mp hk
  have hm : (unpackN s.digits p).getD k 0 < 128 := by
    rw [List.getD_eq_getElem?_getD, List.getElem?_eq_getElem (by omega)]
    exact unpackN_lt _ _ _ (List.getElem_mem _)
  rw [List.filter_map, List.length_map, ← count_all _ hm]
  refine congrArg List.length (List.filter_congr fun i hi => ?_)
  have hi := List.mem_range.mp hi
  show f (k, i) = _
  rw [h k i hk hi]
  have := pack_bit (unpackN s.digits p) k i (unpackN_lt _ _) (by omega) hi
  rw [hl, pack_unpack _ _ hp] at this
  exact this
end Bs
set_option linter.all false
namespace Bs
/-- the mirror's digits and sights are the specification's -/
structure Rel (s : Sy69.St) (n : Nat) (S : Sights) : Prop where
  dig : s.digits = n
  ok : 1 ≤ n ∧ n ≤ 3
  sig : S = s.sights.map fun z => (z.time, packN z.lit)
  wf : ∀ z ∈ s.sights, z.lit.length = n ∧ ∀ m ∈ z.lit, m < 128
theorem any_same {α : Type} {f g : α → Bool} : ∀ {l : List α}, (∀ z ∈ l, f z = g z) → l.any f = l.any g
  | [], _ => rfl
  | z :: l, h => by rw [List.any_cons, List.any_cons, h z List.mem_cons_self, any_same fun y hy => h y (List.mem_cons_of_mem _ hy)]
theorem all_same {α : Type} {f g : α → Bool} : ∀ {l : List α}, (∀ z ∈ l, f z = g z) → l.all f = l.all g
  | [], _ => rfl
  | z :: l, h => by rw [List.all_cons, List.all_cons, h z List.mem_cons_self, all_same fun y hy => h y (List.mem_cons_of_mem _ hy)]
theorem foldl_or_bit {α : Type} (f : α → Nat) (b : Nat) : ∀ (l : List α) (a : Nat), (l.foldl (fun w s => w ||| f s) a).testBit b = (a.testBit b || l.any fun s => (f s).testBit b)
  | [], a => by
    rw [List.any_nil, Bool.or_false]
    rfl
  | s :: l, a => by
    show (l.foldl _ (a ||| f s)).testBit b = _
    rw [foldl_or_bit f b l, Nat.testBit_or, List.any_cons, Bool.or_assoc]
theorem foldl_or_lt {α : Type} (f : α → Nat) (m : Nat) : ∀ (l : List α) (a : Nat), a < 2 ^ m → (∀ s ∈ l, f s < 2 ^ m) → l.foldl (fun w s => w ||| f s) a < 2 ^ m
  | [], a, h, _ => h
  | s :: l, a, h, hl => foldl_or_lt f m l (a ||| f s) (Nat.or_lt_two_pow h (hl s List.mem_cons_self)) fun z hz => hl z (List.mem_cons_of_mem _ hz)
theorem dig_lt : ∀ d : Nat, DIG.getD d 0 < 128 := fun d => by
  by_cases h : d < 10
  · exact (by decide : ∀ d : Nat, d < 10 → DIG.getD d 0 < 128) d h
  · rw [List.getD_eq_getElem?_getD, List.getElem?_eq_none (by show 10 ≤ d; omega)]
    decide
theorem should_list_lt (n c : Nat) : ∀ m ∈ (List.range n).map (fun k => DIG.getD (digN n c k) 0), m < 128 := fun m h => by
  obtain ⟨k, _, rfl⟩ := List.mem_map.mp h
  exact dig_lt _
theorem shouldN_lt (n c : Nat) : shouldN n c < 128 ^ n := by
  have := packN_lt _ (should_list_lt n c)
  rw [List.length_map, List.length_range] at this
  exact this
theorem shouldN_bit (n c k i : Nat) (hk : k < n) (hi : i < 7) : (shouldN n c).testBit (7 * (n - 1 - k) + i) = Sy69.has (Sy69.DIGITS.getD (digN n c k) 0) i := by
  have hl : ((List.range n).map fun k => DIG.getD (digN n c k) 0).length = n := by rw [List.length_map, List.length_range]
  have := pack_bit _ k i (should_list_lt n c) (by omega) hi
  rw [hl] at this
  show (packN _).testBit _ = _
  rw [this, has_bit, List.getD_eq_getElem?_getD (l := List.map _ _), List.getElem?_map, List.getElem?_range hk]
  rfl
theorem picsN_get {n c : Nat} (h : c < 10 ^ n) : (picsN n).getD c 0 = shouldN n c := by
  unfold picsN
  rw [List.getD_eq_getElem?_getD, List.getElem?_map, List.getElem?_range h]
  rfl
/-- states 1 and 2 fit whatever it begins with -/
theorem fits_any (s : Sy69.St) (x y k i : Nat) {q : Nat} (h : q ≠ 0) : Sy69.fits s x k i q = Sy69.fits s y k i q := by
  unfold Sy69.fits Sy69.shows
  simp only [if_neg h]
theorem strokes_mem {s : Sy69.St} {p : Nat × Nat} : p ∈ Sy69.strokes s ↔ p.1 < s.digits ∧ p.2 < 7 := by
  unfold Sy69.strokes
  rw [List.mem_flatMap]
  constructor
  · rintro ⟨k, hk, hp⟩
    obtain ⟨i, hi, rfl⟩ := List.mem_map.mp hp
    exact ⟨List.mem_range.mp hk, List.mem_range.mp hi⟩
  · rintro ⟨h1, h2⟩
    exact ⟨p.1, List.mem_range.mpr h1, List.mem_map.mpr ⟨p.2, List.mem_range.mpr h2, rfl⟩⟩
/-- bits below 7 n are strokes of places -/
theorem bit_place {n b : Nat} (h : b < 7 * n) : ∃ k i, k < n ∧ i < 7 ∧ b = 7 * (n - 1 - k) + i := ⟨n - 1 - b / 7, b % 7, by omega, by omega, by omega⟩
theorem foldl_and_bit {α : Type} (f : α → Nat) (b : Nat) : ∀ (l : List α) (a : Nat), (l.foldl (fun w s => w &&& f s) a).testBit b = (a.testBit b && l.all fun s => (f s).testBit b)
  | [], a => by
    rw [List.all_nil, Bool.and_true]
    rfl
  | s :: l, a => by
    show (l.foldl _ (a &&& f s)).testBit b = _
    rw [foldl_and_bit f b l, Nat.testBit_and, List.all_cons, Bool.and_assoc]
theorem foldl_and_lt {α : Type} (f : α → Nat) (m : Nat) : ∀ (l : List α) (a : Nat), a < m → l.foldl (fun w s => w &&& f s) a < m
  | [], a, h => h
  | s :: l, a, h => foldl_and_lt f m l (a &&& f s) (Nat.lt_of_le_of_lt Nat.and_le_left h)
theorem whole_all (n : Nat) : ∀ m ∈ List.replicate n 127, m < 128 := fun m h => by
  rw [(List.mem_replicate.mp h).2]
  decide
theorem wholeN_lt (n : Nat) : wholeN n < 128 ^ n := by
  have := packN_lt _ (whole_all n)
  rw [List.length_replicate] at this
  exact this
theorem wholeN_bit {n k i : Nat} (hk : k < n) (hi : i < 7) : (wholeN n).testBit (7 * (n - 1 - k) + i) = true := by
  have := pack_bit _ k i (whole_all n) (by rw [List.length_replicate]; exact hk) hi
  rw [List.length_replicate] at this
  unfold wholeN
  rw [this, List.getD_eq_getElem?_getD, List.getElem?_replicate, if_pos hk]
  exact (by decide : ∀ i : Nat, i < 7 → (127 : Nat).testBit i = true) i hi
section
variable {s : Sy69.St} {n : Nat} {S : Sights} (R : Rel s n S)
include R
theorem Rel.size : Sy69.size s = 10 ^ n := by
  unfold Sy69.size
  rw [R.dig]
theorem Rel.size_pos : 0 < 10 ^ n := Nat.pow_pos (by decide)
/-- what should be lit at a place, at a time -/
theorem Rel.should_bit {x t k i : Nat} (hk : k < n) (hi : i < 7) : (shouldN n ((x + t) % 10 ^ n)).testBit (7 * (n - 1 - k) + i) = Sy69.should s x t k i := by
  rw [shouldN_bit n _ k i hk hi]
  unfold Sy69.should Sy69.digitAt Sy69.at_ digN
  rw [R.size, R.dig]
theorem Rel.lit_bit {z : Sy69.Sight} (hz : z ∈ s.sights) {k i : Nat} (hk : k < n) (hi : i < 7) : (packN z.lit).testBit (7 * (n - 1 - k) + i) = Sy69.has (z.lit.getD k 0) i := by
  obtain ⟨h1, h2⟩ := R.wf z hz
  have := pack_bit z.lit k i h2 (by omega) hi
  rw [h1] at this
  rw [this, has_bit]
theorem Rel.lit_lt {z : Sy69.Sight} (hz : z ∈ s.sights) : packN z.lit < 2 ^ (7 * n) := by
  obtain ⟨h1, h2⟩ := R.wf z hz
  have := packN_lt z.lit h2
  rw [h1, pow128] at this
  exact this
theorem Rel.pic {x t : Nat} : (picsN n).getD ((x + t) % (picsN n).length) 0 = shouldN n ((x + t) % 10 ^ n) := by
  rw [picsN_len]
  exact picsN_get (Nat.mod_lt _ R.size_pos)
theorem Rel.wrong_eq (x : Nat) : wrongN x S (picsN n) = s.sights.foldl (fun w z => w ||| (packN z.lit ^^^ shouldN n ((x + z.time) % 10 ^ n))) 0 := by
  unfold wrongN
  rw [R.sig, List.foldl_map]
  refine congrArg (fun f => s.sights.foldl f 0) ?_
  funext w z
  show w ||| (packN z.lit ^^^ _) = _
  rw [R.pic]
theorem Rel.wrong_lt (x : Nat) : wrongN x S (picsN n) < 128 ^ n := by
  rw [R.wrong_eq, pow128]
  refine foldl_or_lt _ _ _ _ (Nat.pow_pos (by decide)) fun z hz => ?_
  have h := shouldN_lt n ((x + z.time) % 10 ^ n)
  rw [pow128] at h
  exact Nat.xor_lt_two_pow (R.lit_lt hz) h
/-- a stroke that is wrong in some sight does not work -/
theorem Rel.wrong_bit (x : Nat) {k i : Nat} (hk : k < n) (hi : i < 7) : (wrongN x S (picsN n)).testBit (7 * (n - 1 - k) + i) = !Sy69.fits s x k i 0 := by
  rw [R.wrong_eq, foldl_or_bit, Nat.zero_testBit, Bool.false_or]
  unfold Sy69.fits
  rw [List.not_all_eq_any_not]
  refine any_same (fun z hz => ?_)
  rw [Nat.testBit_xor, R.should_bit hk hi, R.lit_bit hz hk hi]
  show _ = !(Sy69.should s x z.time k i == Sy69.has (z.lit.getD k 0) i)
  cases Sy69.should s x z.time k i <;> cases Sy69.has (z.lit.getD k 0) i <;> rfl
/-- strokes that are lit in all sights, dark in all, neither -/
theorem Rel.lit_all_bit {k i : Nat} (hk : k < n) (hi : i < 7) : (litN (wholeN n) S).testBit (7 * (n - 1 - k) + i) = Sy69.fits s 0 k i 2 := by
  unfold litN
  rw [R.sig, List.foldl_map]
  show (s.sights.foldl (fun f z => f &&& packN z.lit) (wholeN n)).testBit _ = _
  rw [foldl_and_bit, wholeN_bit hk hi, Bool.true_and]
  unfold Sy69.fits
  refine all_same fun z hz => ?_
  rw [R.lit_bit hz hk hi]
  show _ = (true == Sy69.has (z.lit.getD k 0) i)
  cases Sy69.has (z.lit.getD k 0) i <;> rfl
theorem Rel.dark_all_bit {k i : Nat} (hk : k < n) (hi : i < 7) : (darkN (wholeN n) S).testBit (7 * (n - 1 - k) + i) = Sy69.fits s 0 k i 1 := by
  unfold darkN
  rw [R.sig, List.foldl_map]
  show (s.sights.foldl (fun f z => f &&& (wholeN n ^^^ packN z.lit)) (wholeN n)).testBit _ = _
  rw [foldl_and_bit (fun z : Sy69.Sight => wholeN n ^^^ packN z.lit), wholeN_bit hk hi, Bool.true_and]
  unfold Sy69.fits
  refine all_same fun z hz => ?_
  rw [Nat.testBit_xor, wholeN_bit hk hi, R.lit_bit hz hk hi]
  show _ = (false == Sy69.has (z.lit.getD k 0) i)
  cases Sy69.has (z.lit.getD k 0) i <;> rfl
theorem Rel.lit_all_lt : litN (wholeN n) S < 128 ^ n := foldl_and_lt _ _ _ _ (wholeN_lt n)
theorem Rel.dark_all_lt : darkN (wholeN n) S < 128 ^ n := foldl_and_lt (fun z : Nat × Nat => wholeN n ^^^ z.2) _ _ _ (wholeN_lt n)
theorem Rel.work_lt : workN n S < 128 ^ n := by
  have h1 := R.lit_all_lt
  have h2 := R.dark_all_lt
  have h3 := wholeN_lt n
  unfold workN
  rw [pow128] at *
  exact Nat.xor_lt_two_pow h3 (Nat.or_lt_two_pow h1 h2)
theorem Rel.work_bit {k i : Nat} (hk : k < n) (hi : i < 7) : (workN n S).testBit (7 * (n - 1 - k) + i) = !(Sy69.fits s 0 k i 1 || Sy69.fits s 0 k i 2) := by
  unfold workN
  rw [Nat.testBit_xor, Nat.testBit_or, wholeN_bit hk hi, R.lit_all_bit hk hi, R.dark_all_bit hk hi]
  cases Sy69.fits s 0 k i 1 <;> cases Sy69.fits s 0 k i 2 <;> rfl
theorem Rel.states_some {x k i : Nat} (hk : k < n) (hi : i < 7) : (!(Sy69.states s x k i).isEmpty) = !((wrongN x S (picsN n)).testBit (7 * (n - 1 - k) + i) && (workN n S).testBit (7 * (n - 1 - k) + i)) := by
  rw [R.wrong_bit x hk hi, R.work_bit hk hi, fits_any s 0 x k i (q := 1) (by decide), fits_any s 0 x k i (q := 2) (by decide)]
  unfold Sy69.states
  have e : (List.range 3).filter (Sy69.fits s x k i) = (if Sy69.fits s x k i 0 = true then [0] else []) ++ ((if Sy69.fits s x k i 1 = true then [1] else []) ++ (if Sy69.fits s x k i 2 = true then [2] else [])) := by
    show [0, 1, 2].filter _ = _
    simp only [List.filter_cons, List.filter_nil]
    cases Sy69.fits s x k i 0 <;> cases Sy69.fits s x k i 1 <;> cases Sy69.fits s x k i 2 <;> rfl
  rw [e]
  cases Sy69.fits s x k i 0 <;> cases Sy69.fits s x k i 1 <;> cases Sy69.fits s x k i 2 <;> rfl
theorem Rel.may_iff (x : Nat) : Sy69.may s x = ((wrongN x S (picsN n) &&& workN n S) == 0) := by
  rw [Bool.eq_iff_iff, beq_iff_eq]
  unfold Sy69.may
  rw [List.all_eq_true]
  constructor
  · intro h
    refine Nat.eq_of_testBit_eq fun b => ?_
    rw [Nat.testBit_and, Nat.zero_testBit]
    by_cases hb : b < 7 * n
    · obtain ⟨k, i, hk, hi, rfl⟩ := bit_place hb
      have := h (k, i) (strokes_mem.mpr ⟨by rw [R.dig]; exact hk, hi⟩)
      rw [R.states_some hk hi] at this
      cases q : ((wrongN x S (picsN n)).testBit (7 * (n - 1 - k) + i) && (workN n S).testBit (7 * (n - 1 - k) + i)) with
      | true =>
        rw [q] at this
        cases this
      | false => rfl
    · have hw := R.wrong_lt x
      rw [pow128] at hw
      rw [Nat.testBit_lt_two_pow (Nat.lt_of_lt_of_le hw (Nat.pow_le_pow_right (by decide) (by omega))), Bool.false_and]
  · intro h p hp
    obtain ⟨h1, h2⟩ := strokes_mem.mp hp
    rw [R.dig] at h1
    rw [R.states_some h1 h2, ← Nat.testBit_and, h, Nat.zero_testBit]
    rfl
theorem Rel.broken_eq (x : Nat) : Sy69.broken s x = bits (wrongN x S (picsN n)) := by
  unfold Sy69.broken
  refine count_of s _ _ ?_ fun k i hk hi => ?_
  · rw [R.dig]
    exact R.wrong_lt x
  · rw [R.dig] at hk ⊢
    rw [R.wrong_bit x hk hi]
theorem Rel.masks_eq (x : Nat) : Sy69.masks s (fun k i => !Sy69.fits s x k i 0) = intsN (unpackN n (wrongN x S (picsN n))) := by
  have := masks_of s (fun k i => !Sy69.fits s x k i 0) (wrongN x S (picsN n)) (by rw [R.dig]; exact R.wrong_lt x) fun k i hk hi => by
    rw [R.dig] at hk ⊢
    rw [R.wrong_bit x hk hi]
  rw [R.dig] at this
  exact this
theorem Rel.brN_eq : brN n S = (Sy69.all_ s).map fun x => (x, wrongN x S (picsN n)) := by
  unfold brN brokenN Sy69.all_
  rw [picsN_len, R.size]
  refine congrArg (List.map _) (List.filter_congr fun x _ => ?_)
  rw [R.may_iff]
theorem Rel.all_eq : Sy69.all_ s = (brN n S).map (·.1) := by
  rw [R.brN_eq, List.map_map]
  exact (List.map_id _).symm
theorem Rel.all_len : (Sy69.all_ s).length = (brN n S).length := by rw [R.all_eq, List.length_map]
end
end Bs
set_option linter.all false
namespace Bs
theorem now_eq {s : Sy69.St} {n : Nat} {S : Sights} (R : Rel s n S) : Sy69.now s = nowN S := by
  unfold Sy69.now nowN
  rw [R.sig, List.getLast?_map]
  cases s.sights.getLast? <;> rfl
theorem pick_eq (l : List Nat) (k : Nat) : Sy69.pick l k = intsN (pickN l k) := by
  unfold Sy69.pick pickN
  cases l[k]? <;> rfl
/-- one call: the state goes along, and the answer is the due one -/
def Step (s : Sy69.St) (c : Sy69.Call) (r : Nat × Sights × List Int) : Prop := Rel (Sy69.step s c).1 r.1 r.2.1 ∧ Sy69Neutral.out (Sy69.step s c).2 = r.2.2
section
variable {s : Sy69.St} {n : Nat} {S : Sights} (R : Rel s n S)
include R
theorem Rel.begins (d : Nat) : Step s (.begins d) (beginsN n S d) := by
  unfold Step beginsN Sy69.step
  by_cases c : d < 1 ∨ 3 < d
  · simp only [if_pos c]
    exact ⟨R, rfl⟩
  · simp only [if_neg c]
    have R2 : Rel ⟨d, []⟩ d [] := ⟨rfl, by omega, rfl, fun z hz => absurd hz (by simp)⟩
    refine ⟨R2, ?_⟩
    show [((Sy69.size ⟨d, []⟩ : Nat) : Int)] = [((brN d []).length : Int)]
    rw [← R2.all_len]
    have e : Sy69.all_ ⟨d, []⟩ = List.range (Sy69.size ⟨d, []⟩) := by
      unfold Sy69.all_
      refine List.filter_eq_self.mpr fun x _ => ?_
      rw [R2.may_iff]
      show ((0 &&& workN d [] : Nat) == 0) = true
      rw [Nat.zero_and]
      rfl
    rw [e, List.length_range]
theorem Rel.sees (few : S.length ≤ 8) (d : Nat) (l : List Nat) : Step s (.sees d l) (seesN n S d l) := by
  unfold Step seesN Sy69.step
  have hlen : s.sights.length = S.length := by rw [R.sig, List.length_map]
  have hc : (Sy69.DAYS < d ∨ l.length ≠ s.digits ∨ (l.any fun m => decide (127 < m)) = true) ↔ seenOk n d l = false := by
    unfold seenOk Sy69.DAYS
    rw [R.dig]
    have ha : (l.any fun m => decide (127 < m)) = !(l.all fun m => decide (m ≤ 127)) := by
      rw [List.not_all_eq_any_not]
      refine any_same fun m _ => ?_
      by_cases h : m ≤ 127
      · rw [decide_eq_true h, decide_eq_false (by omega)]
        rfl
      · rw [decide_eq_false h, decide_eq_true (by omega)]
        rfl
    rw [ha]
    by_cases h1 : d ≤ 10000
    · by_cases h2 : l.length = n
      · rw [decide_eq_true h1, decide_eq_true h2]
        cases (l.all fun m => decide (m ≤ 127)) <;> simp [h2]
        all_goals omega
      · rw [decide_eq_true h1, decide_eq_false h2]
        simp [h2]
    · rw [decide_eq_false h1]
      simp
      omega
  by_cases c : seenOk n d l = false
  · simp only [if_pos (hc.mpr c), if_pos c]
    exact ⟨R, rfl⟩
  · simp only [if_neg (fun z => c (hc.mp z)), if_neg c]
    by_cases c8 : S.length = 8
    · simp only [if_pos c8, if_pos (show 8 ≤ s.sights.length by omega)]
      exact ⟨R, rfl⟩
    · simp only [if_neg c8, if_neg (show ¬ 8 ≤ s.sights.length by omega)]
      have hok : seenOk n d l = true := by
        cases h : seenOk n d l with
        | true => rfl
        | false => exact absurd h c
      unfold seenOk at hok
      rw [Bool.and_eq_true, Bool.and_eq_true, decide_eq_true_eq, decide_eq_true_eq, List.all_eq_true] at hok
      obtain ⟨_, h2, h3⟩ := hok
      have R2 : Rel { s with sights := s.sights ++ [⟨Sy69.now s + d, l⟩] } n (S ++ [(nowN S + d, packN l)]) := by
        refine ⟨R.dig, R.ok, ?_, fun z hz => ?_⟩
        · rw [List.map_append, ← R.sig, now_eq R]
          rfl
        · rcases List.mem_append.mp hz with hz | hz
          · exact R.wf z hz
          · rw [List.mem_singleton.mp hz]
            refine ⟨h2, fun m hm => ?_⟩
            have := h3 m hm
            rw [decide_eq_true_eq] at this
            omega
      refine ⟨R2, ?_⟩
      show [((Sy69.all_ _).length : Int)] = _
      rw [R2.all_len]
theorem Rel.undo : Step s .undo (undoN n S) := by
  unfold Step undoN Sy69.step
  have hlen : s.sights.length = S.length := by rw [R.sig, List.length_map]
  by_cases c : S.length = 0
  · have h0 : s.sights.isEmpty = true := List.isEmpty_iff.mpr (List.eq_nil_of_length_eq_zero (by omega))
    simp only [if_pos c, if_pos h0]
    exact ⟨R, rfl⟩
  · have h0 : ¬ s.sights.isEmpty = true := fun z => c (by rw [← hlen, List.isEmpty_iff.mp z]; rfl)
    simp only [if_neg c, if_neg h0]
    refine ⟨⟨R.dig, R.ok, ?_, fun z hz => R.wf z (List.dropLast_subset _ hz)⟩, ?_⟩
    · show S.dropLast = _
      rw [R.sig, List.map_dropLast]
    · show [((s.sights.dropLast.length : Nat) : Int)] = [((S.dropLast.length : Nat) : Int)]
      rw [List.length_dropLast, List.length_dropLast, hlen]
theorem Rel.may (k : Nat) : Step s (.may k) (n, S, mayN n S k) := by
  refine ⟨R, ?_⟩
  show ((Sy69.all_ s).length : Int) :: toldN [Sy69.pick (Sy69.all_ s) k] = _
  unfold mayN
  rw [pick_eq, R.all_eq]
theorem Rel.guess (x : Nat) : Step s (.guess x) (n, S, guessN n S x) := by
  unfold Step guessN Sy69.step
  refine ⟨R, ?_⟩
  simp only [R.size]
  by_cases c : 10 ^ n ≤ x
  · simp only [if_pos c]
    rfl
  · simp only [if_neg c]
    have hf : (brN n S).find? (fun p => decide (p.1 = x)) = if Sy69.may s x = true then some (x, wrongN x S (picsN n)) else none := by
      cases h : (brN n S).find? (fun p => decide (p.1 = x)) with
      | none =>
        rw [if_neg]
        intro hm
        have := List.find?_eq_none.mp h (x, wrongN x S (picsN n)) (by
          rw [R.brN_eq]
          refine List.mem_map.mpr ⟨x, List.mem_filter.mpr ⟨List.mem_range.mpr ?_, hm⟩, rfl⟩
          rw [R.size]
          omega)
        exact this (decide_eq_true rfl)
      | some p =>
        have h1 := List.find?_some h
        have h2 := List.mem_of_find?_eq_some h
        rw [R.brN_eq] at h2
        obtain ⟨y, hy, rfl⟩ := List.mem_map.mp h2
        have e : y = x := of_decide_eq_true h1
        subst e
        rw [if_pos (List.mem_filter.mp hy).2]
    rw [hf]
    cases hm : Sy69.may s x with
    | false => rfl
    | true =>
      show ((Sy69.broken s x : Nat) : Int) :: toldN [Sy69.masks s fun k i => !Sy69.fits s x k i 0] = _
      rw [R.broken_eq, R.masks_eq]
      rfl
end
theorem least_fold (f : Nat → Nat) : ∀ (l : List Nat) (a : Nat), l.foldl (fun (m : Option Nat) x => match m with
    | none => some (f x)
    | some n => some (min n (f x))) (some a) = some ((l.map f).foldl min a)
  | [], a => rfl
  | x :: l, a => least_fold f l (min a (f x))
theorem least_eq (s : Sy69.St) : Sy69.least s = if (Sy69.all_ s).length = 0 then none else some (minN ((Sy69.all_ s).map (Sy69.broken s))) := by
  unfold Sy69.least
  cases Sy69.all_ s with
  | nil => rfl
  | cons x l => exact least_fold (Sy69.broken s) l (Sy69.broken s x)
theorem Rel.likely {s : Sy69.St} {n : Nat} {S : Sights} (R : Rel s n S) (k : Nat) : Step s (.likely k) (n, S, likelyN n S k) := by
  refine ⟨R, ?_⟩
  show Sy69Neutral.out (match Sy69.least s with
      | none => Sy69.ok (-6)
      | some n => ⟨(n : Nat), [[((Sy69.likely s).length : Int)], Sy69.pick (Sy69.likely s) k]⟩) = _
  unfold likelyN
  have em : (brN n S).map (fun p => bits p.2) = (Sy69.all_ s).map (Sy69.broken s) := by
    rw [R.brN_eq, List.map_map]
    refine List.map_congr_left fun x _ => ?_
    show bits (wrongN x S (picsN n)) = _
    rw [R.broken_eq]
  have el := least_eq s
  rw [R.all_len] at el
  by_cases c : (brN n S).length = 0
  · rw [if_pos c] at el
    simp only [el, if_pos c]
    rfl
  · rw [if_neg c] at el
    have e2 : Sy69.likely s = leastIn (brN n S) (minN ((brN n S).map fun p => bits p.2)) := by
      unfold Sy69.likely leastIn
      rw [el, em, R.brN_eq, List.filter_map, List.map_map]
      have e3 : ((fun x : Nat × Nat => x.1) ∘ fun x => (x, wrongN x S (picsN n))) = id := rfl
      rw [e3, List.map_id]
      refine List.filter_congr fun x _ => ?_
      show (some _ == some (Sy69.broken s x)) = decide (bits (wrongN x S (picsN n)) = _)
      rw [R.broken_eq]
      generalize minN ((Sy69.all_ s).map (Sy69.broken s)) = m
      by_cases h : bits (wrongN x S (picsN n)) = m
      · rw [h, decide_eq_true rfl]
        exact beq_self_eq_true _
      · rw [decide_eq_false h]
        exact beq_eq_false_iff_ne.mpr fun z => h (Option.some.inj z).symm
    simp only [el, if_neg c, e2, ← em]
    show _ :: toldN [_, Sy69.pick _ k] = _
    rw [pick_eq]
end Bs
set_option linter.all false
namespace Bs
/-! # The calls that stand in the list that is handed in -/
def iL (l : List Nat) : List Int := l.map fun (x : Nat) => (x : Int)
/-- a call as numbers -/
def enc : Sy69.Call → List Int
  | .begins n => [0, n]
  | .sees d l => 1 :: (d : Int) :: (l.length : Int) :: iL l
  | .undo => [2]
  | .may k => [3, k]
  | .likely k => [4, k]
  | .guess x => [5, x]
  | .stroke k i => [6, k, i]
  | .sure => [7]
  | .next d => [8, d]
  | .apart x y d => [9, x, y, d]
  | .shown x d => [10, x, d]
  | .state => [11]
def Small : Sy69.Call → Prop
  | .sees _ l => l.length ≤ 60
  | _ => True
/-- a line's answers -/
def runC : Sy69.St → List Sy69.Call → List (List Int)
  | _, [] => []
  | s, c :: r => Sy69Neutral.out (Sy69.step s c).2 :: runC (Sy69.step s c).1 r
def endC : Sy69.St → List Sy69.Call → Sy69.St
  | s, [] => s
  | s, c :: r => endC (Sy69.step s c).1 r
theorem runC_snoc : ∀ (l : List Sy69.Call) (s : Sy69.St) (c : Sy69.Call), runC s (l ++ [c]) = runC s l ++ [Sy69Neutral.out (Sy69.step (endC s l) c).2]
  | [], _, _ => rfl
  | d :: l, s, c => congrArg (_ :: ·) (runC_snoc l (Sy69.step s d).1 c)
theorem endC_snoc : ∀ (l : List Sy69.Call) (s : Sy69.St) (c : Sy69.Call), endC s (l ++ [c]) = (Sy69.step (endC s l) c).1
  | [], _, _ => rfl
  | d :: l, s, c => endC_snoc l (Sy69.step s d).1 c
theorem natIn_eq {l r : List Int} {n : Nat} (h : Sy69Neutral.natIn l = some (n, r)) : l = (n : Int) :: r := by
  cases l with
  | nil => cases h
  | cons z l =>
    unfold Sy69Neutral.natIn at h
    dsimp only at h
    by_cases c : 0 ≤ z ∧ z < 2 ^ 32
    · rw [if_pos c] at h
      cases h
      rw [Int.toNat_of_nonneg c.1]
    · rw [if_neg c] at h
      cases h
theorem many_eq : ∀ {k : Nat} {l r : List Int} {ns : List Nat}, Sy69Neutral.many_ Sy69Neutral.natIn k l = some (ns, r) → l = iL ns ++ r ∧ ns.length = k
  | 0, l, r, ns, h => by
    cases h
    exact ⟨rfl, rfl⟩
  | k + 1, l, r, ns, h => by
    unfold Sy69Neutral.many_ at h
    cases e : Sy69Neutral.natIn l with
    | none =>
      rw [e] at h
      cases h
    | some x =>
      obtain ⟨n, l2⟩ := x
      rw [e] at h
      have h : (Sy69Neutral.many_ Sy69Neutral.natIn k l2).map (fun y => (n :: y.1, y.2)) = some (ns, r) := h
      cases e2 : Sy69Neutral.many_ Sy69Neutral.natIn k l2 with
      | none =>
        rw [e2] at h
        cases h
      | some y =>
        obtain ⟨ms, r2⟩ := y
        rw [e2] at h
        cases h
        obtain ⟨h1, h2⟩ := many_eq e2
        rw [natIn_eq e, h1]
        exact ⟨rfl, congrArg (· + 1) h2⟩
theorem all_eq_some {A : Type} {x : Option (A × List Int)} {a : A} (h : Sy69Neutral.all_ x = some a) : x = some (a, []) := by
  cases x with
  | none => cases h
  | some y =>
    obtain ⟨b, r⟩ := y
    have h : (if r.isEmpty = true then some b else none) = some a := h
    by_cases c : r.isEmpty = true
    · rw [if_pos c] at h
      cases h
      rw [List.isEmpty_iff.mp c]
    · rw [if_neg c] at h
      cases h
theorem row_eq {l : List Int} {ns : List Nat} (h : Sy69Neutral.rowIn l = some (ns, [])) : l = (ns.length : Int) :: iL ns ∧ ns.length ≤ 60 := by
  cases l with
  | nil => cases h
  | cons z l =>
    unfold Sy69Neutral.rowIn Sy69Neutral.listIn at h
    dsimp only at h
    by_cases c : 0 ≤ z ∧ z ≤ 60
    · rw [if_pos c] at h
      obtain ⟨h1, h2⟩ := many_eq h
      rw [h1, List.append_nil]
      refine ⟨?_, by omega⟩
      rw [show z = (ns.length : Int) by omega]
    · rw [if_neg c] at h
      cases h
theorem map_some {A B : Type} {f : A → B} {x : Option A} {b : B} (h : x.map f = some b) : ∃ a, x = some a ∧ f a = b := by
  cases x with
  | none => cases h
  | some a => exact ⟨a, rfl, Option.some.inj h⟩
theorem some1 {l : List Int} {ns : List Nat} (h : Sy69Neutral.all_ (Sy69Neutral.some_ 1 l) = some ns) : ∃ a : Nat, ns = [a] ∧ l = [(a : Int)] := by
  obtain ⟨h1, h2⟩ := many_eq (all_eq_some h)
  match ns, h2 with
  | [a], _ => exact ⟨a, rfl, by rw [h1]; rfl⟩
theorem some2 {l : List Int} {ns : List Nat} (h : Sy69Neutral.all_ (Sy69Neutral.some_ 2 l) = some ns) : ∃ a b : Nat, ns = [a, b] ∧ l = [(a : Int), (b : Int)] := by
  obtain ⟨h1, h2⟩ := many_eq (all_eq_some h)
  match ns, h2 with
  | [a, b], _ => exact ⟨a, b, rfl, by rw [h1]; rfl⟩
theorem some3 {l : List Int} {ns : List Nat} (h : Sy69Neutral.all_ (Sy69Neutral.some_ 3 l) = some ns) : ∃ a b c : Nat, ns = [a, b, c] ∧ l = [(a : Int), (b : Int), (c : Int)] := by
  obtain ⟨h1, h2⟩ := many_eq (all_eq_some h)
  match ns, h2 with
  | [a, b, c], _ => exact ⟨a, b, c, rfl, by rw [h1]; rfl⟩
theorem some0 {l : List Int} {ns : List Nat} (h : Sy69Neutral.all_ (Sy69Neutral.some_ 0 l) = some ns) : l = [] := by
  obtain ⟨h1, h2⟩ := many_eq (all_eq_some h)
  match ns, h2 with
  | [], _ => exact h1
/-- a call's numbers are the call's -/
theorem callOf_enc {l : List Int} {c : Sy69.Call} (h : Sy69Neutral.callOf l = some c) : l = enc c ∧ Small c := by
  unfold Sy69Neutral.callOf at h
  split at h
  · obtain ⟨ns, h1, rfl⟩ := map_some h
    obtain ⟨a, rfl, rfl⟩ := some1 h1
    exact ⟨rfl, trivial⟩
  · rename_i l
    cases e : Sy69Neutral.some_ 1 l with
    | none =>
      rw [e] at h
      cases h
    | some x =>
      obtain ⟨xs, r⟩ := x
      rw [e] at h
      obtain ⟨ns, h1, rfl⟩ := map_some h
      obtain ⟨h2, h3⟩ := many_eq e
      obtain ⟨h4, h5⟩ := row_eq (all_eq_some h1)
      match xs, h3 with
      | [a], _ =>
        have h4 : r = (ns.length : Int) :: iL ns := h4
        rw [h2, h4]
        exact ⟨rfl, h5⟩
  · obtain ⟨ns, h1, rfl⟩ := map_some h
    rw [some0 h1]
    exact ⟨rfl, trivial⟩
  · obtain ⟨ns, h1, rfl⟩ := map_some h
    obtain ⟨a, rfl, rfl⟩ := some1 h1
    exact ⟨rfl, trivial⟩
  · obtain ⟨ns, h1, rfl⟩ := map_some h
    obtain ⟨a, rfl, rfl⟩ := some1 h1
    exact ⟨rfl, trivial⟩
  · obtain ⟨ns, h1, rfl⟩ := map_some h
    obtain ⟨a, rfl, rfl⟩ := some1 h1
    exact ⟨rfl, trivial⟩
  · obtain ⟨ns, h1, rfl⟩ := map_some h
    obtain ⟨a, b, rfl, rfl⟩ := some2 h1
    exact ⟨rfl, trivial⟩
  · obtain ⟨ns, h1, rfl⟩ := map_some h
    rw [some0 h1]
    exact ⟨rfl, trivial⟩
  · obtain ⟨ns, h1, rfl⟩ := map_some h
    obtain ⟨a, rfl, rfl⟩ := some1 h1
    exact ⟨rfl, trivial⟩
  · obtain ⟨ns, h1, rfl⟩ := map_some h
    obtain ⟨a, b, c, rfl, rfl⟩ := some3 h1
    exact ⟨rfl, trivial⟩
  · obtain ⟨ns, h1, rfl⟩ := map_some h
    obtain ⟨a, b, rfl, rfl⟩ := some2 h1
    exact ⟨rfl, trivial⟩
  · obtain ⟨ns, h1, rfl⟩ := map_some h
    rw [some0 h1]
    exact ⟨rfl, trivial⟩
  · cases h
/-! the list cut into calls -/
def flat (c : List (List Int)) : List Int := (PySy69.whole c).headD []
theorem row_app {l x t : List Int} (h : PyFlat.row l = some (x, t)) : l = (x.length : Int) :: (x ++ t) := by
  cases l with
  | nil => cases h
  | cons n r =>
    unfold PyFlat.row at h
    dsimp only at h
    by_cases c : 0 ≤ n ∧ n.toNat ≤ r.length
    · rw [if_pos c] at h
      cases h
      rw [List.take_append_drop, List.length_take, show ((min n.toNat r.length : Nat) : Int) = n by omega]
    · rw [if_neg c] at h
      cases h
theorem ite_some {α : Type} {c : Prop} [Decidable c] {x a : α} {y : Option α} (h : (if c then some x else y) = some a) : (c ∧ x = a) ∨ y = some a := by
  by_cases q : c
  · rw [if_pos q] at h
    exact .inl ⟨q, Option.some.inj h⟩
  · rw [if_neg q] at h
    exact .inr h
set_option maxHeartbeats 1000000 in
theorem shape_some {p : Int} {n k : Nat} (h : PySy69.shape p = some (n, k)) : (p, n, k) ∈ [((0 : Int), 1, 0), (1, 1, 1), (2, 0, 0), (3, 1, 0), (4, 1, 0), (5, 1, 0), (6, 2, 0), (7, 0, 0), (8, 1, 0), (9, 3, 0), (10, 2, 0), (11, 0, 0)] := by
  unfold PySy69.shape at h
  rcases ite_some h with ⟨rfl, e⟩ | h
  · cases e
    decide
  rcases ite_some h with ⟨rfl, e⟩ | h
  · cases e
    decide
  rcases ite_some h with ⟨rfl, e⟩ | h
  · cases e
    decide
  rcases ite_some h with ⟨rfl, e⟩ | h
  · cases e
    decide
  rcases ite_some h with ⟨rfl, e⟩ | h
  · cases e
    decide
  rcases ite_some h with ⟨rfl, e⟩ | h
  · cases e
    decide
  rcases ite_some h with ⟨rfl, e⟩ | h
  · cases e
    decide
  rcases ite_some h with ⟨rfl, e⟩ | h
  · cases e
    decide
  rcases ite_some h with ⟨rfl, e⟩ | h
  · cases e
    decide
  rcases ite_some h with ⟨rfl, e⟩ | h
  · cases e
    decide
  rcases ite_some h with ⟨rfl, e⟩ | h
  · cases e
    decide
  rcases ite_some h with ⟨rfl, e⟩ | h
  · cases e
    decide
  cases h
theorem call_app {l t : List Int} {c : List (List Int)} (h : PyFlat.call PySy69.shape l = some (c, t)) : l = flat c ++ t := by
  cases l with
  | nil => cases h
  | cons p r =>
    unfold PyFlat.call at h
    dsimp only at h
    cases e : PySy69.shape p with
    | none =>
      rw [e] at h
      cases h
    | some x =>
      obtain ⟨n, k⟩ := x
      rw [e] at h
      have h : (if r.length < n then none else match PyFlat.rows k (r.drop n) with
        | none => none
        | some (xs, t) => some ((p :: r.take n) :: xs, t)) = some (c, t) := h
      by_cases hn : r.length < n
      · rw [if_pos hn] at h
        cases h
      · rw [if_neg hn] at h
        cases e2 : PyFlat.rows k (r.drop n) with
        | none =>
          rw [e2] at h
          cases h
        | some y =>
          obtain ⟨xs, t2⟩ := y
          rw [e2] at h
          cases h
          have hm := shape_some e
          have hr : r = r.take n ++ r.drop n := (List.take_append_drop n r).symm
          have hl : (r.take n).length = n := by rw [List.length_take]; omega
          generalize r.take n = a at hr hl ⊢
          generalize r.drop n = b at hr e2
          subst hr
          clear hn e
          simp only [List.mem_cons, List.not_mem_nil, or_false, Prod.mk.injEq] at hm
          rcases hm with ⟨rfl, rfl, rfl⟩ | ⟨rfl, rfl, rfl⟩ | ⟨rfl, rfl, rfl⟩ | ⟨rfl, rfl, rfl⟩ | ⟨rfl, rfl, rfl⟩ | ⟨rfl, rfl, rfl⟩ | ⟨rfl, rfl, rfl⟩ | ⟨rfl, rfl, rfl⟩ | ⟨rfl, rfl, rfl⟩ | ⟨rfl, rfl, rfl⟩ | ⟨rfl, rfl, rfl⟩ | ⟨rfl, rfl, rfl⟩
          · cases e2
            match a, hl with
            | [x], _ => rfl
          · cases e3 : PyFlat.row b with
            | none =>
              unfold PyFlat.rows at e2
              rw [e3] at e2
              cases e2
            | some y =>
              obtain ⟨x, t3⟩ := y
              unfold PyFlat.rows at e2
              rw [e3] at e2
              cases e2
              rw [row_app e3]
              match a, hl with
              | [z], _ =>
                show (1 : Int) :: z :: (x.length : Int) :: (x ++ _) = ([1] ++ [z] ++ [(x.length : Int)] ++ x) ++ _
                simp
          · cases e2
            match a, hl with
            | [], _ => rfl
          · cases e2
            match a, hl with
            | [x], _ => rfl
          · cases e2
            match a, hl with
            | [x], _ => rfl
          · cases e2
            match a, hl with
            | [x], _ => rfl
          · cases e2
            match a, hl with
            | [x, y], _ => rfl
          · cases e2
            match a, hl with
            | [], _ => rfl
          · cases e2
            match a, hl with
            | [x], _ => rfl
          · cases e2
            match a, hl with
            | [x, y, z], _ => rfl
          · cases e2
            match a, hl with
            | [x, y], _ => rfl
          · cases e2
            match a, hl with
            | [], _ => rfl
theorem calls_app : ∀ {f : Nat} {l : List Int} {cs : List (List (List Int))}, PyFlat.calls PySy69.shape f l = some cs → l = cs.flatMap flat
  | 0, [], cs, h => by
    cases h
    rfl
  | f + 1, [], cs, h => by
    cases h
    rfl
  | 0, p :: r, cs, h => by cases h
  | f + 1, p :: r, cs, h => by
    unfold PyFlat.calls at h
    cases e : PyFlat.call PySy69.shape (p :: r) with
    | none =>
      rw [e] at h
      cases h
    | some x =>
      obtain ⟨c, t⟩ := x
      rw [e] at h
      have h : (match PyFlat.calls PySy69.shape f t with
        | none => none
        | some cs => some (c :: cs)) = some cs := h
      cases e2 : PyFlat.calls PySy69.shape f t with
      | none =>
        rw [e2] at h
        cases h
      | some ds =>
        rw [e2] at h
        cases h
        rw [call_app e, calls_app e2]
        rfl
theorem played_run : ∀ (cs : List (List (List Int))) (s : Sy69.St) (ds : List Sy69.Call), cs.map (fun c => Sy69Neutral.callOf (c.headD [])) = ds.map some →
    PyFlat.played (fun s c => Sy69Neutral.step s (c.headD [])) s cs = runC s ds
  | [], _, [], _ => rfl
  | [], _, _ :: _, h => by cases h
  | _ :: _, _, [], h => by cases h
  | c :: cs, s, d :: ds, h => by
    have h1 : Sy69Neutral.callOf (c.headD []) = some d := (List.cons.inj h).1
    have h2 := (List.cons.inj h).2
    have e : Sy69Neutral.step s (c.headD []) = ((Sy69.step s d).1, Sy69Neutral.out (Sy69.step s d).2) := by
      unfold Sy69Neutral.step
      rw [h1]
    show (Sy69Neutral.step s (c.headD [])).2 :: PyFlat.played _ (Sy69Neutral.step s (c.headD [])).1 cs = _
    rw [e]
    exact congrArg (_ :: ·) (played_run cs _ ds h2)
theorem all_calls : ∀ (l : List (List Int)), l.all Sy69Neutral.asked1 = true → ∃ ds : List Sy69.Call, l.map Sy69Neutral.callOf = ds.map some
  | [], _ => ⟨[], rfl⟩
  | c :: l, h => by
    rw [List.all_cons, Bool.and_eq_true] at h
    obtain ⟨ds, e⟩ := all_calls l h.2
    cases q : Sy69Neutral.callOf c with
    | none =>
      have := h.1
      unfold Sy69Neutral.asked1 at this
      rw [q] at this
      cases this
    | some d => exact ⟨d :: ds, by rw [List.map_cons, e, q]; rfl⟩
theorem flatMap_enc : ∀ (cs : List (List (List Int))) (ds : List Sy69.Call), cs.map (fun c => Sy69Neutral.callOf (flat c)) = ds.map some → cs.flatMap flat = ds.flatMap enc ∧ ∀ d ∈ ds, Small d
  | [], [], _ => ⟨rfl, fun d hd => absurd hd (by simp)⟩
  | [], _ :: _, h => by cases h
  | _ :: _, [], h => by cases h
  | c :: cs, d :: ds, h => by
    obtain ⟨h1, h3⟩ := callOf_enc (List.cons.inj h).1
    obtain ⟨h2, h4⟩ := flatMap_enc cs ds (List.cons.inj h).2
    refine ⟨?_, fun e he => ?_⟩
    · rw [List.flatMap_cons, List.flatMap_cons, h1, h2]
    · rcases List.mem_cons.mp he with rfl | he
      · exact h3
      · exact h4 e he
theorem told_eq (l : List (List Int)) : PyFlat.told l = toldN l := rfl
/-- WHAT IS ASKED: the list is calls, one behind another; what is due are their answers -/
theorem asked_calls {l : List Int} (h : PySy69.answers_asked l = true) : ∃ ds : List Sy69.Call, l = ds.flatMap enc ∧ (∀ d ∈ ds, Small d) ∧ ds.length ≤ 80 ∧ PySy69.answers l = toldN (runC Sy69.init ds) ∧ (toldN (runC Sy69.init ds)).length ≤ 10000000 := by
  unfold PySy69.answers_asked at h
  cases e : PyFlat.calls PySy69.shape l.length l with
  | none =>
    rw [e] at h
    cases h
  | some raw =>
    rw [e] at h
    simp only [Bool.and_eq_true] at h
    obtain ⟨⟨⟨⟨h1, h2⟩, h3⟩, h4⟩, h5⟩ := h
    have h2 : raw.length ≤ 80 := of_decide_eq_true h2
    unfold Sy69Neutral.asked at h4
    rw [Bool.and_eq_true] at h4
    obtain ⟨ds, e2⟩ := all_calls _ h4.1
    rw [List.map_map, List.map_map] at e2
    have e3 : raw.map (fun c => Sy69Neutral.callOf (flat c)) = ds.map some := e2
    obtain ⟨e4, e5⟩ := flatMap_enc raw ds e3
    have ea : PySy69.answers l = toldN (runC Sy69.init ds) := by
      unfold PySy69.answers PySy69.calls
      rw [e]
      show PyFlat.told (PyFlat.played _ _ (raw.map PySy69.whole)) = _
      rw [played_run (raw.map PySy69.whole) Sy69Neutral.start ds (by rw [List.map_map]; exact e3), told_eq]
      rfl
    have h5 : (PySy69.answers l).length ≤ 10000000 := of_decide_eq_true h5
    refine ⟨ds, (calls_app e).trans e4, e5, ?_, ea, by rw [← ea]; exact h5⟩
    have := congrArg List.length e3
    rw [List.length_map, List.length_map] at this
    omega
end Bs
set_option linter.all false
namespace Bs
/-! # What strokes may be, over all beginnings (promises 5 to 8), by facts of each stroke -/
/-- a stroke that some sights show lit and some dark has to work -/
def free (s : Sy69.St) (k i : Nat) (q : Nat) : Bool := Sy69.fits s 0 k i q
theorem fits1 (s : Sy69.St) (x k i : Nat) : Sy69.fits s x k i 1 = free s k i 1 := fits_any s x 0 k i (by decide)
theorem fits2 (s : Sy69.St) (x k i : Nat) : Sy69.fits s x k i 2 = free s k i 2 := fits_any s x 0 k i (by decide)
theorem states_eq (s : Sy69.St) (x k i : Nat) : Sy69.states s x k i = (if Sy69.fits s x k i 0 = true then [0] else []) ++ ((if free s k i 1 = true then [1] else []) ++ (if free s k i 2 = true then [2] else [])) := by
  unfold Sy69.states
  rw [← fits1 s x, ← fits2 s x]
  show [0, 1, 2].filter _ = _
  simp only [List.filter_cons, List.filter_nil]
  cases Sy69.fits s x k i 0 <;> cases Sy69.fits s x k i 1 <;> cases Sy69.fits s x k i 2 <;> rfl
theorem any_const {α : Type} {b : Bool} : ∀ {l : List α}, l ≠ [] → (l.any fun _ => b) = b
  | [], h => (h rfl).elim
  | [x], _ => by
    rw [List.any_cons, List.any_nil, Bool.or_false]
  | x :: y :: l, _ => by
    rw [List.any_cons, any_const (l := y :: l) (by simp), Bool.or_self]
/-- the states that a stroke has in some explanation -/
theorem union_eq (s : Sy69.St) {l : List Nat} (h : l ≠ []) (k i : Nat) : Sy69.union s l k i = (if (l.any fun x => Sy69.fits s x k i 0) = true then [0] else []) ++ ((if free s k i 1 = true then [1] else []) ++ (if free s k i 2 = true then [2] else [])) := by
  unfold Sy69.union
  have e1 : (l.any fun x => Sy69.fits s x k i 1) = free s k i 1 := by
    rw [← any_const (b := free s k i 1) h]
    exact any_same fun x _ => fits1 s x k i
  have e2 : (l.any fun x => Sy69.fits s x k i 2) = free s k i 2 := by
    rw [← any_const (b := free s k i 2) h]
    exact any_same fun x _ => fits2 s x k i
  show [0, 1, 2].filter (fun q => l.any fun x => Sy69.fits s x k i q) = _
  simp only [List.filter_cons, List.filter_nil, e1, e2]
  cases (l.any fun x => Sy69.fits s x k i 0) <;> cases free s k i 1 <;> cases free s k i 2 <;> rfl
theorem union_no0 (s : Sy69.St) {l : List Nat} (h : l ≠ []) (k i : Nat) : (!(Sy69.union s l k i).contains 0) = l.all fun x => !Sy69.fits s x k i 0 := by
  rw [union_eq s h, ← List.not_any_eq_all_not]
  cases (l.any fun x => Sy69.fits s x k i 0) <;> cases free s k i 1 <;> cases free s k i 2 <;> rfl
theorem union_only0 (s : Sy69.St) {l : List Nat} (h : l ≠ []) (k i : Nat) : (Sy69.union s l k i == [0]) = ((l.any fun x => Sy69.fits s x k i 0) && !(free s k i 1 || free s k i 2)) := by
  rw [union_eq s h]
  cases (l.any fun x => Sy69.fits s x k i 0) <;> cases free s k i 1 <;> cases free s k i 2 <;> rfl
theorem any_or {α : Type} (f : α → Bool) (c : Bool) : ∀ {l : List α}, l ≠ [] → (l.any fun x => f x || c) = (l.any f || c)
  | [], h => (h rfl).elim
  | [x], _ => by rw [List.any_cons, List.any_cons, List.any_nil, List.any_nil, Bool.or_false, Bool.or_false]
  | x :: y :: r, _ => by
    rw [List.any_cons, any_or f c (l := y :: r) (by simp), List.any_cons (l := y :: r)]
    cases f x <;> cases c <;> cases (y :: r).any f <;> rfl
theorem flatMap_same {α β : Type} {f g : α → List β} : ∀ {l : List α}, (∀ z ∈ l, f z = g z) → l.flatMap f = l.flatMap g
  | [], _ => rfl
  | z :: l, h => by rw [List.flatMap_cons, List.flatMap_cons, h z List.mem_cons_self, flatMap_same fun y hy => h y (List.mem_cons_of_mem _ hy)]
/-- what it may show -/
theorem mayShow_eq (s : Sy69.St) {l : List Nat} (h : l ≠ []) (t k i : Nat) (b : Bool) : Sy69.mayShow s l t k i b = ((l.any fun x => Sy69.fits s x k i 0 && (Sy69.should s x t k i == b)) || ((free s k i 1 && !b) || (free s k i 2 && b))) := by
  unfold Sy69.mayShow
  have e : ∀ x, ((Sy69.states s x k i).any fun q => Sy69.shows q (Sy69.should s x t k i) == b) = ((Sy69.fits s x k i 0 && (Sy69.should s x t k i == b)) || ((free s k i 1 && !b) || (free s k i 2 && b))) := fun x => by
    rw [states_eq]
    cases Sy69.fits s x k i 0 <;> cases free s k i 1 <;> cases free s k i 2 <;> cases Sy69.should s x t k i <;> cases b <;> rfl
  rw [any_same (g := fun x => (Sy69.fits s x k i 0 && (Sy69.should s x t k i == b)) || ((free s k i 1 && !b) || (free s k i 2 && b))) fun x _ => e x]
  exact any_or (fun x => Sy69.fits s x k i 0 && (Sy69.should s x t k i == b)) _ h
section
variable {s : Sy69.St} {n : Nat} {S : Sights} (R : Rel s n S)
include R
theorem Rel.work_free {k i : Nat} (hk : k < n) (hi : i < 7) : (workN n S).testBit (7 * (n - 1 - k) + i) = !(free s k i 1 || free s k i 2) := R.work_bit hk hi
/-- two beginnings are not parted for sure: they should show alike what changes -/
theorem Rel.alike_eq {x y t : Nat} (hx : Sy69.may s x = true) (hy : Sy69.may s y = true) : Sy69.alike s x y t = (((shouldN n ((x + t) % 10 ^ n) ^^^ shouldN n ((y + t) % 10 ^ n)) &&& workN n S) == 0) := by
  rw [Bool.eq_iff_iff, beq_iff_eq]
  unfold Sy69.alike
  rw [List.all_eq_true]
  have one : ∀ k i, k < n → i < 7 → ((Sy69.states s x k i).any fun q => (Sy69.states s y k i).any fun r => Sy69.shows q (Sy69.should s x t k i) == Sy69.shows r (Sy69.should s y t k i)) =
      !((shouldN n ((x + t) % 10 ^ n) ^^^ shouldN n ((y + t) % 10 ^ n)).testBit (7 * (n - 1 - k) + i) && (workN n S).testBit (7 * (n - 1 - k) + i)) := by
    intro k i hk hi
    have h1 : (!(Sy69.states s x k i).isEmpty) = true := by
      unfold Sy69.may at hx
      exact List.all_eq_true.mp hx (k, i) (strokes_mem.mpr ⟨by rw [R.dig]; exact hk, hi⟩)
    have h2 : (!(Sy69.states s y k i).isEmpty) = true := by
      unfold Sy69.may at hy
      exact List.all_eq_true.mp hy (k, i) (strokes_mem.mpr ⟨by rw [R.dig]; exact hk, hi⟩)
    rw [Nat.testBit_xor, R.should_bit hk hi, R.should_bit hk hi, R.work_free hk hi]
    rw [states_eq] at h1 h2 ⊢
    rw [states_eq]
    revert h1 h2
    cases Sy69.fits s x k i 0 <;> cases Sy69.fits s y k i 0 <;> cases free s k i 1 <;> cases free s k i 2 <;> cases Sy69.should s x t k i <;> cases Sy69.should s y t k i <;> intro h1 h2 <;> first | rfl | exact absurd h1 (by decide) | exact absurd h2 (by decide)
  constructor
  · intro h
    refine Nat.eq_of_testBit_eq fun b => ?_
    rw [Nat.testBit_and, Nat.zero_testBit]
    by_cases hb : b < 7 * n
    · obtain ⟨k, i, hk, hi, rfl⟩ := bit_place hb
      have := h (k, i) (strokes_mem.mpr ⟨by rw [R.dig]; exact hk, hi⟩)
      rw [one k i hk hi] at this
      cases q : ((shouldN n ((x + t) % 10 ^ n) ^^^ shouldN n ((y + t) % 10 ^ n)).testBit (7 * (n - 1 - k) + i) && (workN n S).testBit (7 * (n - 1 - k) + i)) with
      | true =>
        rw [q] at this
        cases this
      | false => rfl
    · have hc := R.work_lt
      rw [pow128] at hc
      rw [Nat.testBit_lt_two_pow (x := workN n S) (Nat.lt_of_lt_of_le hc (Nat.pow_le_pow_right (by decide) (by omega))), Bool.and_false]
  · intro h p hp
    obtain ⟨h1, h2⟩ := strokes_mem.mp hp
    rw [R.dig] at h1
    rw [one p.1 p.2 h1 h2, ← Nat.testBit_and, h, Nat.zero_testBit]
    rfl
theorem Rel.surely_bit {k i : Nat} (hk : k < n) (hi : i < 7) : (surelyN n S).testBit (7 * (n - 1 - k) + i) = (Sy69.all_ s).all fun x => !Sy69.fits s x k i 0 := by
  unfold surelyN
  rw [R.brN_eq, List.foldl_map]
  show ((Sy69.all_ s).foldl (fun f x => f &&& wrongN x S (picsN n)) (wholeN n)).testBit _ = _
  rw [foldl_and_bit (fun x => wrongN x S (picsN n)), wholeN_bit hk hi, Bool.true_and]
  exact all_same fun x _ => R.wrong_bit x hk hi
theorem Rel.surely_lt : surelyN n S < 128 ^ n := foldl_and_lt (fun p : Nat × Nat => p.2) _ _ _ (wholeN_lt n)
theorem Rel.canLit_bit {t k i : Nat} (hk : k < n) (hi : i < 7) : (canLitN n S t).testBit (7 * (n - 1 - k) + i) = (free s k i 2 || (Sy69.all_ s).any fun x => Sy69.fits s x k i 0 && Sy69.should s x t k i) := by
  unfold canLitN
  rw [R.brN_eq, List.foldl_map]
  show ((Sy69.all_ s).foldl (fun f x => f ||| ((wholeN n ^^^ wrongN x S (picsN n)) &&& showN n x t)) (litN (wholeN n) S)).testBit _ = _
  rw [foldl_or_bit (fun x => (wholeN n ^^^ wrongN x S (picsN n)) &&& showN n x t), R.lit_all_bit hk hi]
  refine congrArg (free s k i 2 || ·) (any_same fun x _ => ?_)
  rw [Nat.testBit_and, Nat.testBit_xor, wholeN_bit hk hi, R.wrong_bit x hk hi]
  unfold showN
  rw [R.should_bit hk hi]
  cases Sy69.fits s x k i 0 <;> cases Sy69.should s x t k i <;> rfl
theorem Rel.canDark_bit {t k i : Nat} (hk : k < n) (hi : i < 7) : (canDarkN n S t).testBit (7 * (n - 1 - k) + i) = (free s k i 1 || (Sy69.all_ s).any fun x => Sy69.fits s x k i 0 && !Sy69.should s x t k i) := by
  unfold canDarkN
  rw [R.brN_eq, List.foldl_map]
  show ((Sy69.all_ s).foldl (fun f x => f ||| ((wholeN n ^^^ wrongN x S (picsN n)) &&& (wholeN n ^^^ showN n x t))) (darkN (wholeN n) S)).testBit _ = _
  rw [foldl_or_bit (fun x => (wholeN n ^^^ wrongN x S (picsN n)) &&& (wholeN n ^^^ showN n x t)), R.dark_all_bit hk hi]
  refine congrArg (free s k i 1 || ·) (any_same fun x _ => ?_)
  rw [Nat.testBit_and, Nat.testBit_xor, Nat.testBit_xor, wholeN_bit hk hi, R.wrong_bit x hk hi]
  unfold showN
  rw [R.should_bit hk hi]
  cases Sy69.fits s x k i 0 <;> cases Sy69.should s x t k i <;> rfl
omit R in
theorem showN_lt (n x t : Nat) : showN n x t < 2 ^ (7 * n) := by
  rw [← pow128]
  exact shouldN_lt n _
omit R in
theorem whole_lt2 (n : Nat) : wholeN n < 2 ^ (7 * n) := by
  rw [← pow128]
  exact wholeN_lt n
theorem Rel.canLit_lt (t : Nat) : canLitN n S t < 128 ^ n := by
  have h1 := R.lit_all_lt
  rw [pow128] at h1 ⊢
  exact foldl_or_lt (fun p : Nat × Nat => (wholeN n ^^^ p.2) &&& showN n p.1 t) _ _ _ h1 fun p _ => Nat.and_lt_two_pow _ (showN_lt n _ t)
theorem Rel.canDark_lt (t : Nat) : canDarkN n S t < 128 ^ n := by
  have h1 := R.dark_all_lt
  rw [pow128] at h1 ⊢
  exact foldl_or_lt (fun p : Nat × Nat => (wholeN n ^^^ p.2) &&& (wholeN n ^^^ showN n p.1 t)) _ _ _ h1 fun p _ => Nat.and_lt_two_pow _ (Nat.xor_lt_two_pow (whole_lt2 n) (showN_lt n _ t))
theorem Rel.none_iff : ((Sy69.all_ s).isEmpty = true) ↔ (brN n S).length = 0 := by
  rw [← R.all_len, List.isEmpty_iff]
  exact List.length_eq_zero_iff.symm
theorem Rel.some_ne (h : ¬ (brN n S).length = 0) : Sy69.all_ s ≠ [] := fun z => h (R.none_iff.mp (List.isEmpty_iff.mpr z))
omit R in
theorem aloneN_eq {n k i : Nat} (h3 : n ≤ 3) (hk : k < n) : aloneN n k i = 2 ^ (7 * (n - 1 - k) + i) := by
  unfold aloneN
  have h : (n = 1 ∧ k = 0) ∨ (n = 2 ∧ (k = 0 ∨ k = 1)) ∨ (n = 3 ∧ (k = 0 ∨ k = 1 ∨ k = 2)) := by omega
  rcases h with ⟨rfl, rfl⟩ | ⟨rfl, rfl | rfl⟩ | ⟨rfl, rfl | rfl | rfl⟩
  · show 0 * 128 + 2 ^ i = _
    rw [Nat.pow_add]
    omega
  · show (0 * 128 + 2 ^ i) * 128 + 0 = 2 ^ (7 + i)
    rw [Nat.pow_add]
    omega
  · show (0 * 128 + 0) * 128 + 2 ^ i = 2 ^ (0 + i)
    rw [Nat.pow_add]
    omega
  · show ((0 * 128 + 2 ^ i) * 128 + 0) * 128 + 0 = 2 ^ (14 + i)
    rw [Nat.pow_add]
    omega
  · show ((0 * 128 + 0) * 128 + 2 ^ i) * 128 + 0 = 2 ^ (7 + i)
    rw [Nat.pow_add]
    omega
  · show ((0 * 128 + 0) * 128 + 0) * 128 + 2 ^ i = 2 ^ (0 + i)
    rw [Nat.pow_add]
    omega
omit R in
theorem and_one_bit (a b : Nat) : a &&& 2 ^ b = 0 ↔ a.testBit b = false := by
  constructor
  · intro h
    have e : (a &&& 2 ^ b).testBit b = a.testBit b := by rw [Nat.testBit_and, Nat.testBit_two_pow_self, Bool.and_true]
    rw [← e, h, Nat.zero_testBit]
  · intro h
    refine Nat.eq_of_testBit_eq fun j => ?_
    rw [Nat.testBit_and, Nat.zero_testBit]
    by_cases c : b = j
    · subst c
      rw [h, Bool.false_and]
    · rw [Nat.testBit_two_pow_of_ne c, Bool.and_false]
/-- the states of one stroke -/
theorem Rel.states_one {k i : Nat} (hk : k < n) (hi : i < 7) (h : ¬ (brN n S).length = 0) : statesN n S (aloneN n k i) = Sy69.union s (Sy69.all_ s) k i := by
  unfold statesN
  rw [aloneN_eq R.ok.2 hk, union_eq s (R.some_ne h)]
  simp only [and_one_bit, R.surely_bit hk hi, R.dark_all_bit hk hi, R.lit_all_bit hk hi]
  rw [← List.not_any_eq_all_not]
  show _ = _ ++ ((if Sy69.fits s 0 k i 1 = true then [1] else []) ++ (if Sy69.fits s 0 k i 2 = true then [2] else []))
  cases (Sy69.all_ s).any fun x => Sy69.fits s x k i 0 <;> cases Sy69.fits s 0 k i 1 <;> cases Sy69.fits s 0 k i 2 <;> rfl
theorem Rel.stroke (k i : Nat) : Step s (.stroke k i) (n, S, strokeN n S k i) := by
  refine ⟨R, ?_⟩
  unfold strokeN Sy69.step
  rw [R.dig]
  by_cases c : n ≤ k ∨ 7 ≤ i
  · have c' : n ≤ k ∨ 6 < i := by omega
    simp only [if_pos c, if_pos c']
    rfl
  · have c' : ¬ (n ≤ k ∨ 6 < i) := by omega
    simp only [if_neg c, if_neg c']
    by_cases c2 : (brN n S).length = 0
    · simp only [if_pos c2, if_pos (R.none_iff.mpr c2)]
      rfl
    · simp only [if_neg c2, if_neg (fun z => c2 (R.none_iff.mp z))]
      rw [R.states_one (by omega) (by omega) c2]
      rfl
theorem Rel.sure : Step s .sure (n, S, sureN n S) := by
  refine ⟨R, ?_⟩
  unfold sureN Sy69.step
  by_cases c2 : (brN n S).length = 0
  · simp only [if_pos c2, if_pos (R.none_iff.mpr c2)]
    rfl
  · simp only [if_neg c2, if_neg (fun z => c2 (R.none_iff.mp z))]
    have ne := R.some_ne c2
    have h1 := count_of s (fun p => !(Sy69.union s (Sy69.all_ s) p.1 p.2).contains 0) (surelyN n S) (by rw [R.dig]; exact R.surely_lt) fun k i hk hi => by
      rw [R.dig] at hk ⊢
      rw [R.surely_bit hk hi]
      exact union_no0 s ne k i
    have h2 := masks_of s (fun k i => !(Sy69.union s (Sy69.all_ s) k i).contains 0) (surelyN n S) (by rw [R.dig]; exact R.surely_lt) fun k i hk hi => by
      rw [R.dig] at hk ⊢
      rw [R.surely_bit hk hi]
      exact union_no0 s ne k i
    have h3 := masks_of s (fun k i => Sy69.union s (Sy69.all_ s) k i == [0]) (workN n S) (by rw [R.dig]; exact R.work_lt) fun k i hk hi => by
      rw [R.dig] at hk ⊢
      rw [R.work_free hk hi, union_only0 s ne k i]
      -- a stroke that changes works in each
      cases f1 : (free s k i 1 || free s k i 2) with
      | true => rw [Bool.not_true, Bool.and_false]
      | false =>
        rw [Bool.not_false, Bool.and_true, List.any_eq_true]
        obtain ⟨x, hx⟩ := List.exists_mem_of_ne_nil _ ne
        refine ⟨x, hx, ?_⟩
        have hm := (List.mem_filter.mp hx).2
        unfold Sy69.may at hm
        have := List.all_eq_true.mp hm (k, i) (strokes_mem.mpr ⟨by rw [R.dig]; exact hk, hi⟩)
        rw [states_eq] at this
        rw [Bool.or_eq_false_iff] at f1
        rw [f1.1, f1.2] at this
        cases q : Sy69.fits s x k i 0 with
        | true => rfl
        | false =>
          rw [q] at this
          exact absurd this (by decide)
    show ((List.length _ : Nat) : Int) :: toldN [_, _] = _
    rw [h1, h2, h3, R.dig]
theorem Rel.next (d : Nat) : Step s (.next d) (n, S, nextN n S d) := by
  refine ⟨R, ?_⟩
  unfold nextN Sy69.step
  by_cases c : 10000 < d
  · simp only [if_pos c, if_pos (show Sy69.DAYS < d from c)]
    rfl
  · simp only [if_neg c, if_neg (show ¬ Sy69.DAYS < d from c)]
    by_cases c2 : (brN n S).length = 0
    · simp only [if_pos c2, if_pos (R.none_iff.mpr c2)]
      rfl
    · simp only [if_neg c2, if_neg (fun z => c2 (R.none_iff.mp z))]
      have ne := R.some_ne c2
      rw [now_eq R]
      generalize nowN S + d = t
      have hl := R.canLit_lt t
      have hd := R.canDark_lt t
      have bl : ∀ k i, k < n → i < 7 → (canLitN n S t).testBit (7 * (n - 1 - k) + i) = Sy69.mayShow s (Sy69.all_ s) t k i true := fun k i hk hi => by
        rw [R.canLit_bit hk hi, mayShow_eq s ne, any_same (f := fun x => Sy69.fits s x k i 0 && (Sy69.should s x t k i == true)) (g := fun x => Sy69.fits s x k i 0 && Sy69.should s x t k i) fun x _ => by cases Sy69.should s x t k i <;> rfl]
        cases free s k i 1 <;> cases free s k i 2 <;> cases (Sy69.all_ s).any fun x => Sy69.fits s x k i 0 && Sy69.should s x t k i <;> rfl
      have bd : ∀ k i, k < n → i < 7 → (canDarkN n S t).testBit (7 * (n - 1 - k) + i) = Sy69.mayShow s (Sy69.all_ s) t k i false := fun k i hk hi => by
        rw [R.canDark_bit hk hi, mayShow_eq s ne, any_same (f := fun x => Sy69.fits s x k i 0 && (Sy69.should s x t k i == false)) (g := fun x => Sy69.fits s x k i 0 && !Sy69.should s x t k i) fun x _ => by cases Sy69.should s x t k i <;> rfl]
        cases free s k i 1 <;> cases free s k i 2 <;> cases (Sy69.all_ s).any fun x => Sy69.fits s x k i 0 && !Sy69.should s x t k i <;> rfl
      -- either of them, for sure
      have some_ : ∀ k i, Sy69.mayShow s (Sy69.all_ s) t k i true = true ∨ Sy69.mayShow s (Sy69.all_ s) t k i false = true ∨ ¬ (k < n ∧ i < 7) := fun k i => by
        by_cases hki : k < n ∧ i < 7
        · obtain ⟨x, hx⟩ := List.exists_mem_of_ne_nil _ ne
          have hm := (List.mem_filter.mp hx).2
          unfold Sy69.may at hm
          have := List.all_eq_true.mp hm (k, i) (strokes_mem.mpr ⟨by rw [R.dig]; exact hki.1, hki.2⟩)
          cases hst : Sy69.states s x k i with
          | nil =>
            rw [hst] at this
            exact absurd this (by decide)
          | cons q r =>
            cases hq : Sy69.shows q (Sy69.should s x t k i) with
            | true =>
              refine .inl ?_
              unfold Sy69.mayShow
              refine List.any_eq_true.mpr ⟨x, hx, List.any_eq_true.mpr ⟨q, by rw [hst]; exact List.mem_cons_self, ?_⟩⟩
              rw [hq]
              rfl
            | false =>
              refine .inr (.inl ?_)
              unfold Sy69.mayShow
              refine List.any_eq_true.mpr ⟨x, hx, List.any_eq_true.mpr ⟨q, by rw [hst]; exact List.mem_cons_self, ?_⟩⟩
              rw [hq]
              rfl
        · exact .inr (.inr hki)
      generalize canLitN n S t = L at hl bl ⊢
      generalize canDarkN n S t = D at hd bd ⊢
      have hl2 := hl
      have hd2 := hd
      rw [pow128] at hl2 hd2
      have he : L &&& D < 2 ^ (7 * n) := Nat.and_lt_two_pow _ hd2
      have h1 := count_of s (fun p => Sy69.mayShow s (Sy69.all_ s) t p.1 p.2 true && Sy69.mayShow s (Sy69.all_ s) t p.1 p.2 false) (L &&& D) (by rw [R.dig, pow128]; exact he) fun k i hk hi => by
        rw [R.dig] at hk ⊢
        rw [Nat.testBit_and, bl k i hk hi, bd k i hk hi]
      have h2 := masks_of s (fun k i => !Sy69.mayShow s (Sy69.all_ s) t k i false) (L ^^^ (L &&& D)) (by rw [R.dig, pow128]; exact Nat.xor_lt_two_pow hl2 he) fun k i hk hi => by
        rw [R.dig] at hk ⊢
        rw [Nat.testBit_xor, Nat.testBit_and, bl k i hk hi, bd k i hk hi]
        rcases some_ k i with z | z | z
        · rw [z]
          cases Sy69.mayShow s (Sy69.all_ s) t k i false <;> rfl
        · rw [z]
          cases Sy69.mayShow s (Sy69.all_ s) t k i true <;> rfl
        · exact absurd ⟨hk, hi⟩ z
      have h3 := masks_of s (fun k i => !Sy69.mayShow s (Sy69.all_ s) t k i true) (D ^^^ (L &&& D)) (by rw [R.dig, pow128]; exact Nat.xor_lt_two_pow hd2 he) fun k i hk hi => by
        rw [R.dig] at hk ⊢
        rw [Nat.testBit_xor, Nat.testBit_and, bl k i hk hi, bd k i hk hi]
        rcases some_ k i with z | z | z
        · rw [z]
          cases Sy69.mayShow s (Sy69.all_ s) t k i false <;> rfl
        · rw [z]
          cases Sy69.mayShow s (Sy69.all_ s) t k i true <;> rfl
        · exact absurd ⟨hk, hi⟩ z
      show ((List.length _ : Nat) : Int) :: toldN [_, _] = _
      rw [h1, h2, h3, R.dig]
theorem Rel.isIn_eq {x : Nat} (hx : x < 10 ^ n) : isIn n S x = Sy69.may s x := by
  unfold isIn
  rw [R.brN_eq]
  cases hm : Sy69.may s x with
  | true =>
    rw [List.find?_isSome]
    refine ⟨(x, wrongN x S (picsN n)), List.mem_map.mpr ⟨x, List.mem_filter.mpr ⟨List.mem_range.mpr ?_, hm⟩, rfl⟩, decide_eq_true rfl⟩
    rw [R.size]
    exact hx
  | false =>
    rw [Option.isSome_eq_false_iff, Option.isNone_iff_eq_none, List.find?_eq_none]
    intro p hp hd
    obtain ⟨y, hy, rfl⟩ := List.mem_map.mp hp
    have e : y = x := of_decide_eq_true hd
    subst e
    rw [(List.mem_filter.mp hy).2] at hm
    exact Bool.noConfusion hm
theorem Rel.apart (x y d : Nat) : Step s (.apart x y d) (n, S, apartN n S x y d) := by
  refine ⟨R, ?_⟩
  unfold apartN Sy69.step
  simp only [R.size]
  by_cases c : 10 ^ n ≤ x ∨ 10 ^ n ≤ y
  · simp only [if_pos c]
    rfl
  · simp only [if_neg c]
    by_cases c2 : 10000 < d ∨ x = y
    · simp only [if_pos c2, if_pos (show Sy69.DAYS < d ∨ x = y from c2)]
      rfl
    · simp only [if_neg c2, if_neg (show ¬ (Sy69.DAYS < d ∨ x = y) from c2)]
      rw [R.isIn_eq (x := x) (by omega), R.isIn_eq (x := y) (by omega)]
      by_cases c3 : Sy69.may s x = false ∨ Sy69.may s y = false
      · simp only [if_pos c3]
        rfl
      · simp only [if_neg c3]
        have hx : Sy69.may s x = true := by
          cases h : Sy69.may s x with
          | true => rfl
          | false => exact absurd (.inl h) c3
        have hy : Sy69.may s y = true := by
          cases h : Sy69.may s y with
          | true => rfl
          | false => exact absurd (.inr h) c3
        rw [R.alike_eq hx hy, now_eq R]
        unfold apartB showN
        by_cases c4 : (shouldN n ((x + (nowN S + d)) % 10 ^ n) ^^^ shouldN n ((y + (nowN S + d)) % 10 ^ n)) &&& workN n S = 0
        · rw [decide_eq_true c4, c4]
          rfl
        · rw [decide_eq_false c4, if_neg (by rw [beq_iff_eq]; exact c4)]
          rfl
/-- shown: what should be lit then -/
theorem Rel.shown (x d : Nat) : Step s (.shown x d) (n, S, shownN n S x d) := by
  refine ⟨R, ?_⟩
  unfold shownN Sy69.step
  simp only [R.size]
  by_cases c : 10 ^ n ≤ x
  · simp only [if_pos c]
    rfl
  · simp only [if_neg c]
    by_cases c2 : 10000 < d
    · simp only [if_pos c2, if_pos (show Sy69.DAYS < d from c2)]
      rfl
    · simp only [if_neg c2, if_neg (show ¬ Sy69.DAYS < d from c2)]
      have hm := masks_of s (fun k i => Sy69.should s x (Sy69.now s + d) k i) (shouldN n ((x + (nowN S + d)) % 10 ^ n)) (by rw [R.dig]; exact shouldN_lt _ _) fun k i hk hi => by
        rw [R.dig] at hk ⊢
        rw [R.should_bit hk hi, now_eq R]
      show ((Sy69.at_ s x (Sy69.now s + d) : Nat) : Int) :: toldN [Sy69.masks s _] = _
      rw [hm, R.dig]
      unfold Sy69.at_
      rw [R.size, now_eq R]
/-- state: the sights' strokes place by place -/
theorem Rel.state : Step s .state (n, S, stateN n S) := by
  refine ⟨R, ?_⟩
  unfold stateN
  show (Sy69.now s : Int) :: toldN [[(s.digits : Int)], Sy69.ints _] = _
  rw [now_eq R, R.dig]
  have e : (s.sights.flatMap fun z => z.time :: z.lit) = S.flatMap fun z => z.1 :: unpackN n z.2 := by
    rw [R.sig, List.flatMap_map]
    refine flatMap_same fun z hz => ?_
    obtain ⟨h1, h2⟩ := R.wf z hz
    show z.time :: z.lit = z.time :: unpackN n (packN z.lit)
    rw [← h1, unpackN_pack _ h2]
  rw [e]
  rfl
end
end Bs
set_option linter.all false
namespace Bs
/-- what a call does to the mirror -/
def stepN (n : Nat) (S : Sights) : Sy69.Call → Nat × Sights × List Int
  | .begins d => beginsN n S d
  | .sees d l => seesN n S d l
  | .undo => undoN n S
  | .may k => (n, S, mayN n S k)
  | .likely k => (n, S, likelyN n S k)
  | .guess x => (n, S, guessN n S x)
  | .stroke k i => (n, S, strokeN n S k i)
  | .sure => (n, S, sureN n S)
  | .next d => (n, S, nextN n S d)
  | .apart x y d => (n, S, apartN n S x y d)
  | .shown x d => (n, S, shownN n S x d)
  | .state => (n, S, stateN n S)
theorem Rel.stepN {s : Sy69.St} {n : Nat} {S : Sights} (R : Rel s n S) (few : S.length ≤ 8) : ∀ (c : Sy69.Call), Step s c (stepN n S c)
  | .begins d => R.begins d
  | .sees d l => R.sees few d l
  | .undo => R.undo
  | .may k => R.may k
  | .likely k => R.likely k
  | .guess x => R.guess x
  | .stroke k i => R.stroke k i
  | .sure => R.sure
  | .next d => R.next d
  | .apart x y d => R.apart x y d
  | .shown x d => R.shown x d
  | .state => R.state
theorem enc_cons (c : Sy69.Call) : ∃ p r, enc c = p :: r := by cases c <;> exact ⟨_, _, rfl⟩
theorem enc_pos (c : Sy69.Call) : 0 < (enc c).length := by
  obtain ⟨p, r, e⟩ := enc_cons c
  rw [e]
  exact Nat.succ_pos _
/-- where the i-th call begins -/
def startN (ds : List Sy69.Call) (i : Nat) : Nat := ((ds.take i).flatMap enc).length
theorem startN_next {ds : List Sy69.Call} {i : Nat} {c : Sy69.Call} (h : ds[i]? = some c) : startN ds (i + 1) = startN ds i + (enc c).length := by
  unfold startN
  rw [take_more h, List.flatMap_append, List.length_append, List.flatMap_cons, List.flatMap_nil, List.append_nil]
theorem startN_drop {ds : List Sy69.Call} {i : Nat} {c : Sy69.Call} (h : ds[i]? = some c) : (ds.flatMap enc).drop (startN ds i) = enc c ++ (ds.drop (i + 1)).flatMap enc := by
  have e : ds = ds.take i ++ (c :: ds.drop (i + 1)) := by
    have h2 := (List.getElem?_eq_some_iff.mp h)
    obtain ⟨h3, rfl⟩ := h2
    rw [← List.drop_eq_getElem_cons h3, List.take_append_drop]
  unfold startN
  have e2 : ds.flatMap enc = (ds.take i).flatMap enc ++ (enc c ++ (ds.drop (i + 1)).flatMap enc) := by
    have := congrArg (List.flatMap enc) e
    rw [List.flatMap_append, List.flatMap_cons] at this
    exact this
  rw [e2, List.drop_left]
theorem startN_all (ds : List Sy69.Call) : startN ds ds.length = (ds.flatMap enc).length := by
  unfold startN
  rw [List.take_length]
end Bs
set_option Elab.async false
set_option linter.all false
set_option maxRecDepth 100000
set_option maxHeartbeats 4000000
namespace Bs
open PySem PySem.Spec PyProof.Rows L2
theorem drop_get {l r : List Int} {s j : Nat} {e : List Int} {z : Int} (h : l.drop s = e ++ r) (hj : e[j]? = some z) : l[s + j]? = some z := by
  have h1 : (l.drop s)[j]? = some z := by
    rw [h, List.getElem?_append_left (List.getElem?_eq_some_iff.mp hj).1]
    exact hj
  rw [List.getElem?_drop] at h1
  exact h1
theorem cut_rest {l r e : List Int} {s : Nat} {p : Int} (h : l.drop s = (p :: e) ++ r) : (l.drop (s + 1)).take e.length = e := by
  rw [← List.drop_drop, h]
  show ((e ++ r)).take e.length = e
  exact List.take_left
section
variable {P : Program} {w : World} {K : PySem.W.Frag} {mg : Str → Option Value} {base : Heap}
/-! end_of_call -/
def sp_end_of_call (K : PySem.W.Frag) : Sp := fun vs H Q _ => ∃ (a : Addr) (l r : List Int) (s : Nat) (c : Sy69.Call), vs = [.ref a, nV s] ∧ SqL K H a (l.map V.int) ∧ l.drop s = enc c ++ r ∧ Q (nV (s + (enc c).length)) H
theorem ok_end_of_call (T : Txt K mg) : FnOk P w K mg base CX0 1 T.f_end_of_call T.fd_end_of_call P_end_of_call (sp_end_of_call K) := by
  refine T.F_end_of_call.ok sc_end_of_call (fun vs H Q E h => ?_) (fun cdv A outer s H vs Q E hr h => ⟨_, (pss_cons (ps_set (i := 2) sc_end_of_call.nd rfl (Or.inl rfl) (pe_ix ix_list (pv 0) (pv 1) (fun _ _ => rfl)))
        (pss_cons (ps_set (i := 3) sc_end_of_call.nd rfl (Or.inl rfl) (pe_op op_add (pe_op op_add (pv 1) pe_int) (pe_ix ix_tup (pe_gtup rfl T.c_HANDED_NUMBERS) (pv 2) (fun _ _ => rfl))))
        (pss_cons (ps_if (pt_cmpR op_eq (pv 2) (pe_gint rfl T.c_SEES) (nomark _)) (pss_one (ps_set (i := 3) sc_end_of_call.nd rfl (Or.inl rfl) (pe_op op_add (pe_op op_add (pv 3) pe_int) (pe_ix ix_list (pv 0) (pv 3) (fun _ _ => rfl))))) pss_nil)
        (pss_one (ps_ret (pv 3)))))), ?_⟩)
  · obtain ⟨a, l, r, s, c, rfl, _⟩ := h
    rfl
  · obtain ⟨a, l, r, s, c, rfl, ha, hd, q⟩ := h
    obtain ⟨p, e, he⟩ := enc_cons c
    have hp : l[s + 0]? = some p := drop_get hd (by rw [he]; rfl)
    refine ⟨_, rfl, _, rfl, a, _, _, .int p, rfl, rfl, ha, at_of (j := s) rfl (map_get (by rw [← hp]; rfl)), ?_⟩
    cases c with
    | sees d lit =>
      cases he
      have hlen : l[s + 2]? = some (lit.length : Int) := drop_get hd rfl
      refine ⟨_, rfl, _, _, rfl, rfl, _, rfl, T.a_HANDED_NUMBERS, _, _, nV 1, rfl, rfl, T.q_HANDED_NUMBERS _, at_of (j := 1) rfl rfl, _, _, rfl, rfl, ?_⟩
      refine ⟨_, rfl, rfl, _, rfl, ?_⟩
      refine ⟨_, rfl, _, _, rfl, rfl, _, rfl, _, rfl, a, _, _, nV lit.length, rfl, rfl, ha, at_of (j := s + 2) ?_ (map_get hlen), _, _, rfl, rfl, ?_⟩
      · show (s : Int) + 1 + 1 = _
        omega
      refine ⟨_, rfl, ?_⟩
      have e2 : (s : Int) + 1 + 1 + 1 + (lit.length : Int) = ((s + (enc (.sees d lit)).length : Nat) : Int) := by
        show _ = ((s + ((iL lit).length + 1 + 1 + 1) : Nat) : Int)
        unfold iL
        rw [List.length_map]
        omega
      show Q (.int ((s : Int) + 1 + 1 + 1 + (lit.length : Int))) H
      rw [e2]
      exact q
    | begins d =>
      cases he
      refine ⟨_, rfl, _, _, rfl, rfl, _, rfl, T.a_HANDED_NUMBERS, _, _, nV 1, rfl, rfl, T.q_HANDED_NUMBERS _, at_of (j := 0) rfl rfl, _, _, rfl, rfl, ?_⟩
      refine ⟨_, rfl, rfl, _, rfl, ?_⟩
      exact ⟨_, rfl, q⟩
    | undo =>
      cases he
      refine ⟨_, rfl, _, _, rfl, rfl, _, rfl, T.a_HANDED_NUMBERS, _, _, nV 0, rfl, rfl, T.q_HANDED_NUMBERS _, at_of (j := 2) rfl rfl, _, _, rfl, rfl, ?_⟩
      refine ⟨_, rfl, rfl, _, rfl, ?_⟩
      exact ⟨_, rfl, q⟩
    | may k =>
      cases he
      refine ⟨_, rfl, _, _, rfl, rfl, _, rfl, T.a_HANDED_NUMBERS, _, _, nV 1, rfl, rfl, T.q_HANDED_NUMBERS _, at_of (j := 3) rfl rfl, _, _, rfl, rfl, ?_⟩
      refine ⟨_, rfl, rfl, _, rfl, ?_⟩
      exact ⟨_, rfl, q⟩
    | likely k =>
      cases he
      refine ⟨_, rfl, _, _, rfl, rfl, _, rfl, T.a_HANDED_NUMBERS, _, _, nV 1, rfl, rfl, T.q_HANDED_NUMBERS _, at_of (j := 4) rfl rfl, _, _, rfl, rfl, ?_⟩
      refine ⟨_, rfl, rfl, _, rfl, ?_⟩
      exact ⟨_, rfl, q⟩
    | guess k =>
      cases he
      refine ⟨_, rfl, _, _, rfl, rfl, _, rfl, T.a_HANDED_NUMBERS, _, _, nV 1, rfl, rfl, T.q_HANDED_NUMBERS _, at_of (j := 5) rfl rfl, _, _, rfl, rfl, ?_⟩
      refine ⟨_, rfl, rfl, _, rfl, ?_⟩
      exact ⟨_, rfl, q⟩
    | stroke k i =>
      cases he
      refine ⟨_, rfl, _, _, rfl, rfl, _, rfl, T.a_HANDED_NUMBERS, _, _, nV 2, rfl, rfl, T.q_HANDED_NUMBERS _, at_of (j := 6) rfl rfl, _, _, rfl, rfl, ?_⟩
      refine ⟨_, rfl, rfl, _, rfl, ?_⟩
      exact ⟨_, rfl, q⟩
    | sure =>
      cases he
      refine ⟨_, rfl, _, _, rfl, rfl, _, rfl, T.a_HANDED_NUMBERS, _, _, nV 0, rfl, rfl, T.q_HANDED_NUMBERS _, at_of (j := 7) rfl rfl, _, _, rfl, rfl, ?_⟩
      refine ⟨_, rfl, rfl, _, rfl, ?_⟩
      exact ⟨_, rfl, q⟩
    | next d =>
      cases he
      refine ⟨_, rfl, _, _, rfl, rfl, _, rfl, T.a_HANDED_NUMBERS, _, _, nV 1, rfl, rfl, T.q_HANDED_NUMBERS _, at_of (j := 8) rfl rfl, _, _, rfl, rfl, ?_⟩
      refine ⟨_, rfl, rfl, _, rfl, ?_⟩
      exact ⟨_, rfl, q⟩
    | apart x y d =>
      cases he
      refine ⟨_, rfl, _, _, rfl, rfl, _, rfl, T.a_HANDED_NUMBERS, _, _, nV 3, rfl, rfl, T.q_HANDED_NUMBERS _, at_of (j := 9) rfl rfl, _, _, rfl, rfl, ?_⟩
      refine ⟨_, rfl, rfl, _, rfl, ?_⟩
      exact ⟨_, rfl, q⟩
    | shown x d =>
      cases he
      refine ⟨_, rfl, _, _, rfl, rfl, _, rfl, T.a_HANDED_NUMBERS, _, _, nV 2, rfl, rfl, T.q_HANDED_NUMBERS _, at_of (j := 10) rfl rfl, _, _, rfl, rfl, ?_⟩
      refine ⟨_, rfl, rfl, _, rfl, ?_⟩
      exact ⟨_, rfl, q⟩
    | state =>
      cases he
      refine ⟨_, rfl, _, _, rfl, rfl, _, rfl, T.a_HANDED_NUMBERS, _, _, nV 0, rfl, rfl, T.q_HANDED_NUMBERS _, at_of (j := 11) rfl rfl, _, _, rfl, rfl, ?_⟩
      refine ⟨_, rfl, rfl, _, rfl, ?_⟩
      exact ⟨_, rfl, q⟩
/-! answer_to -/
def sp_answer_to (K : PySem.W.Frag) (C : Addr × Addr) : Sp := fun vs H Q _ => ∃ (a pa sa n : _) (S : Sights) (c : Sy69.Call) (p : Int) (e : List Int) (h : Addr), vs = [.ref a, .int p, .ref h] ∧ AtC C H a pa sa n S ∧ enc c = p :: e ∧ SqL K H h (e.map V.int) ∧ After C H a pa sa (stepN n S c) Q
theorem ok_answer_to (T : Txt K mg) : FnOk P w K mg base CX0 9 T.f_answer_to T.fd_answer_to P_answer_to (sp_answer_to K T.cc) := by
  have G_m_begins := ok_m_begins (P := P) (w := w) (base := base) T
  have G_m_sees := ok_m_sees (P := P) (w := w) (base := base) T
  have G_m_undo := ok_m_undo (P := P) (w := w) (base := base) T
  have G_m_may := ok_m_may (P := P) (w := w) (base := base) T
  have G_m_likely := ok_m_likely (P := P) (w := w) (base := base) T
  have G_m_guess := ok_m_guess (P := P) (w := w) (base := base) T
  have G_m_states_of := ok_m_states_of (P := P) (w := w) (base := base) T
  have G_m_sure := ok_m_sure (P := P) (w := w) (base := base) T
  have G_m_will_show := ok_m_will_show (P := P) (w := w) (base := base) T
  have G_m_apart := ok_m_apart (P := P) (w := w) (base := base) T
  have G_m_shown := ok_m_shown (P := P) (w := w) (base := base) T
  have G_m_state := ok_m_state (P := P) (w := w) (base := base) T
  refine T.F_answer_to.ok sc_answer_to (fun vs H Q E h => ?_) (fun cdv A outer s H vs Q E hr h => ⟨_, (pss_cons (ps_if (pt_cmpR op_eq (pv 1) (pe_gint rfl T.c_BEGINS) (nomark _)) (pss_one (ps_ret (pe_meth (pv 0) T.cl T.mt_m_begins G_m_begins (hr.mono (by decide)) T.bn_m_begins .nil pass0 (pa_cons (pe_ix ix_list (pv 2) pe_int (fun _ _ => rfl)) pa_nil)))) pss_nil)
        (pss_cons (ps_if (pt_cmpR op_eq (pv 1) (pe_gint rfl T.c_SEES) (nomark _)) (pss_one (ps_ret (pe_meth (pv 0) T.cl T.mt_m_sees G_m_sees (hr.mono (by decide)) T.bn_m_sees .nil pass0 (pa_cons (pe_ix ix_list (pv 2) pe_int (fun _ _ => rfl)) (pa_cons (pe_slice sl_list (pv 2) (po_some pe_int) po_none) pa_nil))))) pss_nil)
        (pss_cons (ps_if (pt_cmpR op_eq (pv 1) (pe_gint rfl T.c_UNDO) (nomark _)) (pss_one (ps_ret (pe_meth0 (pv 0) T.cl T.mt_m_undo G_m_undo (hr.mono (by decide)) T.bn_m_undo .nil pass0))) pss_nil)
        (pss_cons (ps_if (pt_cmpR op_eq (pv 1) (pe_gint rfl T.c_MAY) (nomark _)) (pss_one (ps_ret (pe_meth (pv 0) T.cl T.mt_m_may G_m_may (hr.mono (by decide)) T.bn_m_may .nil pass0 (pa_cons (pe_ix ix_list (pv 2) pe_int (fun _ _ => rfl)) pa_nil)))) pss_nil)
        (pss_cons (ps_if (pt_cmpR op_eq (pv 1) (pe_gint rfl T.c_LIKELY) (nomark _)) (pss_one (ps_ret (pe_meth (pv 0) T.cl T.mt_m_likely G_m_likely (hr.mono (by decide)) T.bn_m_likely .nil pass0 (pa_cons (pe_ix ix_list (pv 2) pe_int (fun _ _ => rfl)) pa_nil)))) pss_nil)
        (pss_cons (ps_if (pt_cmpR op_eq (pv 1) (pe_gint rfl T.c_GUESS) (nomark _)) (pss_one (ps_ret (pe_meth (pv 0) T.cl T.mt_m_guess G_m_guess (hr.mono (by decide)) T.bn_m_guess .nil pass0 (pa_cons (pe_ix ix_list (pv 2) pe_int (fun _ _ => rfl)) pa_nil)))) pss_nil)
        (pss_cons (ps_if (pt_cmpR op_eq (pv 1) (pe_gint rfl T.c_STROKE) (nomark _)) (pss_one (ps_ret (pe_meth (pv 0) T.cl T.mt_m_states_of G_m_states_of (hr.mono (by decide)) T.bn_m_states_of .nil pass0 (pa_cons (pe_ix ix_list (pv 2) pe_int (fun _ _ => rfl)) (pa_cons (pe_ix ix_list (pv 2) pe_int (fun _ _ => rfl)) pa_nil))))) pss_nil)
        (pss_cons (ps_if (pt_cmpR op_eq (pv 1) (pe_gint rfl T.c_SURE) (nomark _)) (pss_one (ps_ret (pe_meth0 (pv 0) T.cl T.mt_m_sure G_m_sure (hr.mono (by decide)) T.bn_m_sure .nil pass0))) pss_nil)
        (pss_cons (ps_if (pt_cmpR op_eq (pv 1) (pe_gint rfl T.c_NEXT) (nomark _)) (pss_one (ps_ret (pe_meth (pv 0) T.cl T.mt_m_will_show G_m_will_show (hr.mono (by decide)) T.bn_m_will_show .nil pass0 (pa_cons (pe_ix ix_list (pv 2) pe_int (fun _ _ => rfl)) pa_nil)))) pss_nil)
        (pss_cons (ps_if (pt_cmpR op_eq (pv 1) (pe_gint rfl T.c_APART) (nomark _)) (pss_one (ps_ret (pe_meth (pv 0) T.cl T.mt_m_apart G_m_apart (hr.mono (by decide)) T.bn_m_apart .nil pass0 (pa_cons (pe_ix ix_list (pv 2) pe_int (fun _ _ => rfl)) (pa_cons (pe_ix ix_list (pv 2) pe_int (fun _ _ => rfl)) (pa_cons (pe_ix ix_list (pv 2) pe_int (fun _ _ => rfl)) pa_nil)))))) pss_nil)
        (pss_cons (ps_if (pt_cmpR op_eq (pv 1) (pe_gint rfl T.c_SHOWN) (nomark _)) (pss_one (ps_ret (pe_meth (pv 0) T.cl T.mt_m_shown G_m_shown (hr.mono (by decide)) T.bn_m_shown .nil pass0 (pa_cons (pe_ix ix_list (pv 2) pe_int (fun _ _ => rfl)) (pa_cons (pe_ix ix_list (pv 2) pe_int (fun _ _ => rfl)) pa_nil))))) pss_nil)
        (pss_one (ps_ret (pe_meth0 (pv 0) T.cl T.mt_m_state G_m_state (hr.mono (by decide)) T.bn_m_state .nil pass0)))))))))))))), ?_⟩)
  · obtain ⟨a, pa, sa, n, S, c, p, e, h, rfl, _⟩ := h
    rfl
  · obtain ⟨a, pa, sa, n, S, c, p, e, h, rfl, hC, he, hh, q⟩ := h
    obtain ⟨ok, few, dx, xa, ts, e1, _⟩ := id hC
    cases c with
    | begins d =>
      cases he
      refine ⟨_, rfl, rfl, _, rfl, ?_⟩
      exact ⟨_, rfl, a, dx, _, rfl, e1, oF_no, _, rfl, h, _, _, nV d, rfl, rfl, hh, at_of (j := 0) rfl rfl, a, pa, sa, n, S, d, rfl, hC, q⟩
    | sees d lit =>
      cases he
      refine ⟨_, rfl, rfl, _, rfl, ?_⟩
      refine ⟨_, rfl, rfl, _, rfl, ?_⟩
      refine ⟨_, rfl, a, dx, _, rfl, e1, oF_no, _, rfl, h, _, _, nV d, rfl, rfl, hh, at_of (j := 0) rfl rfl, ?_⟩
      refine ⟨_, rfl, (2 : Int), rfl, h, _, rfl, hh, fun b hb => ?_⟩
      have eb : cutV (((d : Int) :: (lit.length : Int) :: iL lit).map V.int) (some 2) none = lit.map nV := by
        unfold cutV
        rw [show (2 : Int) = ((2 : Nat) : Int) from rfl, HT.sIx_nat]
        show List.take _ (List.drop (min 2 _) (V.int d :: V.int lit.length :: (iL lit).map V.int)) = _
        rw [Nat.min_eq_left (by show 2 ≤ (_ + 1 + 1); omega)]
        show List.take _ ((iL lit).map V.int) = _
        rw [List.take_of_length_le, show (iL lit).map V.int = lit.map nV from ints_map lit]
        show ((iL lit).map V.int).length ≤ ((((iL lit).map V.int).length + 1 + 1) - 2)
        omega
      rw [eb]
      have sm : Same H (upd H b (.lst (lit.map nV))) := Same.new hb
      refine ⟨a, pa, sa, n, S, d, b, lit, rfl, hC.same sm, SqL.of upd_same, ?_⟩
      intro H' pa' sa' z h1 h2 h3 h4 h5 h6
      refine q H' pa' sa' z h1 (h2.imp id fun y => sm.free y) (h3.imp id fun y => sm.free y) (fun b o e hb => h4 b o (sm b o e) hb) (sm.free h5) h6
    | undo =>
      cases he
      refine ⟨_, rfl, rfl, _, rfl, ?_⟩
      refine ⟨_, rfl, rfl, _, rfl, ?_⟩
      refine ⟨_, rfl, rfl, _, rfl, ?_⟩
      exact ⟨_, rfl, a, dx, _, rfl, e1, oF_no, a, pa, sa, n, S, rfl, hC, q⟩
    | may k =>
      cases he
      refine ⟨_, rfl, rfl, _, rfl, ?_⟩
      refine ⟨_, rfl, rfl, _, rfl, ?_⟩
      refine ⟨_, rfl, rfl, _, rfl, ?_⟩
      refine ⟨_, rfl, rfl, _, rfl, ?_⟩
      exact ⟨_, rfl, a, dx, _, rfl, e1, oF_no, _, rfl, h, _, _, nV k, rfl, rfl, hh, at_of (j := 0) rfl rfl, a, pa, sa, n, S, k, rfl, hC, q⟩
    | likely k =>
      cases he
      refine ⟨_, rfl, rfl, _, rfl, ?_⟩
      refine ⟨_, rfl, rfl, _, rfl, ?_⟩
      refine ⟨_, rfl, rfl, _, rfl, ?_⟩
      refine ⟨_, rfl, rfl, _, rfl, ?_⟩
      refine ⟨_, rfl, rfl, _, rfl, ?_⟩
      exact ⟨_, rfl, a, dx, _, rfl, e1, oF_no, _, rfl, h, _, _, nV k, rfl, rfl, hh, at_of (j := 0) rfl rfl, a, pa, sa, n, S, k, rfl, hC, q⟩
    | guess k =>
      cases he
      refine ⟨_, rfl, rfl, _, rfl, ?_⟩
      refine ⟨_, rfl, rfl, _, rfl, ?_⟩
      refine ⟨_, rfl, rfl, _, rfl, ?_⟩
      refine ⟨_, rfl, rfl, _, rfl, ?_⟩
      refine ⟨_, rfl, rfl, _, rfl, ?_⟩
      refine ⟨_, rfl, rfl, _, rfl, ?_⟩
      exact ⟨_, rfl, a, dx, _, rfl, e1, oF_no, _, rfl, h, _, _, nV k, rfl, rfl, hh, at_of (j := 0) rfl rfl, a, pa, sa, n, S, k, rfl, hC, q⟩
    | stroke k i =>
      cases he
      refine ⟨_, rfl, rfl, _, rfl, ?_⟩
      refine ⟨_, rfl, rfl, _, rfl, ?_⟩
      refine ⟨_, rfl, rfl, _, rfl, ?_⟩
      refine ⟨_, rfl, rfl, _, rfl, ?_⟩
      refine ⟨_, rfl, rfl, _, rfl, ?_⟩
      refine ⟨_, rfl, rfl, _, rfl, ?_⟩
      refine ⟨_, rfl, rfl, _, rfl, ?_⟩
      exact ⟨_, rfl, a, dx, _, rfl, e1, oF_no, _, rfl, h, _, _, nV k, rfl, rfl, hh, at_of (j := 0) rfl rfl, _, rfl, h, _, _, nV i, rfl, rfl, hh, at_of (j := 1) rfl rfl, a, pa, sa, n, S, k, i, rfl, hC, q⟩
    | sure =>
      cases he
      refine ⟨_, rfl, rfl, _, rfl, ?_⟩
      refine ⟨_, rfl, rfl, _, rfl, ?_⟩
      refine ⟨_, rfl, rfl, _, rfl, ?_⟩
      refine ⟨_, rfl, rfl, _, rfl, ?_⟩
      refine ⟨_, rfl, rfl, _, rfl, ?_⟩
      refine ⟨_, rfl, rfl, _, rfl, ?_⟩
      refine ⟨_, rfl, rfl, _, rfl, ?_⟩
      refine ⟨_, rfl, rfl, _, rfl, ?_⟩
      exact ⟨_, rfl, a, dx, _, rfl, e1, oF_no, a, pa, sa, n, S, rfl, hC, q⟩
    | next d =>
      cases he
      refine ⟨_, rfl, rfl, _, rfl, ?_⟩
      refine ⟨_, rfl, rfl, _, rfl, ?_⟩
      refine ⟨_, rfl, rfl, _, rfl, ?_⟩
      refine ⟨_, rfl, rfl, _, rfl, ?_⟩
      refine ⟨_, rfl, rfl, _, rfl, ?_⟩
      refine ⟨_, rfl, rfl, _, rfl, ?_⟩
      refine ⟨_, rfl, rfl, _, rfl, ?_⟩
      refine ⟨_, rfl, rfl, _, rfl, ?_⟩
      refine ⟨_, rfl, rfl, _, rfl, ?_⟩
      exact ⟨_, rfl, a, dx, _, rfl, e1, oF_no, _, rfl, h, _, _, nV d, rfl, rfl, hh, at_of (j := 0) rfl rfl, a, pa, sa, n, S, d, rfl, hC, q⟩
    | apart x y d =>
      cases he
      refine ⟨_, rfl, rfl, _, rfl, ?_⟩
      refine ⟨_, rfl, rfl, _, rfl, ?_⟩
      refine ⟨_, rfl, rfl, _, rfl, ?_⟩
      refine ⟨_, rfl, rfl, _, rfl, ?_⟩
      refine ⟨_, rfl, rfl, _, rfl, ?_⟩
      refine ⟨_, rfl, rfl, _, rfl, ?_⟩
      refine ⟨_, rfl, rfl, _, rfl, ?_⟩
      refine ⟨_, rfl, rfl, _, rfl, ?_⟩
      refine ⟨_, rfl, rfl, _, rfl, ?_⟩
      refine ⟨_, rfl, rfl, _, rfl, ?_⟩
      exact ⟨_, rfl, a, dx, _, rfl, e1, oF_no, _, rfl, h, _, _, nV x, rfl, rfl, hh, at_of (j := 0) rfl rfl, _, rfl, h, _, _, nV y, rfl, rfl, hh, at_of (j := 1) rfl rfl, _, rfl, h, _, _, nV d, rfl, rfl, hh, at_of (j := 2) rfl rfl, a, pa, sa, n, S, x, y, d, rfl, hC, q⟩
    | shown x d =>
      cases he
      refine ⟨_, rfl, rfl, _, rfl, ?_⟩
      refine ⟨_, rfl, rfl, _, rfl, ?_⟩
      refine ⟨_, rfl, rfl, _, rfl, ?_⟩
      refine ⟨_, rfl, rfl, _, rfl, ?_⟩
      refine ⟨_, rfl, rfl, _, rfl, ?_⟩
      refine ⟨_, rfl, rfl, _, rfl, ?_⟩
      refine ⟨_, rfl, rfl, _, rfl, ?_⟩
      refine ⟨_, rfl, rfl, _, rfl, ?_⟩
      refine ⟨_, rfl, rfl, _, rfl, ?_⟩
      refine ⟨_, rfl, rfl, _, rfl, ?_⟩
      refine ⟨_, rfl, rfl, _, rfl, ?_⟩
      exact ⟨_, rfl, a, dx, _, rfl, e1, oF_no, _, rfl, h, _, _, nV x, rfl, rfl, hh, at_of (j := 0) rfl rfl, _, rfl, h, _, _, nV d, rfl, rfl, hh, at_of (j := 1) rfl rfl, a, pa, sa, n, S, x, d, rfl, hC, q⟩
    | state =>
      cases he
      refine ⟨_, rfl, rfl, _, rfl, ?_⟩
      refine ⟨_, rfl, rfl, _, rfl, ?_⟩
      refine ⟨_, rfl, rfl, _, rfl, ?_⟩
      refine ⟨_, rfl, rfl, _, rfl, ?_⟩
      refine ⟨_, rfl, rfl, _, rfl, ?_⟩
      refine ⟨_, rfl, rfl, _, rfl, ?_⟩
      refine ⟨_, rfl, rfl, _, rfl, ?_⟩
      refine ⟨_, rfl, rfl, _, rfl, ?_⟩
      refine ⟨_, rfl, rfl, _, rfl, ?_⟩
      refine ⟨_, rfl, rfl, _, rfl, ?_⟩
      refine ⟨_, rfl, rfl, _, rfl, ?_⟩
      exact ⟨_, rfl, a, dx, _, rfl, e1, oF_no, a, pa, sa, n, S, rfl, hC, q⟩
end
end Bs

set_option Elab.async false
set_option linter.all false
set_option maxRecDepth 100000
set_option maxHeartbeats 4000000
namespace Bs
open PySem PySem.Spec PyProof.Rows L2
theorem runC_take {ds : List Sy69.Call} {s : Sy69.St} {i : Nat} {c : Sy69.Call} (h : ds[i]? = some c) : runC s (ds.take (i + 1)) = runC s (ds.take i) ++ [Sy69Neutral.out (Sy69.step (endC s (ds.take i)) c).2] := by
  rw [take_more h, runC_snoc]
theorem endC_take {ds : List Sy69.Call} {s : Sy69.St} {i : Nat} {c : Sy69.Call} (h : ds[i]? = some c) : endC s (ds.take (i + 1)) = (Sy69.step (endC s (ds.take i)) c).1 := by
  rw [take_more h, endC_snoc]
theorem runC_take_eq : ∀ (ds : List Sy69.Call) (s : Sy69.St) (i : Nat), runC s (ds.take i) = (runC s ds).take i
  | [], s, i => by
    rw [List.take_nil]
    show [] = ([] : List (List Int)).take i
    rw [List.take_nil]
  | d :: ds, s, 0 => rfl
  | d :: ds, s, i + 1 => congrArg (_ :: ·) (runC_take_eq ds _ i)
section
variable {P : Program} {w : World} {K : PySem.W.Frag} {mg : Str → Option Value} {base : Heap}
/-! answers -/
def sp_answers (K : PySem.W.Frag) : Sp := fun vs H Q _ => ∃ (a : Addr) (l : List Int) (ds : List Sy69.Call), vs = [.ref a] ∧ SqL K H a (l.map V.int) ∧ l = ds.flatMap enc ∧ l.length ≤ 100000 ∧ (toldN (runC Sy69.init ds)).length ≤ 10000000 ∧
  ∀ (H' : Hp) (p : Addr), H' p = some (.lst ((toldN (runC Sy69.init ds)).map V.int)) → Q (.ref p) H'
theorem ok_answers (T : Txt K mg) : FnOk P w K mg base CX0 10 T.f_answers T.fd_answers P_answers (sp_answers K) := by
  have G_m_init := ok_m_init (P := P) (w := w) (base := base) T
  have G_end_of_call := ok_end_of_call (P := P) (w := w) (base := base) T
  have G_answer_to := ok_answer_to (P := P) (w := w) (base := base) T
  refine T.F_answers.ok sc_answers (fun vs H Q E h => ?_) (fun cdv A outer s H vs Q E hr h => ⟨_, (pss_cons (ps_set (i := 1) sc_answers.nd rfl (Or.inl rfl) (pe_make0 T.mkI G_m_init (hr.mono (by decide)) rfl T.gC T.bn_m_init .nil pass0))
        (pss_cons (ps_set (i := 2) sc_answers.nd rfl (Or.inl rfl) (pe_lst pa_nil))
        (pss_cons (ps_set (i := 3) sc_answers.nd rfl (Or.inl rfl) pe_int)
        (pss_cons (ps_while PassesOwn.never (pt_cmpR op_lt (pv 3) (pe_callB call_len_seq rfl T.b_len boot_len (pa_cons (pv 0) pa_nil)) (nomark _)) (pss_cons (ps_set (i := 4) sc_answers.nd rfl (Or.inl rfl) (pe_call G_end_of_call (hr.mono (by decide)) rfl T.g_end_of_call T.k_end_of_call T.bn_end_of_call .nil pass0 (pa_cons (pv 0) (pa_cons (pv 3) pa_nil))))
        (pss_cons (ps_set (i := 5) sc_answers.nd rfl (Or.inl rfl) (pe_call G_answer_to (hr.mono (by decide)) rfl T.g_answer_to T.k_answer_to T.bn_answer_to .nil pass0 (pa_cons (pv 1) (pa_cons (pe_ix ix_list (pv 0) (pv 3) (fun _ _ => rfl)) (pa_cons (pe_slice sl_list (pv 0) (po_some (pe_op op_add (pv 3) pe_int)) (po_some (pv 4))) pa_nil)))))
        (pss_cons (ps_expr (pe_bm PySem.F.plainAttrs_list PySem.F.slot_list_append PySem.F.type_list_append mt_append (pv 2) (pa_cons (pe_callB call_len_seq rfl T.b_len boot_len (pa_cons (pv 5) pa_nil)) pa_nil)))
        (pss_cons (ps_expr (pe_bm PySem.F.plainAttrs_list PySem.F.slot_list_extend PySem.F.type_list_extend mt_extend (pv 2) (pa_cons (pv 5) pa_nil)))
        (pss_one (ps_set (i := 3) sc_answers.nd rfl (Or.inl rfl) (pv 4))))))))
        (pss_one (ps_ret (pv 2))))))), ?_⟩)
  · obtain ⟨a, l, ds, rfl, _⟩ := h
    rfl
  · obtain ⟨a, l, ds, rfl, ha, hl, hlen, htold, q⟩ := h
    -- counter = WatchedCounter()
    intro x dx nx ndx nxd
    refine ⟨x, dx, rfl, upd_same, fun H1 pa sa hC fpa fsa k1 => ⟨rfl, ?_⟩⟩
    have ndx' : dx ≠ x := nxd
    have s1 : Same H H1 := fun b o e => by
      have h1 : b ≠ x := ne_of_none e nx
      have h2 : b ≠ dx := ne_of_none e ndx
      refine k1 b o ?_ (by simp [h1])
      rw [upd_ne h1, upd_ne h2]
      exact e
    have fsa0 : H sa = none := by
      cases z : H sa with
      | none => rfl
      | some o =>
        have h1 : sa ≠ x := ne_of_none z nx
        have h2 : sa ≠ dx := ne_of_none z ndx
        rw [upd_ne h1, upd_ne h2, z] at fsa
        cases fsa
    -- told = []
    refine ⟨(by decide : 0 ≤ sizeLine), fun lt hlt => ?_⟩
    have flt : H lt = none := s1.free hlt
    obtain ⟨_, _, dx1, xa1, ts1, g1, g2, g3, _, _⟩ := id hC
    have nlpa : lt ≠ pa := Ne.symm (ne_of_none g2 hlt)
    have nlsa : lt ≠ sa := Ne.symm (ne_of_none g3 hlt)
    have s2 : Same H1 (upd H1 lt (.lst [])) := Same.new hlt
    have elt : upd H1 lt (.lst []) lt = some (.lst (([] : List Int).map V.int)) := upd_same
    have hC2 := hC.same s2
    have sH := s1.trans s2
    generalize upd H1 lt (.lst []) = H2 at s2 elt hC2 sH ⊢
    -- start = 0; while start < len(calls)
    refine ⟨fun m σ H' => ∃ (i n : Nat) (S : Sights) (pa sa : Addr) (e r : Option V), i ≤ ds.length ∧ m = ds.length - i ∧ σ = [some (.ref a), some (.ref x), some (.ref lt), some (nV (startN ds i)), e, r] ∧ Same H H' ∧ AtC T.cc H' x pa sa n S ∧
        Rel (endC Sy69.init (ds.take i)) n S ∧ H sa = none ∧ lt ≠ pa ∧ lt ≠ sa ∧ H' lt = some (.lst ((toldN (runC Sy69.init (ds.take i))).map V.int)),
      ⟨ds.length, 0, 1, [], pa, sa, none, none, Nat.zero_le _, rfl, rfl, sH, hC2, ⟨rfl, by decide, rfl, fun z hz => absurd hz (by simp [endC, Sy69.init])⟩, fsa0, nlpa, nlsa, elt⟩, ?_⟩
    rintro m σ H' ⟨i, n, S, pa, sa, e, r, hi, rfl, rfl, sH', hC', R, fsa', n1, n2, el⟩
    refine ⟨_, rfl, _, rfl, a, _, rfl, .inl (sH'.seq ha), _, _, rfl, rfl, _, rfl, ?_⟩
    rw [List.length_map]
    refine ifD (fun c => ?_) (fun c => ?_)
    · have hi' : i < ds.length := by
        by_cases z : i = ds.length
        · subst z
          have := startN_all ds
          rw [← hl] at this
          omega
        · omega
      obtain ⟨d, hd⟩ : ∃ d, ds[i]? = some d := ⟨ds[i], List.getElem?_eq_getElem hi'⟩
      have hdrop := startN_drop hd
      rw [← hl] at hdrop
      have hst := R.stepN hC'.few d
      obtain ⟨R2, eo⟩ := hst
      obtain ⟨p, et, hp⟩ := enc_cons d
      have hp0 : l[startN ds i + 0]? = some p := drop_get hdrop (by rw [hp]; rfl)
      refine ⟨fun σ H' => ∃ (n : Nat) (S : Sights) (pa sa : Addr) (e r : Option V), σ = [some (.ref a), some (.ref x), some (.ref lt), some (nV (startN ds (i + 1))), e, r] ∧ Same H H' ∧ AtC T.cc H' x pa sa n S ∧
        Rel (endC Sy69.init (ds.take (i + 1))) n S ∧ H sa = none ∧ lt ≠ pa ∧ lt ≠ sa ∧ H' lt = some (.lst ((toldN (runC Sy69.init (ds.take (i + 1)))).map V.int)), ?_, ?_⟩
      · rintro σ' H'' ⟨n, S, pa, sa, e, r, h1, h2⟩
        exact ⟨ds.length - (i + 1), by omega, i + 1, n, S, pa, sa, e, r, hi', rfl, h1, h2⟩
      · -- end = end_of_call(calls, start)
        refine ⟨_, rfl, _, rfl, a, l, _, startN ds i, d, rfl, sH'.seq ha, hdrop, ?_⟩
        -- answer = answer_to(counter, calls[start], calls[start + 1:end])
        refine ⟨_, rfl, _, rfl, _, rfl, a, _, _, .int p, rfl, rfl, sH'.seq ha, at_of (j := startN ds i) rfl (map_get (by rw [← hp0]; rfl)), ?_⟩
        refine ⟨_, rfl, _, rfl, _, _, rfl, rfl, ((startN ds i + 1 : Nat) : Int), rfl, _, rfl, ((startN ds i + (enc d).length : Nat) : Int), rfl, a, _, rfl, sH'.seq ha, fun b hb => ?_⟩
        have eb : cutV (l.map V.int) (some ((startN ds i + 1 : Nat) : Int)) (some ((startN ds i + (enc d).length : Nat) : Int)) = et.map V.int := by
          unfold cutV
          have hle : startN ds i + (enc d).length ≤ l.length := by
            have := congrArg List.length hdrop
            rw [List.length_drop, List.length_append] at this
            have := enc_pos d
            omega
          rw [HT.sIx_nat, HT.sIx_nat, List.length_map, Nat.min_eq_left hle, Nat.min_eq_left (show startN ds i + 1 ≤ l.length by have := enc_pos d; omega), ← List.map_drop, ← List.map_take]
          rw [hp] at hdrop
          have := cut_rest hdrop
          rw [hp, show startN ds i + (p :: et).length - (startN ds i + 1) = et.length by rw [List.length_cons]; omega, this]
        rw [eb]
        have s3 : Same H' (upd H' b (.lst (et.map V.int))) := Same.new hb
        have hb3 : upd H' b (.lst (et.map V.int)) b = some (.lst (et.map V.int)) := upd_same
        generalize upd H' b (.lst (et.map V.int)) = H3 at s3 hb3 ⊢
        refine ⟨x, pa, sa, n, S, d, p, et, b, rfl, hC'.same s3, hp, SqL.of hb3, ?_⟩
        intro H4 pa' sa' z h1 h2 h3 h4 h5 h6
        have s4 : Same H H4 := fun b o e => by
          have hbx : b ≠ x := ne_of_none e nx
          have hbs : b ≠ sa := ne_of_none e fsa'
          exact h4 b o (s3 b o (sH' b o e)) (by simp [hbx, hbs])
        obtain ⟨_, _, dx4, xa4, ts4, k1, k2, k3, _, _⟩ := id hC'
        have nltx : lt ≠ x := ne_of el k1 (fun z => nomatch z)
        have el3 := s3 _ _ el
        have el4 : H4 lt = some (.lst ((toldN (runC Sy69.init (ds.take i))).map V.int)) := h4 lt _ el3 (by simp [nltx, n2])
        have n1' : lt ≠ pa' := by
          rcases h2 with rfl | h2
          · exact n1
          · exact ne_of_none el3 h2
        have n2' : lt ≠ sa' := by
          rcases h3 with rfl | h3
          · exact n2
          · exact ne_of_none el3 h3
        have fsa2 : H sa' = none := by
          rcases h3 with rfl | h3
          · exact fsa'
          · exact (sH'.trans s3).free h3
        have nlz : z ≠ lt := Ne.symm (ne_of_none el3 h5)
        have hsz : (toldN (runC Sy69.init (ds.take i))).length + 1 + (stepN n S d).2.2.length ≤ 10000000 := by
          have h1 := toldN_take_len (runC Sy69.init ds) (i + 1)
          rw [← runC_take_eq, runC_take hd, eo, toldN_len] at h1
          omega
        have big : (10000000 : Nat) < sizeLine := by decide
        -- told.append(len(answer))
        refine ⟨_, rfl, .inl ⟨rfl, _, SqL.of el4⟩, _, rfl, z, _, rfl, .inl (SqL.of h6), lt, _, _, rfl, rfl, el4, ?_, ?_⟩
        · rw [List.length_map]
          omega
        -- told.extend(answer)
        refine ⟨_, rfl, .inl ⟨rfl, _, SqL.of upd_same⟩, _, rfl, lt, z, _, _, rfl, rfl, upd_same, (show upd H4 lt _ z = _ by rw [upd_ne nlz]; exact h6), ?_, ?_⟩
        · rw [List.length_append, List.length_map, List.length_map, List.length_cons, List.length_nil]
          omega
        -- start = end
        rw [upd_upd]
        refine ⟨_, rfl, (stepN n S d).1, (stepN n S d).2.1, pa', sa', some (nV (startN ds i + (enc d).length)), some (.ref z), ?_, ?_, ?_, ?_, fsa2, n1', n2', ?_⟩
        · rw [startN_next hd]
          rfl
        · exact fun b o e => by
            rw [upd_ne (ne_of_none e flt)]
            exact s4 b o e
        · exact h1.keep (X := [lt]) (Keep.put (by simp)) (by simp [Ne.symm n1']) (by simp [Ne.symm n2']) (fun b hb o e => by
            rw [List.mem_singleton.mp hb, el4] at e
            exact ⟨_, (Option.some.inj e).symm⟩)
        · rw [endC_take hd]
          exact R2
        · rw [upd_same, runC_take hd, eo, toldN_snoc, List.map_append, List.length_map, List.map_cons, List.append_assoc]
          rfl
    · have hi' : i = ds.length := by
        by_cases z : i < ds.length
        · obtain ⟨d, hd⟩ : ∃ d, ds[i]? = some d := ⟨ds[i], List.getElem?_eq_getElem z⟩
          have hdrop := startN_drop hd
          rw [← hl] at hdrop
          have := congrArg List.length hdrop
          rw [List.length_drop, List.length_append] at this
          have := enc_pos d
          omega
        · omega
      subst hi'
      rw [List.take_length] at el
      exact ⟨_, rfl, q H' lt el⟩
end
end Bs

set_option Elab.async false
set_option linter.all false
set_option maxRecDepth 100000
set_option maxHeartbeats 4000000
namespace Bs
open PySem PySem.Spec PyProof.Rows L2
theorem all_mk {P : Program} {w : World} {K : PySem.W.Frag} {h : Heap} {mg : Str → Option Value} {fa C2 C : Addr} (X : K.In h) (G : h.Ns mainGlobals mg) (hfa : mg "answers" = some (.ref fa))
    {f1 : Addr} {od1 an1 : Option Addr} {sl1 : Array (Option Value)} {oc1 kV1 dc1 pm1 cd1 ct1 : Value}
    {f2 : Addr} {od2 an2 : Option Addr} {sl2 : Array (Option Value)} {oc2 kV2 dc2 pm2 cd2 ct2 : Value}
    {f3 : Addr} {od3 an3 : Option Addr} {sl3 : Array (Option Value)} {oc3 kV3 dc3 pm3 cd3 ct3 : Value}
    {f4 : Addr} {od4 an4 : Option Addr} {sl4 : Array (Option Value)} {oc4 kV4 dc4 pm4 cd4 ct4 : Value}
    {f5 : Addr} {od5 an5 : Option Addr} {sl5 : Array (Option Value)} {oc5 kV5 dc5 pm5 cd5 ct5 : Value}
    {f6 : Addr} {od6 an6 : Option Addr} {sl6 : Array (Option Value)} {oc6 kV6 dc6 pm6 cd6 ct6 : Value}
    {f7 : Addr} {od7 an7 : Option Addr} {sl7 : Array (Option Value)} {oc7 kV7 dc7 pm7 cd7 ct7 : Value}
    {f8 : Addr} {od8 an8 : Option Addr} {sl8 : Array (Option Value)} {oc8 kV8 dc8 pm8 cd8 ct8 : Value}
    {f9 : Addr} {od9 an9 : Option Addr} {sl9 : Array (Option Value)} {oc9 kV9 dc9 pm9 cd9 ct9 : Value}
    {f10 : Addr} {od10 an10 : Option Addr} {sl10 : Array (Option Value)} {oc10 kV10 dc10 pm10 cd10 ct10 : Value}
    {f11 : Addr} {od11 an11 : Option Addr} {sl11 : Array (Option Value)} {oc11 kV11 dc11 pm11 cd11 ct11 : Value}
    {f12 : Addr} {od12 an12 : Option Addr} {sl12 : Array (Option Value)} {oc12 kV12 dc12 pm12 cd12 ct12 : Value}
    {f13 : Addr} {od13 an13 : Option Addr} {sl13 : Array (Option Value)} {oc13 kV13 dc13 pm13 cd13 ct13 : Value}
    {f14 : Addr} {od14 an14 : Option Addr} {sl14 : Array (Option Value)} {oc14 kV14 dc14 pm14 cd14 ct14 : Value}
    {f15 : Addr} {od15 an15 : Option Addr} {sl15 : Array (Option Value)} {oc15 kV15 dc15 pm15 cd15 ct15 : Value}
    {f16 : Addr} {od16 an16 : Option Addr} {sl16 : Array (Option Value)} {oc16 kV16 dc16 pm16 cd16 ct16 : Value}
    {f17 : Addr} {od17 an17 : Option Addr} {sl17 : Array (Option Value)} {oc17 kV17 dc17 pm17 cd17 ct17 : Value}
    {f18 : Addr} {od18 an18 : Option Addr} {sl18 : Array (Option Value)} {oc18 kV18 dc18 pm18 cd18 ct18 : Value}
    {f19 : Addr} {od19 an19 : Option Addr} {sl19 : Array (Option Value)} {oc19 kV19 dc19 pm19 cd19 ct19 : Value}
    {f20 : Addr} {od20 an20 : Option Addr} {sl20 : Array (Option Value)} {oc20 kV20 dc20 pm20 cd20 ct20 : Value}
    {f21 : Addr} {od21 an21 : Option Addr} {sl21 : Array (Option Value)} {oc21 kV21 dc21 pm21 cd21 ct21 : Value}
    {f22 : Addr} {od22 an22 : Option Addr} {sl22 : Array (Option Value)} {oc22 kV22 dc22 pm22 cd22 ct22 : Value}
    {f23 : Addr} {od23 an23 : Option Addr} {sl23 : Array (Option Value)} {oc23 kV23 dc23 pm23 cd23 ct23 : Value}
    {f24 : Addr} {od24 an24 : Option Addr} {sl24 : Array (Option Value)} {oc24 kV24 dc24 pm24 cd24 ct24 : Value}
    {f25 : Addr} {od25 an25 : Option Addr} {sl25 : Array (Option Value)} {oc25 kV25 dc25 pm25 cd25 ct25 : Value}
    {f26 : Addr} {od26 an26 : Option Addr} {sl26 : Array (Option Value)} {oc26 kV26 dc26 pm26 cd26 ct26 : Value}
    {f27 : Addr} {od27 an27 : Option Addr} {sl27 : Array (Option Value)} {oc27 kV27 dc27 pm27 cd27 ct27 : Value}
    {f28 : Addr} {od28 an28 : Option Addr} {sl28 : Array (Option Value)} {oc28 kV28 dc28 pm28 cd28 ct28 : Value}
    {f29 : Addr} {od29 an29 : Option Addr} {sl29 : Array (Option Value)} {oc29 kV29 dc29 pm29 cd29 ct29 : Value}
    {f30 : Addr} {od30 an30 : Option Addr} {sl30 : Array (Option Value)} {oc30 kV30 dc30 pm30 cd30 ct30 : Value}
    {f31 : Addr} {od31 an31 : Option Addr} {sl31 : Array (Option Value)} {oc31 kV31 dc31 pm31 cd31 ct31 : Value}
    {f32 : Addr} {od32 an32 : Option Addr} {sl32 : Array (Option Value)} {oc32 kV32 dc32 pm32 cd32 ct32 : Value}
    {f33 : Addr} {od33 an33 : Option Addr} {sl33 : Array (Option Value)} {oc33 kV33 dc33 pm33 cd33 ct33 : Value}
    {f34 : Addr} {od34 an34 : Option Addr} {sl34 : Array (Option Value)} {oc34 kV34 dc34 pm34 cd34 ct34 : Value}
    {f35 : Addr} {od35 an35 : Option Addr} {sl35 : Array (Option Value)} {oc35 kV35 dc35 pm35 cd35 ct35 : Value}
    {f36 : Addr} {od36 an36 : Option Addr} {sl36 : Array (Option Value)} {oc36 kV36 dc36 pm36 cd36 ct36 : Value}
    {f37 : Addr} {od37 an37 : Option Addr} {sl37 : Array (Option Value)} {oc37 kV37 dc37 pm37 cd37 ct37 : Value}
    {f38 : Addr} {od38 an38 : Option Addr} {sl38 : Array (Option Value)} {oc38 kV38 dc38 pm38 cd38 ct38 : Value}
    {f39 : Addr} {od39 an39 : Option Addr} {sl39 : Array (Option Value)} {oc39 kV39 dc39 pm39 cd39 ct39 : Value}
    {f40 : Addr} {od40 an40 : Option Addr} {sl40 : Array (Option Value)} {oc40 kV40 dc40 pm40 cd40 ct40 : Value}
    {f41 : Addr} {od41 an41 : Option Addr} {sl41 : Array (Option Value)} {oc41 kV41 dc41 pm41 cd41 ct41 : Value}
    {f42 : Addr} {od42 an42 : Option Addr} {sl42 : Array (Option Value)} {oc42 kV42 dc42 pm42 cd42 ct42 : Value}
    {f43 : Addr} {od43 an43 : Option Addr} {sl43 : Array (Option Value)} {oc43 kV43 dc43 pm43 cd43 ct43 : Value}
    {f44 : Addr} {od44 an44 : Option Addr} {sl44 : Array (Option Value)} {oc44 kV44 dc44 pm44 cd44 ct44 : Value}
    {f45 : Addr} {od45 an45 : Option Addr} {sl45 : Array (Option Value)} {oc45 kV45 dc45 pm45 cd45 ct45 : Value}
    {f46 : Addr} {od46 an46 : Option Addr} {sl46 : Array (Option Value)} {oc46 kV46 dc46 pm46 cd46 ct46 : Value}
    {u1 : Tok}
    {u2 : Tok}
    {t3 : Addr} {td3 : Option Addr} {tn3 : Nat} {ts3 : Array (Option Value)} {u3_0 u3_1 u3_2 u3_3 u3_4 u3_5 u3_6 u3_7 u3_8 u3_9 : Tok}
    {t4 : Addr} {td4 : Option Addr} {tn4 : Nat} {ts4 : Array (Option Value)} {u4_0 u4_1 u4_2 u4_3 : Tok}
    {u5 : Tok}
    {u6 : Tok}
    {u7 : Tok}
    {u8 : Tok}
    {u9 : Tok}
    {u10 : Tok}
    {u11 : Tok}
    {u12 : Tok}
    {u13 : Tok}
    {u14 : Tok}
    {u15 : Tok}
    {u16 : Tok}
    {u17 : Tok}
    {u18 : Tok}
    {t19 : Addr} {td19 : Option Addr} {tn19 : Nat} {ts19 : Array (Option Value)} {u19_0 u19_1 u19_2 u19_3 u19_4 u19_5 u19_6 u19_7 u19_8 u19_9 u19_10 u19_11 : Tok}
    (aC2 : PySem.W.nsIn K mainGlobals "Explanations" = some (some (.ref C2)))
    (aC : PySem.W.nsIn K mainGlobals "WatchedCounter" = some (some (.ref C)))
    (a1 : PySem.W.nsIn K mainGlobals "picture_of" = some (some (.ref f1)))
    (l1 : K.lookup f1 = some ⟨oc1, od1, .func (PySem.W.fnOf "picture_of" "picture_of" (defArgs s_picture_of) (defBody s_picture_of) (defScope s_picture_of) .none kV1 dc1 pm1 an1 cd1 ct1), sl1⟩)
    (c1 : PySem.W.codeIn K cd1 "picture_of" = true)
    (k1 : PySem.W.keepIn K (.ref f1) = true)
    (a2 : PySem.W.nsIn K mainGlobals "places_of" = some (some (.ref f2)))
    (l2 : K.lookup f2 = some ⟨oc2, od2, .func (PySem.W.fnOf "places_of" "places_of" (defArgs s_places_of) (defBody s_places_of) (defScope s_places_of) .none kV2 dc2 pm2 an2 cd2 ct2), sl2⟩)
    (c2 : PySem.W.codeIn K cd2 "places_of" = true)
    (k2 : PySem.W.keepIn K (.ref f2) = true)
    (a3 : PySem.W.nsIn K mainGlobals "whole_picture" = some (some (.ref f3)))
    (l3 : K.lookup f3 = some ⟨oc3, od3, .func (PySem.W.fnOf "whole_picture" "whole_picture" (defArgs s_whole_picture) (defBody s_whole_picture) (defScope s_whole_picture) .none kV3 dc3 pm3 an3 cd3 ct3), sl3⟩)
    (c3 : PySem.W.codeIn K cd3 "whole_picture" = true)
    (k3 : PySem.W.keepIn K (.ref f3) = true)
    (a4 : PySem.W.nsIn K mainGlobals "stroke_alone" = some (some (.ref f4)))
    (l4 : K.lookup f4 = some ⟨oc4, od4, .func (PySem.W.fnOf "stroke_alone" "stroke_alone" (defArgs s_stroke_alone) (defBody s_stroke_alone) (defScope s_stroke_alone) .none kV4 dc4 pm4 an4 cd4 ct4), sl4⟩)
    (c4 : PySem.W.codeIn K cd4 "stroke_alone" = true)
    (k4 : PySem.W.keepIn K (.ref f4) = true)
    (a5 : PySem.W.nsIn K mainGlobals "should_light" = some (some (.ref f5)))
    (l5 : K.lookup f5 = some ⟨oc5, od5, .func (PySem.W.fnOf "should_light" "should_light" (defArgs s_should_light) (defBody s_should_light) (defScope s_should_light) .none kV5 dc5 pm5 an5 cd5 ct5), sl5⟩)
    (c5 : PySem.W.codeIn K cd5 "should_light" = true)
    (k5 : PySem.W.keepIn K (.ref f5) = true)
    (a6 : PySem.W.nsIn K mainGlobals "all_pictures" = some (some (.ref f6)))
    (l6 : K.lookup f6 = some ⟨oc6, od6, .func (PySem.W.fnOf "all_pictures" "all_pictures" (defArgs s_all_pictures) (defBody s_all_pictures) (defScope s_all_pictures) .none kV6 dc6 pm6 an6 cd6 ct6), sl6⟩)
    (c6 : PySem.W.codeIn K cd6 "all_pictures" = true)
    (k6 : PySem.W.keepIn K (.ref f6) = true)
    (a7 : PySem.W.nsIn K mainGlobals "how_many_strokes" = some (some (.ref f7)))
    (l7 : K.lookup f7 = some ⟨oc7, od7, .func (PySem.W.fnOf "how_many_strokes" "how_many_strokes" (defArgs s_how_many_strokes) (defBody s_how_many_strokes) (defScope s_how_many_strokes) .none kV7 dc7 pm7 an7 cd7 ct7), sl7⟩)
    (c7 : PySem.W.codeIn K cd7 "how_many_strokes" = true)
    (k7 : PySem.W.keepIn K (.ref f7) = true)
    (a8 : PySem.W.nsIn K mainGlobals "lit_in_all" = some (some (.ref f8)))
    (l8 : K.lookup f8 = some ⟨oc8, od8, .func (PySem.W.fnOf "lit_in_all" "lit_in_all" (defArgs s_lit_in_all) (defBody s_lit_in_all) (defScope s_lit_in_all) .none kV8 dc8 pm8 an8 cd8 ct8), sl8⟩)
    (c8 : PySem.W.codeIn K cd8 "lit_in_all" = true)
    (k8 : PySem.W.keepIn K (.ref f8) = true)
    (a9 : PySem.W.nsIn K mainGlobals "dark_in_all" = some (some (.ref f9)))
    (l9 : K.lookup f9 = some ⟨oc9, od9, .func (PySem.W.fnOf "dark_in_all" "dark_in_all" (defArgs s_dark_in_all) (defBody s_dark_in_all) (defScope s_dark_in_all) .none kV9 dc9 pm9 an9 cd9 ct9), sl9⟩)
    (c9 : PySem.W.codeIn K cd9 "dark_in_all" = true)
    (k9 : PySem.W.keepIn K (.ref f9) = true)
    (a10 : PySem.W.nsIn K mainGlobals "count_at" = some (some (.ref f10)))
    (l10 : K.lookup f10 = some ⟨oc10, od10, .func (PySem.W.fnOf "count_at" "count_at" (defArgs s_count_at) (defBody s_count_at) (defScope s_count_at) .none kV10 dc10 pm10 an10 cd10 ct10), sl10⟩)
    (c10 : PySem.W.codeIn K cd10 "count_at" = true)
    (k10 : PySem.W.keepIn K (.ref f10) = true)
    (a11 : PySem.W.nsIn K mainGlobals "wrong_strokes" = some (some (.ref f11)))
    (l11 : K.lookup f11 = some ⟨oc11, od11, .func (PySem.W.fnOf "wrong_strokes" "wrong_strokes" (defArgs s_wrong_strokes) (defBody s_wrong_strokes) (defScope s_wrong_strokes) .none kV11 dc11 pm11 an11 cd11 ct11), sl11⟩)
    (c11 : PySem.W.codeIn K cd11 "wrong_strokes" = true)
    (k11 : PySem.W.keepIn K (.ref f11) = true)
    (a12 : PySem.W.nsIn K mainGlobals "broken_by_number" = some (some (.ref f12)))
    (l12 : K.lookup f12 = some ⟨oc12, od12, .func (PySem.W.fnOf "broken_by_number" "broken_by_number" (defArgs s_broken_by_number) (defBody s_broken_by_number) (defScope s_broken_by_number) .none kV12 dc12 pm12 an12 cd12 ct12), sl12⟩)
    (c12 : PySem.W.codeIn K cd12 "broken_by_number" = true)
    (k12 : PySem.W.keepIn K (.ref f12) = true)
    (a13 : PySem.W.findIn K (.ref C2) "__init__" = some (some (.ref f13)))
    (i13 : PySem.W.isFn K (.ref f13) = true)
    (l13 : K.lookup f13 = some ⟨oc13, od13, .func (PySem.W.fnOf "__init__" "Explanations.__init__" (defArgs s_x_init) (defBody s_x_init) (defScope s_x_init) .none kV13 dc13 pm13 an13 cd13 ct13), sl13⟩)
    (c13 : PySem.W.codeIn K cd13 "Explanations.__init__" = true)
    (k13 : PySem.W.keepIn K (.ref f13) = true)
    (a14 : PySem.W.findIn K (.ref C2) "has_none" = some (some (.ref f14)))
    (i14 : PySem.W.isFn K (.ref f14) = true)
    (l14 : K.lookup f14 = some ⟨oc14, od14, .func (PySem.W.fnOf "has_none" "Explanations.has_none" (defArgs s_x_has_none) (defBody s_x_has_none) (defScope s_x_has_none) .none kV14 dc14 pm14 an14 cd14 ct14), sl14⟩)
    (c14 : PySem.W.codeIn K cd14 "Explanations.has_none" = true)
    (k14 : PySem.W.keepIn K (.ref f14) = true)
    (a15 : PySem.W.findIn K (.ref C2) "surely_broken" = some (some (.ref f15)))
    (i15 : PySem.W.isFn K (.ref f15) = true)
    (l15 : K.lookup f15 = some ⟨oc15, od15, .func (PySem.W.fnOf "surely_broken" "Explanations.surely_broken" (defArgs s_x_surely_broken) (defBody s_x_surely_broken) (defScope s_x_surely_broken) .none kV15 dc15 pm15 an15 cd15 ct15), sl15⟩)
    (c15 : PySem.W.codeIn K cd15 "Explanations.surely_broken" = true)
    (k15 : PySem.W.keepIn K (.ref f15) = true)
    (a16 : PySem.W.findIn K (.ref C2) "states" = some (some (.ref f16)))
    (i16 : PySem.W.isFn K (.ref f16) = true)
    (l16 : K.lookup f16 = some ⟨oc16, od16, .func (PySem.W.fnOf "states" "Explanations.states" (defArgs s_x_states) (defBody s_x_states) (defScope s_x_states) .none kV16 dc16 pm16 an16 cd16 ct16), sl16⟩)
    (c16 : PySem.W.codeIn K cd16 "Explanations.states" = true)
    (k16 : PySem.W.keepIn K (.ref f16) = true)
    (a17 : PySem.W.findIn K (.ref C2) "should_show" = some (some (.ref f17)))
    (i17 : PySem.W.isFn K (.ref f17) = true)
    (l17 : K.lookup f17 = some ⟨oc17, od17, .func (PySem.W.fnOf "should_show" "Explanations.should_show" (defArgs s_x_should_show) (defBody s_x_should_show) (defScope s_x_should_show) .none kV17 dc17 pm17 an17 cd17 ct17), sl17⟩)
    (c17 : PySem.W.codeIn K cd17 "Explanations.should_show" = true)
    (k17 : PySem.W.keepIn K (.ref f17) = true)
    (a18 : PySem.W.findIn K (.ref C2) "can_be_lit" = some (some (.ref f18)))
    (i18 : PySem.W.isFn K (.ref f18) = true)
    (l18 : K.lookup f18 = some ⟨oc18, od18, .func (PySem.W.fnOf "can_be_lit" "Explanations.can_be_lit" (defArgs s_x_can_be_lit) (defBody s_x_can_be_lit) (defScope s_x_can_be_lit) .none kV18 dc18 pm18 an18 cd18 ct18), sl18⟩)
    (c18 : PySem.W.codeIn K cd18 "Explanations.can_be_lit" = true)
    (k18 : PySem.W.keepIn K (.ref f18) = true)
    (a19 : PySem.W.findIn K (.ref C2) "can_be_dark" = some (some (.ref f19)))
    (i19 : PySem.W.isFn K (.ref f19) = true)
    (l19 : K.lookup f19 = some ⟨oc19, od19, .func (PySem.W.fnOf "can_be_dark" "Explanations.can_be_dark" (defArgs s_x_can_be_dark) (defBody s_x_can_be_dark) (defScope s_x_can_be_dark) .none kV19 dc19 pm19 an19 cd19 ct19), sl19⟩)
    (c19 : PySem.W.codeIn K cd19 "Explanations.can_be_dark" = true)
    (k19 : PySem.W.keepIn K (.ref f19) = true)
    (a20 : PySem.W.findIn K (.ref C2) "are_apart" = some (some (.ref f20)))
    (i20 : PySem.W.isFn K (.ref f20) = true)
    (l20 : K.lookup f20 = some ⟨oc20, od20, .func (PySem.W.fnOf "are_apart" "Explanations.are_apart" (defArgs s_x_are_apart) (defBody s_x_are_apart) (defScope s_x_are_apart) .none kV20 dc20 pm20 an20 cd20 ct20), sl20⟩)
    (c20 : PySem.W.codeIn K cd20 "Explanations.are_apart" = true)
    (k20 : PySem.W.keepIn K (.ref f20) = true)
    (a21 : PySem.W.nsIn K mainGlobals "answer_with" = some (some (.ref f21)))
    (l21 : K.lookup f21 = some ⟨oc21, od21, .func (PySem.W.fnOf "answer_with" "answer_with" (defArgs s_answer_with) (defBody s_answer_with) (defScope s_answer_with) .none kV21 dc21 pm21 an21 cd21 ct21), sl21⟩)
    (c21 : PySem.W.codeIn K cd21 "answer_with" = true)
    (k21 : PySem.W.keepIn K (.ref f21) = true)
    (a22 : PySem.W.nsIn K mainGlobals "behind_others" = some (some (.ref f22)))
    (l22 : K.lookup f22 = some ⟨oc22, od22, .func (PySem.W.fnOf "behind_others" "behind_others" (defArgs s_behind_others) (defBody s_behind_others) (defScope s_behind_others) .none kV22 dc22 pm22 an22 cd22 ct22), sl22⟩)
    (c22 : PySem.W.codeIn K cd22 "behind_others" = true)
    (k22 : PySem.W.keepIn K (.ref f22) = true)
    (a23 : PySem.W.findIn K (.ref C) "__init__" = some (some (.ref f23)))
    (i23 : PySem.W.isFn K (.ref f23) = true)
    (l23 : K.lookup f23 = some ⟨oc23, od23, .func (PySem.W.fnOf "__init__" "WatchedCounter.__init__" (defArgs s_m_init) (defBody s_m_init) (defScope s_m_init) .none kV23 dc23 pm23 an23 cd23 ct23), sl23⟩)
    (c23 : PySem.W.codeIn K cd23 "WatchedCounter.__init__" = true)
    (k23 : PySem.W.keepIn K (.ref f23) = true)
    (a24 : PySem.W.findIn K (.ref C) "make_new" = some (some (.ref f24)))
    (i24 : PySem.W.isFn K (.ref f24) = true)
    (l24 : K.lookup f24 = some ⟨oc24, od24, .func (PySem.W.fnOf "make_new" "WatchedCounter.make_new" (defArgs s_m_make_new) (defBody s_m_make_new) (defScope s_m_make_new) .none kV24 dc24 pm24 an24 cd24 ct24), sl24⟩)
    (c24 : PySem.W.codeIn K cd24 "WatchedCounter.make_new" = true)
    (k24 : PySem.W.keepIn K (.ref f24) = true)
    (a25 : PySem.W.findIn K (.ref C) "explain" = some (some (.ref f25)))
    (i25 : PySem.W.isFn K (.ref f25) = true)
    (l25 : K.lookup f25 = some ⟨oc25, od25, .func (PySem.W.fnOf "explain" "WatchedCounter.explain" (defArgs s_m_explain) (defBody s_m_explain) (defScope s_m_explain) .none kV25 dc25 pm25 an25 cd25 ct25), sl25⟩)
    (c25 : PySem.W.codeIn K cd25 "WatchedCounter.explain" = true)
    (k25 : PySem.W.keepIn K (.ref f25) = true)
    (a26 : PySem.W.findIn K (.ref C) "there_is" = some (some (.ref f26)))
    (i26 : PySem.W.isFn K (.ref f26) = true)
    (l26 : K.lookup f26 = some ⟨oc26, od26, .func (PySem.W.fnOf "there_is" "WatchedCounter.there_is" (defArgs s_m_there_is) (defBody s_m_there_is) (defScope s_m_there_is) .none kV26 dc26 pm26 an26 cd26 ct26), sl26⟩)
    (c26 : PySem.W.codeIn K cd26 "WatchedCounter.there_is" = true)
    (k26 : PySem.W.keepIn K (.ref f26) = true)
    (a27 : PySem.W.findIn K (.ref C) "may_begin_with" = some (some (.ref f27)))
    (i27 : PySem.W.isFn K (.ref f27) = true)
    (l27 : K.lookup f27 = some ⟨oc27, od27, .func (PySem.W.fnOf "may_begin_with" "WatchedCounter.may_begin_with" (defArgs s_m_may_begin_with) (defBody s_m_may_begin_with) (defScope s_m_may_begin_with) .none kV27 dc27 pm27 an27 cd27 ct27), sl27⟩)
    (c27 : PySem.W.codeIn K cd27 "WatchedCounter.may_begin_with" = true)
    (k27 : PySem.W.keepIn K (.ref f27) = true)
    (a28 : PySem.W.findIn K (.ref C) "how_many_numbers" = some (some (.ref f28)))
    (i28 : PySem.W.isFn K (.ref f28) = true)
    (l28 : K.lookup f28 = some ⟨oc28, od28, .func (PySem.W.fnOf "how_many_numbers" "WatchedCounter.how_many_numbers" (defArgs s_m_how_many_numbers) (defBody s_m_how_many_numbers) (defScope s_m_how_many_numbers) .none kV28 dc28 pm28 an28 cd28 ct28), sl28⟩)
    (c28 : PySem.W.codeIn K cd28 "WatchedCounter.how_many_numbers" = true)
    (k28 : PySem.W.keepIn K (.ref f28) = true)
    (a29 : PySem.W.findIn K (.ref C) "places" = some (some (.ref f29)))
    (i29 : PySem.W.isFn K (.ref f29) = true)
    (l29 : K.lookup f29 = some ⟨oc29, od29, .func (PySem.W.fnOf "places" "WatchedCounter.places" (defArgs s_m_places) (defBody s_m_places) (defScope s_m_places) .none kV29 dc29 pm29 an29 cd29 ct29), sl29⟩)
    (c29 : PySem.W.codeIn K cd29 "WatchedCounter.places" = true)
    (k29 : PySem.W.keepIn K (.ref f29) = true)
    (a30 : PySem.W.findIn K (.ref C) "now" = some (some (.ref f30)))
    (i30 : PySem.W.isFn K (.ref f30) = true)
    (l30 : K.lookup f30 = some ⟨oc30, od30, .func (PySem.W.fnOf "now" "WatchedCounter.now" (defArgs s_m_now) (defBody s_m_now) (defScope s_m_now) .none kV30 dc30 pm30 an30 cd30 ct30), sl30⟩)
    (c30 : PySem.W.codeIn K cd30 "WatchedCounter.now" = true)
    (k30 : PySem.W.keepIn K (.ref f30) = true)
    (a31 : PySem.W.findIn K (.ref C) "begins" = some (some (.ref f31)))
    (i31 : PySem.W.isFn K (.ref f31) = true)
    (l31 : K.lookup f31 = some ⟨oc31, od31, .func (PySem.W.fnOf "begins" "WatchedCounter.begins" (defArgs s_m_begins) (defBody s_m_begins) (defScope s_m_begins) .none kV31 dc31 pm31 an31 cd31 ct31), sl31⟩)
    (c31 : PySem.W.codeIn K cd31 "WatchedCounter.begins" = true)
    (k31 : PySem.W.keepIn K (.ref f31) = true)
    (a32 : PySem.W.findIn K (.ref C) "can_be_seen" = some (some (.ref f32)))
    (i32 : PySem.W.isFn K (.ref f32) = true)
    (l32 : K.lookup f32 = some ⟨oc32, od32, .func (PySem.W.fnOf "can_be_seen" "WatchedCounter.can_be_seen" (defArgs s_m_can_be_seen) (defBody s_m_can_be_seen) (defScope s_m_can_be_seen) .none kV32 dc32 pm32 an32 cd32 ct32), sl32⟩)
    (c32 : PySem.W.codeIn K cd32 "WatchedCounter.can_be_seen" = true)
    (k32 : PySem.W.keepIn K (.ref f32) = true)
    (a33 : PySem.W.findIn K (.ref C) "sees" = some (some (.ref f33)))
    (i33 : PySem.W.isFn K (.ref f33) = true)
    (l33 : K.lookup f33 = some ⟨oc33, od33, .func (PySem.W.fnOf "sees" "WatchedCounter.sees" (defArgs s_m_sees) (defBody s_m_sees) (defScope s_m_sees) .none kV33 dc33 pm33 an33 cd33 ct33), sl33⟩)
    (c33 : PySem.W.codeIn K cd33 "WatchedCounter.sees" = true)
    (k33 : PySem.W.keepIn K (.ref f33) = true)
    (a34 : PySem.W.findIn K (.ref C) "undo" = some (some (.ref f34)))
    (i34 : PySem.W.isFn K (.ref f34) = true)
    (l34 : K.lookup f34 = some ⟨oc34, od34, .func (PySem.W.fnOf "undo" "WatchedCounter.undo" (defArgs s_m_undo) (defBody s_m_undo) (defScope s_m_undo) .none kV34 dc34 pm34 an34 cd34 ct34), sl34⟩)
    (c34 : PySem.W.codeIn K cd34 "WatchedCounter.undo" = true)
    (k34 : PySem.W.keepIn K (.ref f34) = true)
    (a35 : PySem.W.findIn K (.ref C) "may" = some (some (.ref f35)))
    (i35 : PySem.W.isFn K (.ref f35) = true)
    (l35 : K.lookup f35 = some ⟨oc35, od35, .func (PySem.W.fnOf "may" "WatchedCounter.may" (defArgs s_m_may) (defBody s_m_may) (defScope s_m_may) .none kV35 dc35 pm35 an35 cd35 ct35), sl35⟩)
    (c35 : PySem.W.codeIn K cd35 "WatchedCounter.may" = true)
    (k35 : PySem.W.keepIn K (.ref f35) = true)
    (a36 : PySem.W.findIn K (.ref C) "likely" = some (some (.ref f36)))
    (i36 : PySem.W.isFn K (.ref f36) = true)
    (l36 : K.lookup f36 = some ⟨oc36, od36, .func (PySem.W.fnOf "likely" "WatchedCounter.likely" (defArgs s_m_likely) (defBody s_m_likely) (defScope s_m_likely) .none kV36 dc36 pm36 an36 cd36 ct36), sl36⟩)
    (c36 : PySem.W.codeIn K cd36 "WatchedCounter.likely" = true)
    (k36 : PySem.W.keepIn K (.ref f36) = true)
    (a37 : PySem.W.findIn K (.ref C) "guess" = some (some (.ref f37)))
    (i37 : PySem.W.isFn K (.ref f37) = true)
    (l37 : K.lookup f37 = some ⟨oc37, od37, .func (PySem.W.fnOf "guess" "WatchedCounter.guess" (defArgs s_m_guess) (defBody s_m_guess) (defScope s_m_guess) .none kV37 dc37 pm37 an37 cd37 ct37), sl37⟩)
    (c37 : PySem.W.codeIn K cd37 "WatchedCounter.guess" = true)
    (k37 : PySem.W.keepIn K (.ref f37) = true)
    (a38 : PySem.W.findIn K (.ref C) "states_of" = some (some (.ref f38)))
    (i38 : PySem.W.isFn K (.ref f38) = true)
    (l38 : K.lookup f38 = some ⟨oc38, od38, .func (PySem.W.fnOf "states_of" "WatchedCounter.states_of" (defArgs s_m_states_of) (defBody s_m_states_of) (defScope s_m_states_of) .none kV38 dc38 pm38 an38 cd38 ct38), sl38⟩)
    (c38 : PySem.W.codeIn K cd38 "WatchedCounter.states_of" = true)
    (k38 : PySem.W.keepIn K (.ref f38) = true)
    (a39 : PySem.W.findIn K (.ref C) "sure" = some (some (.ref f39)))
    (i39 : PySem.W.isFn K (.ref f39) = true)
    (l39 : K.lookup f39 = some ⟨oc39, od39, .func (PySem.W.fnOf "sure" "WatchedCounter.sure" (defArgs s_m_sure) (defBody s_m_sure) (defScope s_m_sure) .none kV39 dc39 pm39 an39 cd39 ct39), sl39⟩)
    (c39 : PySem.W.codeIn K cd39 "WatchedCounter.sure" = true)
    (k39 : PySem.W.keepIn K (.ref f39) = true)
    (a40 : PySem.W.findIn K (.ref C) "will_show" = some (some (.ref f40)))
    (i40 : PySem.W.isFn K (.ref f40) = true)
    (l40 : K.lookup f40 = some ⟨oc40, od40, .func (PySem.W.fnOf "will_show" "WatchedCounter.will_show" (defArgs s_m_will_show) (defBody s_m_will_show) (defScope s_m_will_show) .none kV40 dc40 pm40 an40 cd40 ct40), sl40⟩)
    (c40 : PySem.W.codeIn K cd40 "WatchedCounter.will_show" = true)
    (k40 : PySem.W.keepIn K (.ref f40) = true)
    (a41 : PySem.W.findIn K (.ref C) "apart" = some (some (.ref f41)))
    (i41 : PySem.W.isFn K (.ref f41) = true)
    (l41 : K.lookup f41 = some ⟨oc41, od41, .func (PySem.W.fnOf "apart" "WatchedCounter.apart" (defArgs s_m_apart) (defBody s_m_apart) (defScope s_m_apart) .none kV41 dc41 pm41 an41 cd41 ct41), sl41⟩)
    (c41 : PySem.W.codeIn K cd41 "WatchedCounter.apart" = true)
    (k41 : PySem.W.keepIn K (.ref f41) = true)
    (a42 : PySem.W.findIn K (.ref C) "shown" = some (some (.ref f42)))
    (i42 : PySem.W.isFn K (.ref f42) = true)
    (l42 : K.lookup f42 = some ⟨oc42, od42, .func (PySem.W.fnOf "shown" "WatchedCounter.shown" (defArgs s_m_shown) (defBody s_m_shown) (defScope s_m_shown) .none kV42 dc42 pm42 an42 cd42 ct42), sl42⟩)
    (c42 : PySem.W.codeIn K cd42 "WatchedCounter.shown" = true)
    (k42 : PySem.W.keepIn K (.ref f42) = true)
    (a43 : PySem.W.findIn K (.ref C) "state" = some (some (.ref f43)))
    (i43 : PySem.W.isFn K (.ref f43) = true)
    (l43 : K.lookup f43 = some ⟨oc43, od43, .func (PySem.W.fnOf "state" "WatchedCounter.state" (defArgs s_m_state) (defBody s_m_state) (defScope s_m_state) .none kV43 dc43 pm43 an43 cd43 ct43), sl43⟩)
    (c43 : PySem.W.codeIn K cd43 "WatchedCounter.state" = true)
    (k43 : PySem.W.keepIn K (.ref f43) = true)
    (a44 : PySem.W.nsIn K mainGlobals "end_of_call" = some (some (.ref f44)))
    (l44 : K.lookup f44 = some ⟨oc44, od44, .func (PySem.W.fnOf "end_of_call" "end_of_call" (defArgs s_end_of_call) (defBody s_end_of_call) (defScope s_end_of_call) .none kV44 dc44 pm44 an44 cd44 ct44), sl44⟩)
    (c44 : PySem.W.codeIn K cd44 "end_of_call" = true)
    (k44 : PySem.W.keepIn K (.ref f44) = true)
    (a45 : PySem.W.nsIn K mainGlobals "answer_to" = some (some (.ref f45)))
    (l45 : K.lookup f45 = some ⟨oc45, od45, .func (PySem.W.fnOf "answer_to" "answer_to" (defArgs s_answer_to) (defBody s_answer_to) (defScope s_answer_to) .none kV45 dc45 pm45 an45 cd45 ct45), sl45⟩)
    (c45 : PySem.W.codeIn K cd45 "answer_to" = true)
    (k45 : PySem.W.keepIn K (.ref f45) = true)
    (a46 : PySem.W.nsIn K mainGlobals "answers" = some (some (.ref f46)))
    (l46 : K.lookup f46 = some ⟨oc46, od46, .func (PySem.W.fnOf "answers" "answers" (defArgs s_answers) (defBody s_answers) (defScope s_answers) .none kV46 dc46 pm46 an46 cd46 ct46), sl46⟩)
    (c46 : PySem.W.codeIn K cd46 "answers" = true)
    (k46 : PySem.W.keepIn K (.ref f46) = true)
    (pg2 : PySem.W.plainGet K C2 Str.empty = true)
    (hd2 : PySem.W.hasDictIn K C2 = true)
    (po2 : PySem.W.plainOver K C2 = true)
    (sa2 : PySem.W.findIn K (.ref C2) "__setattr__" = some (some (.builtin "object.__setattr__")))
    (mk2 : PySem.W.makesIn K C2 = true)
    (kc2 : PySem.W.keepIn K (.ref C2) = true)
    (n2_1 : PySem.W.findIn K (.ref C2) "pictures" = some none)
    (n2_2 : PySem.W.findIn K (.ref C2) "whole" = some none)
    (n2_3 : PySem.W.findIn K (.ref C2) "always_lit" = some none)
    (n2_4 : PySem.W.findIn K (.ref C2) "never_lit" = some none)
    (n2_5 : PySem.W.findIn K (.ref C2) "working" = some none)
    (n2_6 : PySem.W.findIn K (.ref C2) "broken" = some none)
    (pg : PySem.W.plainGet K C Str.empty = true)
    (hd : PySem.W.hasDictIn K C = true)
    (po : PySem.W.plainOver K C = true)
    (sa : PySem.W.findIn K (.ref C) "__setattr__" = some (some (.builtin "object.__setattr__")))
    (mk : PySem.W.makesIn K C = true)
    (kc : PySem.W.keepIn K (.ref C) = true)
    (n_1 : PySem.W.findIn K (.ref C) "digits" = some none)
    (n_2 : PySem.W.findIn K (.ref C) "pictures" = some none)
    (n_3 : PySem.W.findIn K (.ref C) "sights" = some none)
    (n_4 : PySem.W.findIn K (.ref C) "explained" = some none)
    (z1 : PySem.W.nsIn K mainGlobals "STROKES" = some (some (.int 7 u1)))
    (z2 : PySem.W.nsIn K mainGlobals "ALL_STROKES" = some (some (.int 127 u2)))
    (z3 : PySem.W.nsIn K mainGlobals "DIGIT_STROKES" = some (some (.ref t3)))
    (y3 : K.lookup t3 = some ⟨.type "tuple", td3, .seq #[.int 119 u3_0, .int 36 u3_1, .int 93 u3_2, .int 109 u3_3, .int 46 u3_4, .int 107 u3_5, .int 123 u3_6, .int 37 u3_7, .int 127 u3_8, .int 111 u3_9] tn3, ts3⟩)
    (z4 : PySem.W.nsIn K mainGlobals "HOW_MANY_NUMBERS" = some (some (.ref t4)))
    (y4 : K.lookup t4 = some ⟨.type "tuple", td4, .seq #[.int 1 u4_0, .int 10 u4_1, .int 100 u4_2, .int 1000 u4_3] tn4, ts4⟩)
    (z5 : PySem.W.nsIn K mainGlobals "MOST_DIGITS" = some (some (.int 3 u5)))
    (z6 : PySem.W.nsIn K mainGlobals "MOST_SECONDS" = some (some (.int 10000 u6)))
    (z7 : PySem.W.nsIn K mainGlobals "MOST_SIGHTS" = some (some (.int 8 u7)))
    (z8 : PySem.W.nsIn K mainGlobals "BEGINS" = some (some (.int 0 u8)))
    (z9 : PySem.W.nsIn K mainGlobals "SEES" = some (some (.int 1 u9)))
    (z10 : PySem.W.nsIn K mainGlobals "UNDO" = some (some (.int 2 u10)))
    (z11 : PySem.W.nsIn K mainGlobals "MAY" = some (some (.int 3 u11)))
    (z12 : PySem.W.nsIn K mainGlobals "LIKELY" = some (some (.int 4 u12)))
    (z13 : PySem.W.nsIn K mainGlobals "GUESS" = some (some (.int 5 u13)))
    (z14 : PySem.W.nsIn K mainGlobals "STROKE" = some (some (.int 6 u14)))
    (z15 : PySem.W.nsIn K mainGlobals "SURE" = some (some (.int 7 u15)))
    (z16 : PySem.W.nsIn K mainGlobals "NEXT" = some (some (.int 8 u16)))
    (z17 : PySem.W.nsIn K mainGlobals "APART" = some (some (.int 9 u17)))
    (z18 : PySem.W.nsIn K mainGlobals "SHOWN" = some (some (.int 10 u18)))
    (z19 : PySem.W.nsIn K mainGlobals "HANDED_NUMBERS" = some (some (.ref t19)))
    (y19 : K.lookup t19 = some ⟨.type "tuple", td19, .seq #[.int 1 u19_0, .int 1 u19_1, .int 0 u19_2, .int 1 u19_3, .int 1 u19_4, .int 1 u19_5, .int 2 u19_6, .int 0 u19_7, .int 1 u19_8, .int 3 u19_9, .int 2 u19_10, .int 0 u19_11] tn19, ts19⟩)
    (b1 : PySem.W.nsIn K mainGlobals "int" = some none)
    (b2 : PySem.W.nsIn K mainGlobals "len" = some none)
    (b3 : PySem.W.nsIn K mainGlobals "list" = some none)
    (b4 : PySem.W.nsIn K mainGlobals "max" = some none)
    (b5 : PySem.W.nsIn K mainGlobals "min" = some none)
    (b6 : PySem.W.nsIn K mainGlobals "range" = some none)
    (b7 : PySem.W.nsIn K mainGlobals "str" = some none) :
    ∃ fd : FuncData, (∀ (s : Shared) (us : List Value), us.length = (["calls"] : List Str).length → BindsTo s fd ⟨us, []⟩ ((["calls"] : List Str).zip us)) ∧ ∀ base : Heap, K.In base → base.Ns mainGlobals mg → FnOk P w K mg base CX0 10 fa fd ["calls"] (sp_answers K) := by
  have e := hfa.symm.trans (PySem.W.mg_of X G a46)
  cases e
  have T : ∃ T : Txt K mg, T.f_answers = fa ∧ T.fd_answers = (PySem.W.fnOf "answers" "answers" (defArgs s_answers) (defBody s_answers) (defScope s_answers) .none kV46 dc46 pm46 an46 cd46 ct46) := ⟨{ f_picture_of := f1, fd_picture_of := _, F_picture_of := fun_mk (st := s_picture_of) l1 c1 k1, g_picture_of := PySem.W.mg_of X G a1, f_places_of := f2, fd_places_of := _, F_places_of := fun_mk (st := s_places_of) l2 c2 k2, g_places_of := PySem.W.mg_of X G a2, f_whole_picture := f3, fd_whole_picture := _, F_whole_picture := fun_mk (st := s_whole_picture) l3 c3 k3, g_whole_picture := PySem.W.mg_of X G a3, f_stroke_alone := f4, fd_stroke_alone := _, F_stroke_alone := fun_mk (st := s_stroke_alone) l4 c4 k4, g_stroke_alone := PySem.W.mg_of X G a4, f_should_light := f5, fd_should_light := _, F_should_light := fun_mk (st := s_should_light) l5 c5 k5, g_should_light := PySem.W.mg_of X G a5, f_all_pictures := f6, fd_all_pictures := _, F_all_pictures := fun_mk (st := s_all_pictures) l6 c6 k6, g_all_pictures := PySem.W.mg_of X G a6, f_how_many_strokes := f7, fd_how_many_strokes := _, F_how_many_strokes := fun_mk (st := s_how_many_strokes) l7 c7 k7, g_how_many_strokes := PySem.W.mg_of X G a7, f_lit_in_all := f8, fd_lit_in_all := _, F_lit_in_all := fun_mk (st := s_lit_in_all) l8 c8 k8, g_lit_in_all := PySem.W.mg_of X G a8, f_dark_in_all := f9, fd_dark_in_all := _, F_dark_in_all := fun_mk (st := s_dark_in_all) l9 c9 k9, g_dark_in_all := PySem.W.mg_of X G a9, f_count_at := f10, fd_count_at := _, F_count_at := fun_mk (st := s_count_at) l10 c10 k10, g_count_at := PySem.W.mg_of X G a10, f_wrong_strokes := f11, fd_wrong_strokes := _, F_wrong_strokes := fun_mk (st := s_wrong_strokes) l11 c11 k11, g_wrong_strokes := PySem.W.mg_of X G a11, f_broken_by_number := f12, fd_broken_by_number := _, F_broken_by_number := fun_mk (st := s_broken_by_number) l12 c12 k12, g_broken_by_number := PySem.W.mg_of X G a12, f_x_init := f13, fd_x_init := _, F_x_init := fun_mk (st := s_x_init) l13 c13 k13, f_x_has_none := f14, fd_x_has_none := _, F_x_has_none := fun_mk (st := s_x_has_none) l14 c14 k14, mt_x_has_none := ⟨a14, i14, k14⟩, f_x_surely_broken := f15, fd_x_surely_broken := _, F_x_surely_broken := fun_mk (st := s_x_surely_broken) l15 c15 k15, mt_x_surely_broken := ⟨a15, i15, k15⟩, f_x_states := f16, fd_x_states := _, F_x_states := fun_mk (st := s_x_states) l16 c16 k16, mt_x_states := ⟨a16, i16, k16⟩, f_x_should_show := f17, fd_x_should_show := _, F_x_should_show := fun_mk (st := s_x_should_show) l17 c17 k17, mt_x_should_show := ⟨a17, i17, k17⟩, f_x_can_be_lit := f18, fd_x_can_be_lit := _, F_x_can_be_lit := fun_mk (st := s_x_can_be_lit) l18 c18 k18, mt_x_can_be_lit := ⟨a18, i18, k18⟩, f_x_can_be_dark := f19, fd_x_can_be_dark := _, F_x_can_be_dark := fun_mk (st := s_x_can_be_dark) l19 c19 k19, mt_x_can_be_dark := ⟨a19, i19, k19⟩, f_x_are_apart := f20, fd_x_are_apart := _, F_x_are_apart := fun_mk (st := s_x_are_apart) l20 c20 k20, mt_x_are_apart := ⟨a20, i20, k20⟩, f_answer_with := f21, fd_answer_with := _, F_answer_with := fun_mk (st := s_answer_with) l21 c21 k21, g_answer_with := PySem.W.mg_of X G a21, f_behind_others := f22, fd_behind_others := _, F_behind_others := fun_mk (st := s_behind_others) l22 c22 k22, g_behind_others := PySem.W.mg_of X G a22, f_m_init := f23, fd_m_init := _, F_m_init := fun_mk (st := s_m_init) l23 c23 k23, f_m_make_new := f24, fd_m_make_new := _, F_m_make_new := fun_mk (st := s_m_make_new) l24 c24 k24, mt_m_make_new := ⟨a24, i24, k24⟩, f_m_explain := f25, fd_m_explain := _, F_m_explain := fun_mk (st := s_m_explain) l25 c25 k25, mt_m_explain := ⟨a25, i25, k25⟩, f_m_there_is := f26, fd_m_there_is := _, F_m_there_is := fun_mk (st := s_m_there_is) l26 c26 k26, mt_m_there_is := ⟨a26, i26, k26⟩, f_m_may_begin_with := f27, fd_m_may_begin_with := _, F_m_may_begin_with := fun_mk (st := s_m_may_begin_with) l27 c27 k27, mt_m_may_begin_with := ⟨a27, i27, k27⟩, f_m_how_many_numbers := f28, fd_m_how_many_numbers := _, F_m_how_many_numbers := fun_mk (st := s_m_how_many_numbers) l28 c28 k28, mt_m_how_many_numbers := ⟨a28, i28, k28⟩, f_m_places := f29, fd_m_places := _, F_m_places := fun_mk (st := s_m_places) l29 c29 k29, mt_m_places := ⟨a29, i29, k29⟩, f_m_now := f30, fd_m_now := _, F_m_now := fun_mk (st := s_m_now) l30 c30 k30, mt_m_now := ⟨a30, i30, k30⟩, f_m_begins := f31, fd_m_begins := _, F_m_begins := fun_mk (st := s_m_begins) l31 c31 k31, mt_m_begins := ⟨a31, i31, k31⟩, f_m_can_be_seen := f32, fd_m_can_be_seen := _, F_m_can_be_seen := fun_mk (st := s_m_can_be_seen) l32 c32 k32, mt_m_can_be_seen := ⟨a32, i32, k32⟩, f_m_sees := f33, fd_m_sees := _, F_m_sees := fun_mk (st := s_m_sees) l33 c33 k33, mt_m_sees := ⟨a33, i33, k33⟩, f_m_undo := f34, fd_m_undo := _, F_m_undo := fun_mk (st := s_m_undo) l34 c34 k34, mt_m_undo := ⟨a34, i34, k34⟩, f_m_may := f35, fd_m_may := _, F_m_may := fun_mk (st := s_m_may) l35 c35 k35, mt_m_may := ⟨a35, i35, k35⟩, f_m_likely := f36, fd_m_likely := _, F_m_likely := fun_mk (st := s_m_likely) l36 c36 k36, mt_m_likely := ⟨a36, i36, k36⟩, f_m_guess := f37, fd_m_guess := _, F_m_guess := fun_mk (st := s_m_guess) l37 c37 k37, mt_m_guess := ⟨a37, i37, k37⟩, f_m_states_of := f38, fd_m_states_of := _, F_m_states_of := fun_mk (st := s_m_states_of) l38 c38 k38, mt_m_states_of := ⟨a38, i38, k38⟩, f_m_sure := f39, fd_m_sure := _, F_m_sure := fun_mk (st := s_m_sure) l39 c39 k39, mt_m_sure := ⟨a39, i39, k39⟩, f_m_will_show := f40, fd_m_will_show := _, F_m_will_show := fun_mk (st := s_m_will_show) l40 c40 k40, mt_m_will_show := ⟨a40, i40, k40⟩, f_m_apart := f41, fd_m_apart := _, F_m_apart := fun_mk (st := s_m_apart) l41 c41 k41, mt_m_apart := ⟨a41, i41, k41⟩, f_m_shown := f42, fd_m_shown := _, F_m_shown := fun_mk (st := s_m_shown) l42 c42 k42, mt_m_shown := ⟨a42, i42, k42⟩, f_m_state := f43, fd_m_state := _, F_m_state := fun_mk (st := s_m_state) l43 c43 k43, mt_m_state := ⟨a43, i43, k43⟩, f_end_of_call := f44, fd_end_of_call := _, F_end_of_call := fun_mk (st := s_end_of_call) l44 c44 k44, g_end_of_call := PySem.W.mg_of X G a44, f_answer_to := f45, fd_answer_to := _, F_answer_to := fun_mk (st := s_answer_to) l45 c45 k45, g_answer_to := PySem.W.mg_of X G a45, f_answers := fa, fd_answers := _, F_answers := fun_mk (st := s_answers) l46 c46 k46, g_answers := PySem.W.mg_of X G a46, cl2 := ⟨pg2, hd2, po2, sa2⟩, mkI2 := ⟨mk2, a13, i13, kc2⟩, n2_pictures := n2_1, n2_whole := n2_2, n2_always_lit := n2_3, n2_never_lit := n2_4, n2_working := n2_5, n2_broken := n2_6, C2 := C2, gC2 := PySem.W.mg_of X G aC2, cl := ⟨pg, hd, po, sa⟩, mkI := ⟨mk, a23, i23, kc⟩, n_digits := n_1, n_pictures := n_2, n_sights := n_3, n_explained := n_4, C := C, gC := PySem.W.mg_of X G aC, c_STROKES := ⟨_, PySem.W.mg_of X G z1⟩, c_ALL_STROKES := ⟨_, PySem.W.mg_of X G z2⟩, a_DIGIT_STROKES := t3, c_DIGIT_STROKES := PySem.W.mg_of X G z3, q_DIGIT_STROKES := fun H => .inr ⟨_, _, _, y3, rfl, rfl, (show 10 ≤ sizeLine by decide), (.cons ⟨_, rfl⟩ (.cons ⟨_, rfl⟩ (.cons ⟨_, rfl⟩ (.cons ⟨_, rfl⟩ (.cons ⟨_, rfl⟩ (.cons ⟨_, rfl⟩ (.cons ⟨_, rfl⟩ (.cons ⟨_, rfl⟩ (.cons ⟨_, rfl⟩ (.cons ⟨_, rfl⟩ .nil))))))))))⟩, a_HOW_MANY_NUMBERS := t4, c_HOW_MANY_NUMBERS := PySem.W.mg_of X G z4, q_HOW_MANY_NUMBERS := fun H => .inr ⟨_, _, _, y4, rfl, rfl, (show 4 ≤ sizeLine by decide), (.cons ⟨_, rfl⟩ (.cons ⟨_, rfl⟩ (.cons ⟨_, rfl⟩ (.cons ⟨_, rfl⟩ .nil))))⟩, c_MOST_DIGITS := ⟨_, PySem.W.mg_of X G z5⟩, c_MOST_SECONDS := ⟨_, PySem.W.mg_of X G z6⟩, c_MOST_SIGHTS := ⟨_, PySem.W.mg_of X G z7⟩, c_BEGINS := ⟨_, PySem.W.mg_of X G z8⟩, c_SEES := ⟨_, PySem.W.mg_of X G z9⟩, c_UNDO := ⟨_, PySem.W.mg_of X G z10⟩, c_MAY := ⟨_, PySem.W.mg_of X G z11⟩, c_LIKELY := ⟨_, PySem.W.mg_of X G z12⟩, c_GUESS := ⟨_, PySem.W.mg_of X G z13⟩, c_STROKE := ⟨_, PySem.W.mg_of X G z14⟩, c_SURE := ⟨_, PySem.W.mg_of X G z15⟩, c_NEXT := ⟨_, PySem.W.mg_of X G z16⟩, c_APART := ⟨_, PySem.W.mg_of X G z17⟩, c_SHOWN := ⟨_, PySem.W.mg_of X G z18⟩, a_HANDED_NUMBERS := t19, c_HANDED_NUMBERS := PySem.W.mg_of X G z19, q_HANDED_NUMBERS := fun H => .inr ⟨_, _, _, y19, rfl, rfl, (show 12 ≤ sizeLine by decide), (.cons ⟨_, rfl⟩ (.cons ⟨_, rfl⟩ (.cons ⟨_, rfl⟩ (.cons ⟨_, rfl⟩ (.cons ⟨_, rfl⟩ (.cons ⟨_, rfl⟩ (.cons ⟨_, rfl⟩ (.cons ⟨_, rfl⟩ (.cons ⟨_, rfl⟩ (.cons ⟨_, rfl⟩ (.cons ⟨_, rfl⟩ (.cons ⟨_, rfl⟩ .nil))))))))))))⟩, b_int := PySem.W.mg_none_of X G b1, b_len := PySem.W.mg_none_of X G b2, b_list := PySem.W.mg_none_of X G b3, b_max := PySem.W.mg_none_of X G b4, b_min := PySem.W.mg_none_of X G b5, b_range := PySem.W.mg_none_of X G b6, b_str := PySem.W.mg_none_of X G b7 }, rfl, rfl⟩
  obtain ⟨T, e1, e2⟩ := T
  subst e1
  refine ⟨T.fd_answers, fun s us hu => ?_, fun base _ _ => ok_answers T⟩
  rw [e2]
  match us, hu with
  | [_], _ => exact .of_eq rfl
end Bs
open PySem PySem.W PyProof.Rows
set_option maxRecDepth 100000 in
set_option maxHeartbeats 8000000 in
theorem PySem.Challenge.cw_brokenstrokes_s01_answers_holds : PySem.Challenge.rw_brokenstrokes_s01_answers.Holds := by
  w_on; k_headS; (case hw => exact ⟨[.list [.int 2]], by decide +kernel, by decide +kernel⟩)
  k_fillS
  refine L2.walk_specK (r := PySem.Challenge.rw_brokenstrokes_s01_answers) (k := 10) (CX := L2.CX0) (ps := ["calls"]) (sp := Bs.sp_answers) (by decide +kernel) rfl rfl ⟨rfl, by decide, by decide⟩ (fun w h Y => PySem.W.kIn_of Y) ?F ?S (fun _ _ _ _ z => z)
  case F =>
    intro w mg fa h Y KX G hmg
    refine' Bs.all_mk KX G hmg ?aC2 ?aC ?a1 ?l1 ?c1 ?k1 ?a2 ?l2 ?c2 ?k2 ?a3 ?l3 ?c3 ?k3 ?a4 ?l4 ?c4 ?k4 ?a5 ?l5 ?c5 ?k5 ?a6 ?l6 ?c6 ?k6 ?a7 ?l7 ?c7 ?k7 ?a8 ?l8 ?c8 ?k8 ?a9 ?l9 ?c9 ?k9 ?a10 ?l10 ?c10 ?k10 ?a11 ?l11 ?c11 ?k11 ?a12 ?l12 ?c12 ?k12 ?a13 ?i13 ?l13 ?c13 ?k13 ?a14 ?i14 ?l14 ?c14 ?k14 ?a15 ?i15 ?l15 ?c15 ?k15 ?a16 ?i16 ?l16 ?c16 ?k16 ?a17 ?i17 ?l17 ?c17 ?k17 ?a18 ?i18 ?l18 ?c18 ?k18 ?a19 ?i19 ?l19 ?c19 ?k19 ?a20 ?i20 ?l20 ?c20 ?k20 ?a21 ?l21 ?c21 ?k21 ?a22 ?l22 ?c22 ?k22 ?a23 ?i23 ?l23 ?c23 ?k23 ?a24 ?i24 ?l24 ?c24 ?k24 ?a25 ?i25 ?l25 ?c25 ?k25 ?a26 ?i26 ?l26 ?c26 ?k26 ?a27 ?i27 ?l27 ?c27 ?k27 ?a28 ?i28 ?l28 ?c28 ?k28 ?a29 ?i29 ?l29 ?c29 ?k29 ?a30 ?i30 ?l30 ?c30 ?k30 ?a31 ?i31 ?l31 ?c31 ?k31 ?a32 ?i32 ?l32 ?c32 ?k32 ?a33 ?i33 ?l33 ?c33 ?k33 ?a34 ?i34 ?l34 ?c34 ?k34 ?a35 ?i35 ?l35 ?c35 ?k35 ?a36 ?i36 ?l36 ?c36 ?k36 ?a37 ?i37 ?l37 ?c37 ?k37 ?a38 ?i38 ?l38 ?c38 ?k38 ?a39 ?i39 ?l39 ?c39 ?k39 ?a40 ?i40 ?l40 ?c40 ?k40 ?a41 ?i41 ?l41 ?c41 ?k41 ?a42 ?i42 ?l42 ?c42 ?k42 ?a43 ?i43 ?l43 ?c43 ?k43 ?a44 ?l44 ?c44 ?k44 ?a45 ?l45 ?c45 ?k45 ?a46 ?l46 ?c46 ?k46 ?pg2 ?hd2 ?po2 ?sa2 ?mk2 ?kc2 ?n2_1 ?n2_2 ?n2_3 ?n2_4 ?n2_5 ?n2_6 ?pg ?hd ?po ?sa ?mk ?kc ?n_1 ?n_2 ?n_3 ?n_4 ?z1 ?z2 ?z3 ?y3 ?z4 ?y4 ?z5 ?z6 ?z7 ?z8 ?z9 ?z10 ?z11 ?z12 ?z13 ?z14 ?z15 ?z16 ?z17 ?z18 ?z19 ?y19 ?b1 ?b2 ?b3 ?b4 ?b5 ?b6 ?b7
    (case aC2 => k_is)
    (case aC => k_is)
    (case a1 => k_is)
    (case l1 => k_is)
    (case c1 => k_is)
    (case k1 => k_is)
    (case a2 => k_is)
    (case l2 => k_is)
    (case c2 => k_is)
    (case k2 => k_is)
    (case a3 => k_is)
    (case l3 => k_is)
    (case c3 => k_is)
    (case k3 => k_is)
    (case a4 => k_is)
    (case l4 => k_is)
    (case c4 => k_is)
    (case k4 => k_is)
    (case a5 => k_is)
    (case l5 => k_is)
    (case c5 => k_is)
    (case k5 => k_is)
    (case a6 => k_is)
    (case l6 => k_is)
    (case c6 => k_is)
    (case k6 => k_is)
    (case a7 => k_is)
    (case l7 => k_is)
    (case c7 => k_is)
    (case k7 => k_is)
    (case a8 => k_is)
    (case l8 => k_is)
    (case c8 => k_is)
    (case k8 => k_is)
    (case a9 => k_is)
    (case l9 => k_is)
    (case c9 => k_is)
    (case k9 => k_is)
    (case a10 => k_is)
    (case l10 => k_is)
    (case c10 => k_is)
    (case k10 => k_is)
    (case a11 => k_is)
    (case l11 => k_is)
    (case c11 => k_is)
    (case k11 => k_is)
    (case a12 => k_is)
    (case l12 => k_is)
    (case c12 => k_is)
    (case k12 => k_is)
    (case a13 => k_is)
    (case i13 => k_is)
    (case l13 => k_is)
    (case c13 => k_is)
    (case k13 => k_is)
    (case a14 => k_is)
    (case i14 => k_is)
    (case l14 => k_is)
    (case c14 => k_is)
    (case k14 => k_is)
    (case a15 => k_is)
    (case i15 => k_is)
    (case l15 => k_is)
    (case c15 => k_is)
    (case k15 => k_is)
    (case a16 => k_is)
    (case i16 => k_is)
    (case l16 => k_is)
    (case c16 => k_is)
    (case k16 => k_is)
    (case a17 => k_is)
    (case i17 => k_is)
    (case l17 => k_is)
    (case c17 => k_is)
    (case k17 => k_is)
    (case a18 => k_is)
    (case i18 => k_is)
    (case l18 => k_is)
    (case c18 => k_is)
    (case k18 => k_is)
    (case a19 => k_is)
    (case i19 => k_is)
    (case l19 => k_is)
    (case c19 => k_is)
    (case k19 => k_is)
    (case a20 => k_is)
    (case i20 => k_is)
    (case l20 => k_is)
    (case c20 => k_is)
    (case k20 => k_is)
    (case a21 => k_is)
    (case l21 => k_is)
    (case c21 => k_is)
    (case k21 => k_is)
    (case a22 => k_is)
    (case l22 => k_is)
    (case c22 => k_is)
    (case k22 => k_is)
    (case a23 => k_is)
    (case i23 => k_is)
    (case l23 => k_is)
    (case c23 => k_is)
    (case k23 => k_is)
    (case a24 => k_is)
    (case i24 => k_is)
    (case l24 => k_is)
    (case c24 => k_is)
    (case k24 => k_is)
    (case a25 => k_is)
    (case i25 => k_is)
    (case l25 => k_is)
    (case c25 => k_is)
    (case k25 => k_is)
    (case a26 => k_is)
    (case i26 => k_is)
    (case l26 => k_is)
    (case c26 => k_is)
    (case k26 => k_is)
    (case a27 => k_is)
    (case i27 => k_is)
    (case l27 => k_is)
    (case c27 => k_is)
    (case k27 => k_is)
    (case a28 => k_is)
    (case i28 => k_is)
    (case l28 => k_is)
    (case c28 => k_is)
    (case k28 => k_is)
    (case a29 => k_is)
    (case i29 => k_is)
    (case l29 => k_is)
    (case c29 => k_is)
    (case k29 => k_is)
    (case a30 => k_is)
    (case i30 => k_is)
    (case l30 => k_is)
    (case c30 => k_is)
    (case k30 => k_is)
    (case a31 => k_is)
    (case i31 => k_is)
    (case l31 => k_is)
    (case c31 => k_is)
    (case k31 => k_is)
    (case a32 => k_is)
    (case i32 => k_is)
    (case l32 => k_is)
    (case c32 => k_is)
    (case k32 => k_is)
    (case a33 => k_is)
    (case i33 => k_is)
    (case l33 => k_is)
    (case c33 => k_is)
    (case k33 => k_is)
    (case a34 => k_is)
    (case i34 => k_is)
    (case l34 => k_is)
    (case c34 => k_is)
    (case k34 => k_is)
    (case a35 => k_is)
    (case i35 => k_is)
    (case l35 => k_is)
    (case c35 => k_is)
    (case k35 => k_is)
    (case a36 => k_is)
    (case i36 => k_is)
    (case l36 => k_is)
    (case c36 => k_is)
    (case k36 => k_is)
    (case a37 => k_is)
    (case i37 => k_is)
    (case l37 => k_is)
    (case c37 => k_is)
    (case k37 => k_is)
    (case a38 => k_is)
    (case i38 => k_is)
    (case l38 => k_is)
    (case c38 => k_is)
    (case k38 => k_is)
    (case a39 => k_is)
    (case i39 => k_is)
    (case l39 => k_is)
    (case c39 => k_is)
    (case k39 => k_is)
    (case a40 => k_is)
    (case i40 => k_is)
    (case l40 => k_is)
    (case c40 => k_is)
    (case k40 => k_is)
    (case a41 => k_is)
    (case i41 => k_is)
    (case l41 => k_is)
    (case c41 => k_is)
    (case k41 => k_is)
    (case a42 => k_is)
    (case i42 => k_is)
    (case l42 => k_is)
    (case c42 => k_is)
    (case k42 => k_is)
    (case a43 => k_is)
    (case i43 => k_is)
    (case l43 => k_is)
    (case c43 => k_is)
    (case k43 => k_is)
    (case a44 => k_is)
    (case l44 => k_is)
    (case c44 => k_is)
    (case k44 => k_is)
    (case a45 => k_is)
    (case l45 => k_is)
    (case c45 => k_is)
    (case k45 => k_is)
    (case a46 => k_is)
    (case l46 => k_is)
    (case c46 => k_is)
    (case k46 => k_is)
    (case pg2 => k_is)
    (case hd2 => k_is)
    (case po2 => k_is)
    (case sa2 => k_is)
    (case mk2 => k_is)
    (case kc2 => k_is)
    (case n2_1 => k_is)
    (case n2_2 => k_is)
    (case n2_3 => k_is)
    (case n2_4 => k_is)
    (case n2_5 => k_is)
    (case n2_6 => k_is)
    (case pg => k_is)
    (case hd => k_is)
    (case po => k_is)
    (case sa => k_is)
    (case mk => k_is)
    (case kc => k_is)
    (case n_1 => k_is)
    (case n_2 => k_is)
    (case n_3 => k_is)
    (case n_4 => k_is)
    (case z1 => k_is)
    (case z2 => k_is)
    (case z3 => k_is)
    (case y3 => k_is)
    (case z4 => k_is)
    (case y4 => k_is)
    (case z5 => k_is)
    (case z6 => k_is)
    (case z7 => k_is)
    (case z8 => k_is)
    (case z9 => k_is)
    (case z10 => k_is)
    (case z11 => k_is)
    (case z12 => k_is)
    (case z13 => k_is)
    (case z14 => k_is)
    (case z15 => k_is)
    (case z16 => k_is)
    (case z17 => k_is)
    (case z18 => k_is)
    (case z19 => k_is)
    (case y19 => k_is)
    (case b1 => k_is)
    (case b2 => k_is)
    (case b3 => k_is)
    (case b4 => k_is)
    (case b5 => k_is)
    (case b6 => k_is)
    (case b7 => k_is)
  case S =>
    intro K H xs a hO hwi hask hx
    cases hx with
    | cons h1 h2 =>
      cases h2
      cases h1 with
      | lst hs ha =>
        have e := L2.ints_dw a.1 _ ha
        subst e
        have q : ((Codec.inLen 0 5300 a.1 && a.1.all (Codec.inInt 0 4294967295)) && true) = true := hwi
        rw [Bool.and_eq_true, Bool.and_eq_true] at q
        have hk : PySy69.answers_asked a.1 = true := hask
        obtain ⟨ds, e1, e2, e3, e4, e5⟩ := Bs.asked_calls hk
        refine ⟨_, a.1, ds, rfl, hs, e1, Nat.le_trans (Codec.inNat_iff.mp q.1.1).2 (by decide), e5, fun H' p hp => ?_⟩
        show L2.Dw K H' _ (WData.list ((PySy69.answers a.1).map WData.int))
        rw [e4]
        exact .lst (L2.SqL.of hp) (L2.dw_ints _)

