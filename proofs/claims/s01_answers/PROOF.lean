import PyProof.Rows.All
import Wide.All
import OpenK.AllK
import Wide.FinOn
import Open.SpecLaws
import KE.OsGo
import HandS.ForSpec
import HandS.ForMost
import HandS.TryMany
import HandS.SetKeys
import HandS.FStr
import HandS.StrMore
import HandS.Rev
import HandS.Zip
import HandS.SortInts
import HandS.ExcInit
import HandS.Codes
import HandS.Flow
import HandS.TupAny
import VapcmaSpec
import VapcmBaseSpec
import HandS.Walk
import KE.IntTextLaws
import HandS.ExcField
import HandS.Deep
import PyProof.AutoSeq1
import KE.KDictZip
import KE.KItemsList
import HandS.More
import HandS.ExcOwn
import PyVapcmb
import VapcmbSpec
import PySem.Challenge.RW_shortproofs_s01_answers
set_option Elab.async false
set_option autoImplicit false
set_option linter.all false
section
set_option maxRecDepth 100000
set_option maxHeartbeats 4000000
/-! the program's defs, their slots, what the top has written of them -/
namespace Shp
open PySem PySem.Spec PyProof.Rows L2
def topS (i : Nat) : Stmt := PySem.Challenge.pw_shortproofs_s01_answers.main.body.getD i (.Pass ⟨0, 0, 0, 0⟩)
abbrev s_Fault___init__ : Stmt := inClass (topS 9) 0
abbrev N_Fault___init__ : List Str := ["self", "code", "place"]
abbrev P_Fault___init__ : List Str := ["self", "code", "place"]
theorem sc_Fault___init__ : FnScope N_Fault___init__ P_Fault___init__ (defScope s_Fault___init__) := ⟨rfl, rfl, rfl, by decide +kernel, rfl, by decide +kernel, by decide +kernel⟩
abbrev s_part_end : Stmt := topS 14
abbrev N_part_end : List Str := ["formula", "place", "missing"]
abbrev P_part_end : List Str := ["formula", "place"]
theorem sc_part_end : FnScope N_part_end P_part_end (defScope s_part_end) := ⟨rfl, rfl, rfl, by decide +kernel, rfl, by decide +kernel, by decide +kernel⟩
abbrev s_is_instance : Stmt := topS 15
abbrev N_is_instance : List Str := ["formula", "general", "put", "place", "sign", "end", "part"]
abbrev P_is_instance : List Str := ["formula", "general"]
theorem sc_is_instance : FnScope N_is_instance P_is_instance (defScope s_is_instance) := ⟨rfl, rfl, rfl, by decide +kernel, rfl, by decide +kernel, by decide +kernel⟩
abbrev s_bracketed : Stmt := topS 16
abbrev N_bracketed : List Str := ["part", "form"]
abbrev P_bracketed : List Str := ["part"]
theorem sc_bracketed : FnScope N_bracketed P_bracketed (defScope s_bracketed) := ⟨rfl, rfl, rfl, by decide +kernel, rfl, by decide +kernel, by decide +kernel⟩
abbrev s_formula_form : Stmt := topS 17
abbrev N_formula_form : List Str := ["formula", "parts", "sign", "first", "second", "denied", "number"]
abbrev P_formula_form : List Str := ["formula"]
theorem sc_formula_form : FnScope N_formula_form P_formula_form (defScope s_formula_form) := ⟨rfl, rfl, rfl, by decide +kernel, rfl, by decide +kernel, by decide +kernel⟩
abbrev s_Nodes___init__ : Stmt := inClass (topS 21) 0
abbrev N_Nodes___init__ : List Str := ["self"]
abbrev P_Nodes___init__ : List Str := ["self"]
theorem sc_Nodes___init__ : FnScope N_Nodes___init__ P_Nodes___init__ (defScope s_Nodes___init__) := ⟨rfl, rfl, rfl, by decide +kernel, rfl, by decide +kernel, by decide +kernel⟩
abbrev s_Nodes_add_node : Stmt := inClass (topS 21) 1
abbrev N_Nodes_add_node : List Str := ["self", "sign", "parts"]
abbrev P_Nodes_add_node : List Str := ["self", "sign", "parts"]
theorem sc_Nodes_add_node : FnScope N_Nodes_add_node P_Nodes_add_node (defScope s_Nodes_add_node) := ⟨rfl, rfl, rfl, by decide +kernel, rfl, by decide +kernel, by decide +kernel⟩
abbrev s_Nodes_add_formula : Stmt := inClass (topS 21) 2
abbrev N_Nodes_add_formula : List Str := ["self", "formula", "unknowns", "above", "sign", "first", "second"]
abbrev P_Nodes_add_formula : List Str := ["self", "formula"]
theorem sc_Nodes_add_formula : FnScope N_Nodes_add_formula P_Nodes_add_formula (defScope s_Nodes_add_formula) := ⟨rfl, rfl, rfl, by decide +kernel, rfl, by decide +kernel, by decide +kernel⟩
abbrev s_Nodes_leader : Stmt := inClass (topS 21) 3
abbrev N_Nodes_leader : List Str := ["self", "node"]
abbrev P_Nodes_leader : List Str := ["self", "node"]
theorem sc_Nodes_leader : FnScope N_Nodes_leader P_Nodes_leader (defScope s_Nodes_leader) := ⟨rfl, rfl, rfl, by decide +kernel, rfl, by decide +kernel, by decide +kernel⟩
abbrev s_Nodes_part_leaders : Stmt := inClass (topS 21) 4
abbrev N_Nodes_part_leaders : List Str := ["self", "node", "part"]
abbrev P_Nodes_part_leaders : List Str := ["self", "node"]
theorem sc_Nodes_part_leaders : FnScope N_Nodes_part_leaders P_Nodes_part_leaders (defScope s_Nodes_part_leaders) := ⟨rfl, rfl, rfl, by decide +kernel, rfl, by decide +kernel, by decide +kernel⟩
abbrev s_Nodes_make_same : Stmt := inClass (topS 21) 5
abbrev N_Nodes_make_same : List Str := ["self", "first", "second", "waiting", "pair", "one", "other"]
abbrev P_Nodes_make_same : List Str := ["self", "first", "second"]
theorem sc_Nodes_make_same : FnScope N_Nodes_make_same P_Nodes_make_same (defScope s_Nodes_make_same) := ⟨rfl, rfl, rfl, by decide +kernel, rfl, by decide +kernel, by decide +kernel⟩
abbrev s_Nodes_sign_count : Stmt := inClass (topS 21) 6
abbrev N_Nodes_sign_count : List Str := ["self", "node", "top", "counts", "begun", "waiting", "here", "parts", "missing", "part"]
abbrev P_Nodes_sign_count : List Str := ["self", "node"]
theorem sc_Nodes_sign_count : FnScope N_Nodes_sign_count P_Nodes_sign_count (defScope s_Nodes_sign_count) := ⟨rfl, rfl, rfl, by decide +kernel, rfl, by decide +kernel, by decide +kernel⟩
abbrev s_Nodes_written : Stmt := inClass (topS 21) 7
abbrev N_Nodes_written : List Str := ["self", "node", "formula", "unknowns", "waiting", "here", "part"]
abbrev P_Nodes_written : List Str := ["self", "node"]
theorem sc_Nodes_written : FnScope N_Nodes_written P_Nodes_written (defScope s_Nodes_written) := ⟨rfl, rfl, rfl, by decide +kernel, rfl, by decide +kernel, by decide +kernel⟩
abbrev s_detached : Stmt := topS 22
abbrev N_detached : List Str := ["first", "second", "nodes", "implication", "on_the_way"]
abbrev P_detached : List Str := ["first", "second"]
theorem sc_detached : FnScope N_detached P_detached (defScope s_detached) := ⟨rfl, rfl, rfl, by decide +kernel, rfl, by decide +kernel, by decide +kernel⟩
abbrev s_Text___init__ : Stmt := inClass (topS 24) 0
abbrev N_Text___init__ : List Str := ["self"]
abbrev P_Text___init__ : List Str := ["self"]
theorem sc_Text___init__ : FnScope N_Text___init__ P_Text___init__ (defScope s_Text___init__) := ⟨rfl, rfl, rfl, by decide +kernel, rfl, by decide +kernel, by decide +kernel⟩
abbrev s_Text_add_item : Stmt := inClass (topS 24) 1
abbrev N_Text_add_item : List Str := ["self", "name", "source", "formula"]
abbrev P_Text_add_item : List Str := ["self", "name", "source", "formula"]
theorem sc_Text_add_item : FnScope N_Text_add_item P_Text_add_item (defScope s_Text_add_item) := ⟨rfl, rfl, rfl, by decide +kernel, rfl, by decide +kernel, by decide +kernel⟩
abbrev s_Text_has_item : Stmt := inClass (topS 24) 2
abbrev N_Text_has_item : List Str := ["self", "number"]
abbrev P_Text_has_item : List Str := ["self", "number"]
theorem sc_Text_has_item : FnScope N_Text_has_item P_Text_has_item (defScope s_Text_has_item) := ⟨rfl, rfl, rfl, by decide +kernel, rfl, by decide +kernel, by decide +kernel⟩
abbrev s_Text_has_items : Stmt := inClass (topS 24) 3
abbrev N_Text_has_items : List Str := ["self", "numbers", "number"]
abbrev P_Text_has_items : List Str := ["self", "numbers"]
theorem sc_Text_has_items : FnScope N_Text_has_items P_Text_has_items (defScope s_Text_has_items) := ⟨rfl, rfl, rfl, by decide +kernel, rfl, by decide +kernel, by decide +kernel⟩
abbrev s_Text_axiom_count : Stmt := inClass (topS 24) 4
abbrev N_Text_axiom_count : List Str := ["self"]
abbrev P_Text_axiom_count : List Str := ["self"]
theorem sc_Text_axiom_count : FnScope N_Text_axiom_count P_Text_axiom_count (defScope s_Text_axiom_count) := ⟨rfl, rfl, rfl, by decide +kernel, rfl, by decide +kernel, by decide +kernel⟩
abbrev s_Text_row_count : Stmt := inClass (topS 24) 5
abbrev N_Text_row_count : List Str := ["self"]
abbrev P_Text_row_count : List Str := ["self"]
theorem sc_Text_row_count : FnScope N_Text_row_count P_Text_row_count (defScope s_Text_row_count) := ⟨rfl, rfl, rfl, by decide +kernel, rfl, by decide +kernel, by decide +kernel⟩
abbrev s_Text_detached_from : Stmt := inClass (topS 24) 6
abbrev N_Text_detached_from : List Str := ["self", "source", "first", "second"]
abbrev P_Text_detached_from : List Str := ["self", "source"]
theorem sc_Text_detached_from : FnScope N_Text_detached_from P_Text_detached_from (defScope s_Text_detached_from) := ⟨rfl, rfl, rfl, by decide +kernel, rfl, by decide +kernel, by decide +kernel⟩
abbrev s_first_with_instance : Stmt := topS 25
abbrev N_first_with_instance : List Str := ["text", "formula", "number", "general"]
abbrev P_first_with_instance : List Str := ["text", "formula"]
theorem sc_first_with_instance : FnScope N_first_with_instance P_first_with_instance (defScope s_first_with_instance) := ⟨rfl, rfl, rfl, by decide +kernel, rfl, by decide +kernel, by decide +kernel⟩
abbrev s_targets : Stmt := topS 26
abbrev N_targets : List Str := ["text", "found", "goal", "number"]
abbrev P_targets : List Str := ["text"]
theorem sc_targets : FnScope N_targets P_targets (defScope s_targets) := ⟨rfl, rfl, rfl, by decide +kernel, rfl, by decide +kernel, by decide +kernel⟩
abbrev s_needed_rows : Stmt := topS 27
abbrev N_needed_rows : List Str := ["text", "items", "needed", "waiting", "item"]
abbrev P_needed_rows : List Str := ["text", "items"]
theorem sc_needed_rows : FnScope N_needed_rows P_needed_rows (defScope s_needed_rows) := ⟨rfl, rfl, rfl, by decide +kernel, rfl, by decide +kernel, by decide +kernel⟩
abbrev s_target_steps : Stmt := topS 28
abbrev N_target_steps : List Str := ["text", "steps", "source", "target"]
abbrev P_target_steps : List Str := ["text"]
theorem sc_target_steps : FnScope N_target_steps P_target_steps (defScope s_target_steps) := ⟨rfl, rfl, rfl, by decide +kernel, rfl, by decide +kernel, by decide +kernel⟩
abbrev s_item_form : Stmt := topS 29
abbrev N_item_form : List Str := ["text", "number", "name", "source", "formula", "first", "second"]
abbrev P_item_form : List Str := ["text", "number"]
theorem sc_item_form : FnScope N_item_form P_item_form (defScope s_item_form) := ⟨rfl, rfl, rfl, by decide +kernel, rfl, by decide +kernel, by decide +kernel⟩
abbrev s_goal_form : Stmt := topS 30
abbrev N_goal_form : List Str := ["goal", "formula"]
abbrev P_goal_form : List Str := ["goal"]
theorem sc_goal_form : FnScope N_goal_form P_goal_form (defScope s_goal_form) := ⟨rfl, rfl, rfl, by decide +kernel, rfl, by decide +kernel, by decide +kernel⟩
abbrev s_one_form : Stmt := topS 31
abbrev N_one_form : List Str := ["text", "lines", "number", "sign", "goal"]
abbrev P_one_form : List Str := ["text"]
theorem sc_one_form : FnScope N_one_form P_one_form (defScope s_one_form) := ⟨rfl, rfl, rfl, by decide +kernel, rfl, by decide +kernel, by decide +kernel⟩
abbrev s_has_bit : Stmt := topS 33
abbrev N_has_bit : List Str := ["bits", "bit"]
abbrev P_has_bit : List Str := ["bits", "bit"]
theorem sc_has_bit : FnScope N_has_bit P_has_bit (defScope s_has_bit) := ⟨rfl, rfl, rfl, by decide +kernel, rfl, by decide +kernel, by decide +kernel⟩
abbrev s_with_bit : Stmt := topS 34
abbrev N_with_bit : List Str := ["bits", "bit"]
abbrev P_with_bit : List Str := ["bits", "bit"]
theorem sc_with_bit : FnScope N_with_bit P_with_bit (defScope s_with_bit) := ⟨rfl, rfl, rfl, by decide +kernel, rfl, by decide +kernel, by decide +kernel⟩
abbrev s_all_within : Stmt := topS 35
abbrev N_all_within : List Str := ["bits", "others"]
abbrev P_all_within : List Str := ["bits", "others"]
theorem sc_all_within : FnScope N_all_within P_all_within (defScope s_all_within) := ⟨rfl, rfl, rfl, by decide +kernel, rfl, by decide +kernel, by decide +kernel⟩
abbrev s_bits_of : Stmt := topS 36
abbrev N_bits_of : List Str := ["rows", "chosen", "bits", "bit", "row"]
abbrev P_bits_of : List Str := ["rows", "chosen"]
theorem sc_bits_of : FnScope N_bits_of P_bits_of (defScope s_bits_of) := ⟨rfl, rfl, rfl, by decide +kernel, rfl, by decide +kernel, by decide +kernel⟩
abbrev s_rows_detached_from : Stmt := topS 37
abbrev N_rows_detached_from : List Str := ["text", "rows", "item", "row"]
abbrev P_rows_detached_from : List Str := ["text", "rows", "item"]
theorem sc_rows_detached_from : FnScope N_rows_detached_from P_rows_detached_from (defScope s_rows_detached_from) := ⟨rfl, rfl, rfl, by decide +kernel, rfl, by decide +kernel, by decide +kernel⟩
abbrev s_NeededRows___init__ : Stmt := inClass (topS 38) 0
abbrev N_NeededRows___init__ : List Str := ["self", "text", "wished", "rows", "row"]
abbrev P_NeededRows___init__ : List Str := ["self", "text", "wished"]
theorem sc_NeededRows___init__ : FnScope N_NeededRows___init__ P_NeededRows___init__ (defScope s_NeededRows___init__) := ⟨rfl, rfl, rfl, by decide +kernel, rfl, by decide +kernel, by decide +kernel⟩
abbrev s_NeededRows_can_be_next : Stmt := inClass (topS 38) 1
abbrev N_NeededRows_can_be_next : List Str := ["self", "bit", "done"]
abbrev P_NeededRows_can_be_next : List Str := ["self", "bit", "done"]
theorem sc_NeededRows_can_be_next : FnScope N_NeededRows_can_be_next P_NeededRows_can_be_next (defScope s_NeededRows_can_be_next) := ⟨rfl, rfl, rfl, by decide +kernel, rfl, by decide +kernel, by decide +kernel⟩
abbrev s_NeededRows_next_bits : Stmt := inClass (topS 38) 2
abbrev N_NeededRows_next_bits : List Str := ["self", "done", "bit"]
abbrev P_NeededRows_next_bits : List Str := ["self", "done"]
theorem sc_NeededRows_next_bits : FnScope N_NeededRows_next_bits P_NeededRows_next_bits (defScope s_NeededRows_next_bits) := ⟨rfl, rfl, rfl, by decide +kernel, rfl, by decide +kernel, by decide +kernel⟩
abbrev s_NeededRows_is_held : Stmt := inClass (topS 38) 3
abbrev N_NeededRows_is_held : List Str := ["self", "bit", "done"]
abbrev P_NeededRows_is_held : List Str := ["self", "bit", "done"]
theorem sc_NeededRows_is_held : FnScope N_NeededRows_is_held P_NeededRows_is_held (defScope s_NeededRows_is_held) := ⟨rfl, rfl, rfl, by decide +kernel, rfl, by decide +kernel, by decide +kernel⟩
abbrev s_NeededRows_places_taken : Stmt := inClass (topS 38) 4
abbrev N_NeededRows_places_taken : List Str := ["self", "done", "held", "bit"]
abbrev P_NeededRows_places_taken : List Str := ["self", "done"]
theorem sc_NeededRows_places_taken : FnScope N_NeededRows_places_taken P_NeededRows_places_taken (defScope s_NeededRows_places_taken) := ⟨rfl, rfl, rfl, by decide +kernel, rfl, by decide +kernel, by decide +kernel⟩
abbrev s_peak_of : Stmt := topS 39
abbrev N_peak_of : List Str := ["needed", "order", "done", "peak", "row", "bit"]
abbrev P_peak_of : List Str := ["needed", "order"]
theorem sc_peak_of : FnScope N_peak_of P_peak_of (defScope s_peak_of) := ⟨rfl, rfl, rfl, by decide +kernel, rfl, by decide +kernel, by decide +kernel⟩
abbrev s_least_peaks : Stmt := topS 40
abbrev N_least_peaks : List Str := ["needed", "every", "peaks", "done", "behind", "bit"]
abbrev P_least_peaks : List Str := ["needed"]
theorem sc_least_peaks : FnScope N_least_peaks P_least_peaks (defScope s_least_peaks) := ⟨rfl, rfl, rfl, by decide +kernel, rfl, by decide +kernel, by decide +kernel⟩
abbrev s_first_order : Stmt := topS 41
abbrev N_first_order : List Str := ["needed", "peaks", "order", "done", "fitting", "bit"]
abbrev P_first_order : List Str := ["needed", "peaks"]
theorem sc_first_order : FnScope N_first_order P_first_order (defScope s_first_order) := ⟨rfl, rfl, rfl, by decide +kernel, rfl, by decide +kernel, by decide +kernel⟩
abbrev s_as_signs : Stmt := topS 54
abbrev N_as_signs : List Str := ["text", "signs", "sign", "byte"]
abbrev P_as_signs : List Str := ["text"]
theorem sc_as_signs : FnScope N_as_signs P_as_signs (defScope s_as_signs) := ⟨rfl, rfl, rfl, by decide +kernel, rfl, by decide +kernel, by decide +kernel⟩
abbrev s_remark_end : Stmt := topS 55
abbrev N_remark_end : List Str := ["signs", "place", "end"]
abbrev P_remark_end : List Str := ["signs", "place"]
theorem sc_remark_end : FnScope N_remark_end P_remark_end (defScope s_remark_end) := ⟨rfl, rfl, rfl, by decide +kernel, rfl, by decide +kernel, by decide +kernel⟩
abbrev s_token_place : Stmt := topS 56
abbrev N_token_place : List Str := ["signs", "place"]
abbrev P_token_place : List Str := ["signs", "place"]
theorem sc_token_place : FnScope N_token_place P_token_place (defScope s_token_place) := ⟨rfl, rfl, rfl, by decide +kernel, rfl, by decide +kernel, by decide +kernel⟩
abbrev s_token_end : Stmt := topS 57
abbrev N_token_end : List Str := ["signs", "place", "end"]
abbrev P_token_end : List Str := ["signs", "place"]
theorem sc_token_end : FnScope N_token_end P_token_end (defScope s_token_end) := ⟨rfl, rfl, rfl, by decide +kernel, rfl, by decide +kernel, by decide +kernel⟩
abbrev s_is_number : Stmt := topS 58
abbrev N_is_number : List Str := ["word"]
abbrev P_is_number : List Str := ["word"]
theorem sc_is_number : FnScope N_is_number P_is_number (defScope s_is_number) := ⟨rfl, rfl, rfl, by decide +kernel, rfl, by decide +kernel, by decide +kernel⟩
abbrev s_is_token : Stmt := topS 59
abbrev N_is_token : List Str := ["word"]
abbrev P_is_token : List Str := ["word"]
theorem sc_is_token : FnScope N_is_token P_is_token (defScope s_is_token) := ⟨rfl, rfl, rfl, by decide +kernel, rfl, by decide +kernel, by decide +kernel⟩
abbrev s_is_name : Stmt := topS 60
abbrev N_is_name : List Str := ["word"]
abbrev P_is_name : List Str := ["word"]
theorem sc_is_name : FnScope N_is_name P_is_name (defScope s_is_name) := ⟨rfl, rfl, rfl, by decide +kernel, rfl, by decide +kernel, by decide +kernel⟩
abbrev s_tokens_of : Stmt := topS 61
abbrev N_tokens_of : List Str := ["text", "signs", "tokens", "place", "end", "word"]
abbrev P_tokens_of : List Str := ["text"]
theorem sc_tokens_of : FnScope N_tokens_of P_tokens_of (defScope s_tokens_of) := ⟨rfl, rfl, rfl, by decide +kernel, rfl, by decide +kernel, by decide +kernel⟩
abbrev s_Reader___init__ : Stmt := inClass (topS 69) 0
abbrev N_Reader___init__ : List Str := ["self", "tokens"]
abbrev P_Reader___init__ : List Str := ["self", "tokens"]
theorem sc_Reader___init__ : FnScope N_Reader___init__ P_Reader___init__ (defScope s_Reader___init__) := ⟨rfl, rfl, rfl, by decide +kernel, rfl, by decide +kernel, by decide +kernel⟩
abbrev s_Reader_word : Stmt := inClass (topS 69) 1
abbrev N_Reader_word : List Str := ["self"]
abbrev P_Reader_word : List Str := ["self"]
theorem sc_Reader_word : FnScope N_Reader_word P_Reader_word (defScope s_Reader_word) := ⟨rfl, rfl, rfl, by decide +kernel, rfl, by decide +kernel, by decide +kernel⟩
abbrev s_Reader_here : Stmt := inClass (topS 69) 2
abbrev N_Reader_here : List Str := ["self"]
abbrev P_Reader_here : List Str := ["self"]
theorem sc_Reader_here : FnScope N_Reader_here P_Reader_here (defScope s_Reader_here) := ⟨rfl, rfl, rfl, by decide +kernel, rfl, by decide +kernel, by decide +kernel⟩
abbrev s_Reader_take : Stmt := inClass (topS 69) 3
abbrev N_Reader_take : List Str := ["self", "word"]
abbrev P_Reader_take : List Str := ["self", "word"]
theorem sc_Reader_take : FnScope N_Reader_take P_Reader_take (defScope s_Reader_take) := ⟨rfl, rfl, rfl, by decide +kernel, rfl, by decide +kernel, by decide +kernel⟩
abbrev s_Reader_take_name : Stmt := inClass (topS 69) 4
abbrev N_Reader_take_name : List Str := ["self", "name"]
abbrev P_Reader_take_name : List Str := ["self"]
theorem sc_Reader_take_name : FnScope N_Reader_take_name P_Reader_take_name (defScope s_Reader_take_name) := ⟨rfl, rfl, rfl, by decide +kernel, rfl, by decide +kernel, by decide +kernel⟩
abbrev s_Reader_take_nesting : Stmt := inClass (topS 69) 5
abbrev N_Reader_take_nesting : List Str := ["self", "word", "within"]
abbrev P_Reader_take_nesting : List Str := ["self", "word", "within"]
theorem sc_Reader_take_nesting : FnScope N_Reader_take_nesting P_Reader_take_nesting (defScope s_Reader_take_nesting) := ⟨rfl, rfl, rfl, by decide +kernel, rfl, by decide +kernel, by decide +kernel⟩
abbrev s_read_part : Stmt := topS 70
abbrev N_read_part : List Str := ["reader", "unknowns", "within", "inner", "name"]
abbrev P_read_part : List Str := ["reader", "unknowns", "within"]
theorem sc_read_part : FnScope N_read_part P_read_part (defScope s_read_part) := ⟨rfl, rfl, rfl, by decide +kernel, rfl, by decide +kernel, by decide +kernel⟩
abbrev s_read_signs : Stmt := topS 71
abbrev N_read_signs : List Str := ["reader", "unknowns", "within", "first"]
abbrev P_read_signs : List Str := ["reader", "unknowns", "within"]
theorem sc_read_signs : FnScope N_read_signs P_read_signs (defScope s_read_signs) := ⟨rfl, rfl, rfl, by decide +kernel, rfl, by decide +kernel, by decide +kernel⟩
abbrev s_read_formula : Stmt := topS 72
abbrev N_read_formula : List Str := ["reader", "place", "signs"]
abbrev P_read_formula : List Str := ["reader"]
theorem sc_read_formula : FnScope N_read_formula P_read_formula (defScope s_read_formula) := ⟨rfl, rfl, rfl, by decide +kernel, rfl, by decide +kernel, by decide +kernel⟩
abbrev s_read_new_name : Stmt := topS 73
abbrev N_read_new_name : List Str := ["reader", "text", "place", "name"]
abbrev P_read_new_name : List Str := ["reader", "text"]
theorem sc_read_new_name : FnScope N_read_new_name P_read_new_name (defScope s_read_new_name) := ⟨rfl, rfl, rfl, by decide +kernel, rfl, by decide +kernel, by decide +kernel⟩
abbrev s_read_item : Stmt := topS 74
abbrev N_read_item : List Str := ["reader", "text", "place", "name"]
abbrev P_read_item : List Str := ["reader", "text"]
theorem sc_read_item : FnScope N_read_item P_read_item (defScope s_read_item) := ⟨rfl, rfl, rfl, by decide +kernel, rfl, by decide +kernel, by decide +kernel⟩
abbrev s_begins : Stmt := topS 75
abbrev N_begins : List Str := ["reader", "word", "told", "most"]
abbrev P_begins : List Str := ["reader", "word", "told", "most"]
theorem sc_begins : FnScope N_begins P_begins (defScope s_begins) := ⟨rfl, rfl, rfl, by decide +kernel, rfl, by decide +kernel, by decide +kernel⟩
abbrev s_read_axioms : Stmt := topS 76
abbrev N_read_axioms : List Str := ["reader", "text", "name"]
abbrev P_read_axioms : List Str := ["reader", "text"]
theorem sc_read_axioms : FnScope N_read_axioms P_read_axioms (defScope s_read_axioms) := ⟨rfl, rfl, rfl, by decide +kernel, rfl, by decide +kernel, by decide +kernel⟩
abbrev s_read_rows : Stmt := topS 77
abbrev N_read_rows : List Str := ["reader", "text", "name", "first", "source"]
abbrev P_read_rows : List Str := ["reader", "text"]
theorem sc_read_rows : FnScope N_read_rows P_read_rows (defScope s_read_rows) := ⟨rfl, rfl, rfl, by decide +kernel, rfl, by decide +kernel, by decide +kernel⟩
abbrev s_read_goals : Stmt := topS 78
abbrev N_read_goals : List Str := ["reader", "text"]
abbrev P_read_goals : List Str := ["reader", "text"]
theorem sc_read_goals : FnScope N_read_goals P_read_goals (defScope s_read_goals) := ⟨rfl, rfl, rfl, by decide +kernel, rfl, by decide +kernel, by decide +kernel⟩
abbrev s_read_text : Stmt := topS 79
abbrev N_read_text : List Str := ["told", "reader", "text"]
abbrev P_read_text : List Str := ["told"]
theorem sc_read_text : FnScope N_read_text P_read_text (defScope s_read_text) := ⟨rfl, rfl, rfl, by decide +kernel, rfl, by decide +kernel, by decide +kernel⟩
abbrev s_merge_row : Stmt := topS 81
abbrev N_merge_row : List Str := ["text", "number", "become", "result", "source", "first", "second", "formula", "earlier"]
abbrev P_merge_row : List Str := ["text", "number", "become", "result"]
theorem sc_merge_row : FnScope N_merge_row P_merge_row (defScope s_merge_row) := ⟨rfl, rfl, rfl, by decide +kernel, rfl, by decide +kernel, by decide +kernel⟩
abbrev s_merged : Stmt := topS 82
abbrev N_merged : List Str := ["text", "result", "become", "number", "source"]
abbrev P_merged : List Str := ["text"]
theorem sc_merged : FnScope N_merged P_merged (defScope s_merged) := ⟨rfl, rfl, rfl, by decide +kernel, rfl, by decide +kernel, by decide +kernel⟩
abbrev s_with_rows_alone : Stmt := topS 83
abbrev N_with_rows_alone : List Str := ["text", "rows", "result", "become", "number", "source", "new_source"]
abbrev P_with_rows_alone : List Str := ["text", "rows"]
theorem sc_with_rows_alone : FnScope N_with_rows_alone P_with_rows_alone (defScope s_with_rows_alone) := ⟨rfl, rfl, rfl, by decide +kernel, rfl, by decide +kernel, by decide +kernel⟩
abbrev s_shortened : Stmt := topS 84
abbrev N_shortened : List Str := ["text", "short"]
abbrev P_shortened : List Str := ["text"]
theorem sc_shortened : FnScope N_shortened P_shortened (defScope s_shortened) := ⟨rfl, rfl, rfl, by decide +kernel, rfl, by decide +kernel, by decide +kernel⟩
abbrev s_form_told : Stmt := topS 96
abbrev N_form_told : List Str := ["text", "form"]
abbrev P_form_told : List Str := ["text"]
theorem sc_form_told : FnScope N_form_told P_form_told (defScope s_form_told) := ⟨rfl, rfl, rfl, by decide +kernel, rfl, by decide +kernel, by decide +kernel⟩
abbrev s_Holder___init__ : Stmt := inClass (topS 97) 0
abbrev N_Holder___init__ : List Str := ["self"]
abbrev P_Holder___init__ : List Str := ["self"]
theorem sc_Holder___init__ : FnScope N_Holder___init__ P_Holder___init__ (defScope s_Holder___init__) := ⟨rfl, rfl, rfl, by decide +kernel, rfl, by decide +kernel, by decide +kernel⟩
abbrev s_Holder_load : Stmt := inClass (topS 97) 1
abbrev N_Holder_load : List Str := ["self", "told", "text", "fault"]
abbrev P_Holder_load : List Str := ["self", "told"]
theorem sc_Holder_load : FnScope N_Holder_load P_Holder_load (defScope s_Holder_load) := ⟨rfl, rfl, rfl, by decide +kernel, rfl, by decide +kernel, by decide +kernel⟩
abbrev s_Holder_shown : Stmt := inClass (topS 97) 2
abbrev N_Holder_shown : List Str := ["self"]
abbrev P_Holder_shown : List Str := ["self"]
theorem sc_Holder_shown : FnScope N_Holder_shown P_Holder_shown (defScope s_Holder_shown) := ⟨rfl, rfl, rfl, by decide +kernel, rfl, by decide +kernel, by decide +kernel⟩
abbrev s_Holder_prune : Stmt := inClass (topS 97) 3
abbrev N_Holder_prune : List Str := ["self", "items", "rows"]
abbrev P_Holder_prune : List Str := ["self", "items"]
theorem sc_Holder_prune : FnScope N_Holder_prune P_Holder_prune (defScope s_Holder_prune) := ⟨rfl, rfl, rfl, by decide +kernel, rfl, by decide +kernel, by decide +kernel⟩
abbrev s_Holder_general : Stmt := inClass (topS 97) 4
abbrev N_Holder_general : List Str := ["self", "item", "formula"]
abbrev P_Holder_general : List Str := ["self", "item"]
theorem sc_Holder_general : FnScope N_Holder_general P_Holder_general (defScope s_Holder_general) := ⟨rfl, rfl, rfl, by decide +kernel, rfl, by decide +kernel, by decide +kernel⟩
abbrev s_Holder_shorten : Stmt := inClass (topS 97) 5
abbrev N_Holder_shorten : List Str := ["self", "short", "answer", "source"]
abbrev P_Holder_shorten : List Str := ["self"]
theorem sc_Holder_shorten : FnScope N_Holder_shorten P_Holder_shorten (defScope s_Holder_shorten) := ⟨rfl, rfl, rfl, by decide +kernel, rfl, by decide +kernel, by decide +kernel⟩
abbrev s_Holder_short : Stmt := inClass (topS 97) 6
abbrev N_Holder_short : List Str := ["self"]
abbrev P_Holder_short : List Str := ["self"]
theorem sc_Holder_short : FnScope N_Holder_short P_Holder_short (defScope s_Holder_short) := ⟨rfl, rfl, rfl, by decide +kernel, rfl, by decide +kernel, by decide +kernel⟩
abbrev s_Holder_order : Stmt := inClass (topS 97) 7
abbrev N_Holder_order : List Str := ["self", "wished", "order", "peak"]
abbrev P_Holder_order : List Str := ["self", "wished", "order"]
theorem sc_Holder_order : FnScope N_Holder_order P_Holder_order (defScope s_Holder_order) := ⟨rfl, rfl, rfl, by decide +kernel, rfl, by decide +kernel, by decide +kernel⟩
abbrev s_Holder_least : Stmt := inClass (topS 97) 8
abbrev N_Holder_least : List Str := ["self", "wished", "needed", "peaks"]
abbrev P_Holder_least : List Str := ["self", "wished"]
theorem sc_Holder_least : FnScope N_Holder_least P_Holder_least (defScope s_Holder_least) := ⟨rfl, rfl, rfl, by decide +kernel, rfl, by decide +kernel, by decide +kernel⟩
abbrev s_Holder_totals : Stmt := inClass (topS 97) 9
abbrev N_Holder_totals : List Str := ["self", "found"]
abbrev P_Holder_totals : List Str := ["self"]
theorem sc_Holder_totals : FnScope N_Holder_totals P_Holder_totals (defScope s_Holder_totals) := ⟨rfl, rfl, rfl, by decide +kernel, rfl, by decide +kernel, by decide +kernel⟩
abbrev s_parted : Stmt := topS 98
abbrev N_parted : List Str := ["calls", "each", "at", "number", "shape", "begin", "arguments"]
abbrev P_parted : List Str := ["calls"]
theorem sc_parted : FnScope N_parted P_parted (defScope s_parted) := ⟨rfl, rfl, rfl, by decide +kernel, rfl, by decide +kernel, by decide +kernel⟩
abbrev s_answer_one : Stmt := topS 99
abbrev N_answer_one : List Str := ["holder", "number", "arguments"]
abbrev P_answer_one : List Str := ["holder", "number", "arguments"]
theorem sc_answer_one : FnScope N_answer_one P_answer_one (defScope s_answer_one) := ⟨rfl, rfl, rfl, by decide +kernel, rfl, by decide +kernel, by decide +kernel⟩
abbrev s_answers : Stmt := topS 100
abbrev N_answers : List Str := ["calls", "holder", "told", "call", "answer"]
abbrev P_answers : List Str := ["calls"]
theorem sc_answers : FnScope N_answers P_answers (defScope s_answers) := ⟨rfl, rfl, rfl, by decide +kernel, rfl, by decide +kernel, by decide +kernel⟩
/-- a def of the top -/
structure DefAt (K : PySem.W.Frag) (mg : Str → Option Value) (x : Str) (st : Stmt) (ps : List Str) where
  f : Addr
  fd : FuncData
  F : Fun K x x st f fd
  mg : mg x = some (.ref f)
  b : Binds K fd ps []
/-- a method -/
structure MethAt (K : PySem.W.Frag) (C : Addr) (x qual : Str) (st : Stmt) (ps : List Str) where
  f : Addr
  fd : FuncData
  F : Fun K x qual st f fd
  m : Meth K C x f
  b : Binds K fd ps []
/-- a class's own __init__ -/
structure InitAt (K : PySem.W.Frag) (C : Addr) (qual : Str) (st : Stmt) (ps : List Str) where
  f : Addr
  fd : FuncData
  F : Fun K "__init__" qual st f fd
  M : Mk K C f
  b : Binds K fd ps []
theorem relI {i : Int} {t : Tok} : RelV (.int i) (.int i t) := ⟨t, rfl⟩
theorem relS {x : Str} {t : Tok} : RelV (.str x) (.str x t) := ⟨t, rfl⟩
structure Top (K : PySem.W.Frag) (mg : Str → Option Value) where
  C_Fault : Addr
  mg_Fault : mg "Fault" = some (.ref C_Fault)
  C_Nodes : Addr
  mg_Nodes : mg "Nodes" = some (.ref C_Nodes)
  cl_Nodes : Cls K C_Nodes
  n_Nodes_signs : NoAttr K C_Nodes "signs"
  n_Nodes_parts : NoAttr K C_Nodes "parts"
  n_Nodes_joined : NoAttr K C_Nodes "joined"
  m_Nodes___init__ : InitAt K C_Nodes "Nodes.__init__" s_Nodes___init__ P_Nodes___init__
  m_Nodes_add_node : MethAt K C_Nodes "add_node" "Nodes.add_node" s_Nodes_add_node P_Nodes_add_node
  m_Nodes_add_formula : MethAt K C_Nodes "add_formula" "Nodes.add_formula" s_Nodes_add_formula P_Nodes_add_formula
  m_Nodes_leader : MethAt K C_Nodes "leader" "Nodes.leader" s_Nodes_leader P_Nodes_leader
  m_Nodes_part_leaders : MethAt K C_Nodes "part_leaders" "Nodes.part_leaders" s_Nodes_part_leaders P_Nodes_part_leaders
  m_Nodes_make_same : MethAt K C_Nodes "make_same" "Nodes.make_same" s_Nodes_make_same P_Nodes_make_same
  m_Nodes_sign_count : MethAt K C_Nodes "sign_count" "Nodes.sign_count" s_Nodes_sign_count P_Nodes_sign_count
  m_Nodes_written : MethAt K C_Nodes "written" "Nodes.written" s_Nodes_written P_Nodes_written
  C_Text : Addr
  mg_Text : mg "Text" = some (.ref C_Text)
  cl_Text : Cls K C_Text
  n_Text_names : NoAttr K C_Text "names"
  n_Text_sources : NoAttr K C_Text "sources"
  n_Text_formulas : NoAttr K C_Text "formulas"
  n_Text_goals : NoAttr K C_Text "goals"
  m_Text___init__ : InitAt K C_Text "Text.__init__" s_Text___init__ P_Text___init__
  m_Text_add_item : MethAt K C_Text "add_item" "Text.add_item" s_Text_add_item P_Text_add_item
  m_Text_has_item : MethAt K C_Text "has_item" "Text.has_item" s_Text_has_item P_Text_has_item
  m_Text_has_items : MethAt K C_Text "has_items" "Text.has_items" s_Text_has_items P_Text_has_items
  m_Text_axiom_count : MethAt K C_Text "axiom_count" "Text.axiom_count" s_Text_axiom_count P_Text_axiom_count
  m_Text_row_count : MethAt K C_Text "row_count" "Text.row_count" s_Text_row_count P_Text_row_count
  m_Text_detached_from : MethAt K C_Text "detached_from" "Text.detached_from" s_Text_detached_from P_Text_detached_from
  C_NeededRows : Addr
  mg_NeededRows : mg "NeededRows" = some (.ref C_NeededRows)
  cl_NeededRows : Cls K C_NeededRows
  n_NeededRows_rows : NoAttr K C_NeededRows "rows"
  n_NeededRows_wished : NoAttr K C_NeededRows "wished"
  n_NeededRows_sources : NoAttr K C_NeededRows "sources"
  n_NeededRows_users : NoAttr K C_NeededRows "users"
  m_NeededRows___init__ : InitAt K C_NeededRows "NeededRows.__init__" s_NeededRows___init__ P_NeededRows___init__
  m_NeededRows_can_be_next : MethAt K C_NeededRows "can_be_next" "NeededRows.can_be_next" s_NeededRows_can_be_next P_NeededRows_can_be_next
  m_NeededRows_next_bits : MethAt K C_NeededRows "next_bits" "NeededRows.next_bits" s_NeededRows_next_bits P_NeededRows_next_bits
  m_NeededRows_is_held : MethAt K C_NeededRows "is_held" "NeededRows.is_held" s_NeededRows_is_held P_NeededRows_is_held
  m_NeededRows_places_taken : MethAt K C_NeededRows "places_taken" "NeededRows.places_taken" s_NeededRows_places_taken P_NeededRows_places_taken
  C_Reader : Addr
  mg_Reader : mg "Reader" = some (.ref C_Reader)
  cl_Reader : Cls K C_Reader
  n_Reader_tokens : NoAttr K C_Reader "tokens"
  n_Reader_at : NoAttr K C_Reader "at"
  m_Reader___init__ : InitAt K C_Reader "Reader.__init__" s_Reader___init__ P_Reader___init__
  m_Reader_word : MethAt K C_Reader "word" "Reader.word" s_Reader_word P_Reader_word
  m_Reader_here : MethAt K C_Reader "here" "Reader.here" s_Reader_here P_Reader_here
  m_Reader_take : MethAt K C_Reader "take" "Reader.take" s_Reader_take P_Reader_take
  m_Reader_take_name : MethAt K C_Reader "take_name" "Reader.take_name" s_Reader_take_name P_Reader_take_name
  m_Reader_take_nesting : MethAt K C_Reader "take_nesting" "Reader.take_nesting" s_Reader_take_nesting P_Reader_take_nesting
  C_Holder : Addr
  mg_Holder : mg "Holder" = some (.ref C_Holder)
  cl_Holder : Cls K C_Holder
  n_Holder_text : NoAttr K C_Holder "text"
  m_Holder___init__ : InitAt K C_Holder "Holder.__init__" s_Holder___init__ P_Holder___init__
  m_Holder_load : MethAt K C_Holder "load" "Holder.load" s_Holder_load P_Holder_load
  m_Holder_shown : MethAt K C_Holder "shown" "Holder.shown" s_Holder_shown P_Holder_shown
  m_Holder_prune : MethAt K C_Holder "prune" "Holder.prune" s_Holder_prune P_Holder_prune
  m_Holder_general : MethAt K C_Holder "general" "Holder.general" s_Holder_general P_Holder_general
  m_Holder_shorten : MethAt K C_Holder "shorten" "Holder.shorten" s_Holder_shorten P_Holder_shorten
  m_Holder_short : MethAt K C_Holder "short" "Holder.short" s_Holder_short P_Holder_short
  m_Holder_order : MethAt K C_Holder "order" "Holder.order" s_Holder_order P_Holder_order
  m_Holder_least : MethAt K C_Holder "least" "Holder.least" s_Holder_least P_Holder_least
  m_Holder_totals : MethAt K C_Holder "totals" "Holder.totals" s_Holder_totals P_Holder_totals
  d_part_end : DefAt K mg "part_end" s_part_end P_part_end
  d_is_instance : DefAt K mg "is_instance" s_is_instance P_is_instance
  d_bracketed : DefAt K mg "bracketed" s_bracketed P_bracketed
  d_formula_form : DefAt K mg "formula_form" s_formula_form P_formula_form
  d_detached : DefAt K mg "detached" s_detached P_detached
  d_first_with_instance : DefAt K mg "first_with_instance" s_first_with_instance P_first_with_instance
  d_targets : DefAt K mg "targets" s_targets P_targets
  d_needed_rows : DefAt K mg "needed_rows" s_needed_rows P_needed_rows
  d_target_steps : DefAt K mg "target_steps" s_target_steps P_target_steps
  d_item_form : DefAt K mg "item_form" s_item_form P_item_form
  d_goal_form : DefAt K mg "goal_form" s_goal_form P_goal_form
  d_one_form : DefAt K mg "one_form" s_one_form P_one_form
  d_has_bit : DefAt K mg "has_bit" s_has_bit P_has_bit
  d_with_bit : DefAt K mg "with_bit" s_with_bit P_with_bit
  d_all_within : DefAt K mg "all_within" s_all_within P_all_within
  d_bits_of : DefAt K mg "bits_of" s_bits_of P_bits_of
  d_rows_detached_from : DefAt K mg "rows_detached_from" s_rows_detached_from P_rows_detached_from
  d_peak_of : DefAt K mg "peak_of" s_peak_of P_peak_of
  d_least_peaks : DefAt K mg "least_peaks" s_least_peaks P_least_peaks
  d_first_order : DefAt K mg "first_order" s_first_order P_first_order
  d_as_signs : DefAt K mg "as_signs" s_as_signs P_as_signs
  d_remark_end : DefAt K mg "remark_end" s_remark_end P_remark_end
  d_token_place : DefAt K mg "token_place" s_token_place P_token_place
  d_token_end : DefAt K mg "token_end" s_token_end P_token_end
  d_is_number : DefAt K mg "is_number" s_is_number P_is_number
  d_is_token : DefAt K mg "is_token" s_is_token P_is_token
  d_is_name : DefAt K mg "is_name" s_is_name P_is_name
  d_tokens_of : DefAt K mg "tokens_of" s_tokens_of P_tokens_of
  d_read_part : DefAt K mg "read_part" s_read_part P_read_part
  d_read_signs : DefAt K mg "read_signs" s_read_signs P_read_signs
  d_read_formula : DefAt K mg "read_formula" s_read_formula P_read_formula
  d_read_new_name : DefAt K mg "read_new_name" s_read_new_name P_read_new_name
  d_read_item : DefAt K mg "read_item" s_read_item P_read_item
  d_begins : DefAt K mg "begins" s_begins P_begins
  d_read_axioms : DefAt K mg "read_axioms" s_read_axioms P_read_axioms
  d_read_rows : DefAt K mg "read_rows" s_read_rows P_read_rows
  d_read_goals : DefAt K mg "read_goals" s_read_goals P_read_goals
  d_read_text : DefAt K mg "read_text" s_read_text P_read_text
  d_merge_row : DefAt K mg "merge_row" s_merge_row P_merge_row
  d_merged : DefAt K mg "merged" s_merged P_merged
  d_with_rows_alone : DefAt K mg "with_rows_alone" s_with_rows_alone P_with_rows_alone
  d_shortened : DefAt K mg "shortened" s_shortened P_shortened
  d_form_told : DefAt K mg "form_told" s_form_told P_form_told
  d_parted : DefAt K mg "parted" s_parted P_parted
  d_answer_one : DefAt K mg "answer_one" s_answer_one P_answer_one
  d_answers : DefAt K mg "answers" s_answers P_answers
  c_TEXT_TOO_LONG : ∃ t, mg "TEXT_TOO_LONG" = some (.int 1 t)
  c_NO_TOKEN : ∃ t, mg "NO_TOKEN" = some (.int 2 t)
  c_NOT_ALLOWED : ∃ t, mg "NOT_ALLOWED" = some (.int 3 t)
  c_ONE_TOO_MANY : ∃ t, mg "ONE_TOO_MANY" = some (.int 4 t)
  c_NAME_TAKEN : ∃ t, mg "NAME_TAKEN" = some (.int 5 t)
  c_NAME_UNKNOWN : ∃ t, mg "NAME_UNKNOWN" = some (.int 8 t)
  c_TOO_MANY_SIGNS : ∃ t, mg "TOO_MANY_SIGNS" = some (.int 9 t)
  c_TOO_DEEP : ∃ t, mg "TOO_DEEP" = some (.int 10 t)
  c_IMPLIES : ∃ t, mg "IMPLIES" = some (.int 0 t)
  c_DENIES : ∃ t, mg "DENIES" = some (.int 1 t)
  c_FIRST_UNKNOWN : ∃ t, mg "FIRST_UNKNOWN" = some (.int 2 t)
  c_MOST_SIGNS_ON_THE_WAY : ∃ t, mg "MOST_SIGNS_ON_THE_WAY" = some (.int 1000 t)
  c_MOST_SIGNS_DETACHED : ∃ t, mg "MOST_SIGNS_DETACHED" = some (.int 60 t)
  c_LETTERS : ∃ t, mg "LETTERS" = some (.str ("ABCDEFGHIJKLMNOPQRSTUVWXYZabcdefghijklmnopqrstuvwxyz" : Str) t)
  c_DIGITS : ∃ t, mg "DIGITS" = some (.str ("0123456789" : Str) t)
  c_SIGNS : ∃ t, mg "SIGNS" = some (.str ("(),:;>~" : Str) t)
  c_BLANKS : ∃ t, mg "BLANKS" = some (.str (" \t\n" : Str) t)
  c_REMARK : ∃ t, mg "REMARK" = some (.str ("#" : Str) t)
  c_OTHER : ∃ t, mg "OTHER" = some (.str ("?" : Str) t)
  c_RESERVED : ∃ a, mg "RESERVED" = some (.ref a) ∧ ∀ H, SqT K H a [.str ("axiom" : Str), .str ("row" : Str), .str ("goal" : Str)]
  c_LONGEST_NAME : ∃ t, mg "LONGEST_NAME" = some (.int 16 t)
  c_GREATEST_NUMBER : ∃ t, mg "GREATEST_NUMBER" = some (.int 1000000000 t)
  c_MOST_DIGITS : ∃ t, mg "MOST_DIGITS" = some (.int 10 t)
  c_END : ∃ t, mg "END" = some (.str ("" : Str) t)
  c_MOST_BYTES : ∃ t, mg "MOST_BYTES" = some (.int 4096 t)
  c_MOST_AXIOMS : ∃ t, mg "MOST_AXIOMS" = some (.int 6 t)
  c_MOST_ROWS : ∃ t, mg "MOST_ROWS" = some (.int 24 t)
  c_MOST_GOALS : ∃ t, mg "MOST_GOALS" = some (.int 4 t)
  c_MOST_SIGNS : ∃ t, mg "MOST_SIGNS" = some (.int 40 t)
  c_MOST_WITHIN : ∃ t, mg "MOST_WITHIN" = some (.int 39 t)
  c_LOAD : ∃ t, mg "LOAD" = some (.int 0 t)
  c_SHOWN : ∃ t, mg "SHOWN" = some (.int 1 t)
  c_PRUNE : ∃ t, mg "PRUNE" = some (.int 2 t)
  c_GENERAL : ∃ t, mg "GENERAL" = some (.int 3 t)
  c_SHORTEN : ∃ t, mg "SHORTEN" = some (.int 4 t)
  c_SHORT : ∃ t, mg "SHORT" = some (.int 5 t)
  c_ORDER : ∃ t, mg "ORDER" = some (.int 6 t)
  c_LEAST : ∃ t, mg "LEAST" = some (.int 7 t)
  c_SHAPES : ∃ a, mg "SHAPES" = some (.ref a) ∧ ∃ ws : List Addr, (∀ H, SqT K H a (ws.map V.ref)) ∧ Paired (fun w (x : Int × Int) => ∀ H, SqT K H w [.int x.1, .int x.2]) ws [(0, 1), (0, 0), (0, 1), (1, 0), (0, 0), (0, 0), (0, 2), (0, 1), (0, 0)]
  c_MOST_ROWS_IN_ORDER : ∃ t, mg "MOST_ROWS_IN_ORDER" = some (.int 8 t)
  b_len : mg "len" = none
  b_list : mg "list" = none
  b_tuple : mg "tuple" = none
  b_int : mg "int" = none
  b_sum : mg "sum" = none
  b_all : mg "all" = none
  b_ord : mg "ord" = none
  b_sorted : mg "sorted" = none
  b_reversed : mg "reversed" = none
  b_enumerate : mg "enumerate" = none
  b_range : mg "range" = none
  b_zip : mg "zip" = none
  b_max : mg "max" = none
  b_min : mg "min" = none
  b_Exception : mg "Exception" = none
end Shp
end
section
namespace Shp
open Vapcma
/-- a formula's signs -/
def enc : Form → List Int
  | .var v => [(v : Int) + 2]
  | .imp a b => 0 :: (enc a ++ enc b)
  | .neg a => 1 :: enc a
theorem enc_len (f : Form) : (enc f).length = size f := by
  induction f with
  | var v => rfl
  | imp a b iha ihb => simp only [enc, size, List.length_cons, List.length_append, iha, ihb]
  | neg a iha => simp only [enc, size, List.length_cons, iha]
/-- formulas one behind another -/
def encs (fs : List Form) : List Int := fs.flatMap enc
theorem encs_cons (f : Form) (fs : List Form) : encs (f :: fs) = enc f ++ encs fs := rfl
def sizes (fs : List Form) : Nat := (fs.map size).sum
theorem sizes_cons (f : Form) (fs : List Form) : sizes (f :: fs) = size f + sizes fs := rfl
/-- the first sign of formulas one behind another, and what is left behind it -/
theorem encs_head (f : Form) (fs : List Form) : ∃ (z : Int) (gs : List Form), encs (f :: fs) = z :: encs gs ∧ sizes gs + 1 = sizes (f :: fs) ∧
    ((z = 0 ∧ gs.length = fs.length + 2) ∨ (z = 1 ∧ gs.length = fs.length + 1) ∨ (2 ≤ z ∧ gs.length = fs.length)) := by
  cases f with
  | var v => exact ⟨(v : Int) + 2, fs, rfl, by simp only [sizes_cons, Vapcma.size]; omega, .inr (.inr ⟨by omega, rfl⟩)⟩
  | imp a b => exact ⟨0, a :: b :: fs, by simp [encs, enc], by simp only [sizes_cons, Vapcma.size]; omega, .inl ⟨rfl, rfl⟩⟩
  | neg a => exact ⟨1, a :: fs, by simp [encs, enc], by simp only [sizes_cons, Vapcma.size]; omega, .inr (.inl ⟨rfl, rfl⟩)⟩
end Shp
end
section
set_option maxRecDepth 100000
set_option maxHeartbeats 4000000
namespace Shp
open PySem PySem.Spec PyProof.Rows L2
open Vapcma (Form)
theorem iteT {c : Bool} {A B : Prop} (hc : c = true) (h : A) : if c = true then A else B := by
  rw [if_pos hc]; exact h
theorem iteF {c : Bool} {A B : Prop} (hc : c = false) (h : B) : if c = true then A else B := by
  rw [hc, if_neg Bool.false_ne_true]; exact h
/-! lists of ints, texts as lists of values -/
def ivs (xs : List Int) : List V := xs.map V.int
theorem ivs_len (xs : List Int) : (ivs xs).length = xs.length := List.length_map _
theorem atI_nat' {xs : List V} {i : Nat} {v : V} (h : xs[i]? = some v) : atI xs (i : Int) = some v := by
  have hl := (List.getElem?_eq_some_iff.mp h).1
  unfold atI ixN
  rw [if_pos (by omega), if_pos (by omega)]
  exact h
theorem ivs_get {xs : List Int} {i : Nat} {z : Int} (h : xs[i]? = some z) : (ivs xs)[i]? = some (.int z) := by simp [ivs, h]
theorem get_drop {α : Type} {xs : List α} {i : Nat} {z : α} {r : List α} (h : xs.drop i = z :: r) : xs[i]? = some z := by
  have := congrArg (fun l => l[0]?) h
  simpa using this
theorem drop_more {α : Type} {xs : List α} {i : Nat} {z : α} {r : List α} (h : xs.drop i = z :: r) : xs.drop (i + 1) = r := by
  rw [← List.drop_drop, h]; rfl
theorem ivs_at {xs : List Int} {i : Nat} {z : Int} {r : List Int} (h : xs.drop i = z :: r) : (ivs xs)[i]? = some (.int z) := ivs_get (get_drop h)
theorem ivs_back {xs : List Int} {i : Nat} {x : V} (h : (ivs xs)[i]? = some x) : ∃ z, x = .int z ∧ xs[i]? = some z := by
  simp only [ivs, List.getElem?_map, Option.map_eq_some_iff] at h
  obtain ⟨z, h1, h2⟩ := h
  exact ⟨z, h2.symm, h1⟩
/-! the heap -/
section
variable {K : PySem.W.Frag} {H H' H1 : Hp} {a p : Addr} {o : HO} {xs : List V}
theorem rd_same {o : HO} (e : Same H H') (h : Rd H a o) : Rd H' a o := by
  rcases h with h | ⟨q, h⟩
  · exact .inl (e _ _ h)
  · exact .inr ⟨q, e _ _ h⟩
theorem same_seqT (e : Same H H') (h : SqT K H a xs) : SqT K H' a xs := by
  rcases h with h | h
  · exact .inl (rd_same e h)
  · exact .inr h
theorem same_seqL (e : Same H H') (h : SqL K H a xs) : SqL K H' a xs := e.seq h
theorem same_new (h : H p = none) : Same H (upd H p o) := fun b u e => by
  rw [upd_ne (ne_of_none e h)]; exact e
theorem same_newer (e : Same H H1) (h : H1 p = none) : Same H (upd H1 p o) := e.trans (same_new h)
theorem same_old (e : Same H H1) (h : H p = none) : Same H (upd H1 p o) := fun b u q => by
  rw [upd_ne (ne_of_none q h)]; exact e b u q
end
/-! data: tuples of ints -/
theorem dp_all {K : PySem.W.Frag} {H : Hp} : ∀ xs : List Int, DpAll K H (ivs xs) (xs.map PyData.int)
  | [] => .nil
  | x :: xs => .cons (.int x) (dp_all xs)
theorem dp_tup {K : PySem.W.Frag} {H : Hp} {a : Addr} {xs : List Int} (h : SqT K H a (ivs xs)) : Dp K H (.ref a) (.tuple (xs.map PyData.int)) := .tup h (dp_all xs)
theorem eqv_ints : ∀ xs ys : List Int, PyData.eqvAll (xs.map PyData.int) (ys.map PyData.int) = decide (xs = ys)
  | [], [] => by simp [PyData.eqvAll]
  | x :: xs, [] => by simp [PyData.eqvAll]
  | [], y :: ys => by simp [PyData.eqvAll]
  | x :: xs, y :: ys => by
    simp only [List.map_cons, PyData.eqvAll, eqv_ints xs ys, PyData.eqv, List.cons.injEq]
    by_cases c : x = y
    · subst c; simp
    · simp [c]
theorem eqv_tup (xs ys : List Int) : PyData.eqv (.tuple (xs.map PyData.int)) (.tuple (ys.map PyData.int)) = decide (xs = ys) := by
  rw [PyData.eqv]; exact eqv_ints xs ys
end Shp
namespace Shp
open PySem PySem.Spec PyProof.Rows L2
theorem lay_ints : ∀ xs : List Int, PyData.canLayAll0 (xs.map PyData.int) = true ∧ PyData.depthAll (xs.map PyData.int) = 0
  | [] => ⟨rfl, rfl⟩
  | x :: xs => by
    obtain ⟨h1, h2⟩ := lay_ints xs
    refine ⟨?_, ?_⟩
    · simp only [List.map_cons, PyData.canLayAll0, PyData.canLay0, h1, Bool.and_self]
    · simp only [List.map_cons, PyData.depthAll, PyData.depth, h2, Nat.max_self]
theorem shaped_ints (xs : List Int) : SeqAt.shaped (.tuple (xs.map PyData.int)) = true := by
  obtain ⟨h1, h2⟩ := lay_ints xs
  simp only [SeqAt.shaped, PyData.canLay0, h1, PyData.depth, h2]
  decide
end Shp
namespace Shp
open PySem PySem.Spec PyProof.Rows L2
theorem slA_of {K : PySem.W.Frag} {H : Hp} {a : Addr} {xs : List V} {lo hi : Option Int} {Q : VK} (hx : SqT K H a xs)
    (h : ∀ p H2, Same H H2 → SqT K H2 p (cutV xs lo hi) → Q (.ref p) H2) : rSlA K (.ref a) lo hi H Q := by
  refine ⟨a, xs, rfl, hx, fun e => h a H (Same.refl _) ?_, fun _ p hp => h p _ (same_new hp) (SqT.of upd_same)⟩
  have : cutV xs lo hi = xs := by
    unfold cutV
    rw [e.1, e.2, List.drop_zero, Nat.sub_zero, List.take_length]
  rw [this]
  exact hx
end Shp
namespace Shp
open PySem PySem.Spec PyProof.Rows L2
theorem tyL {K : PySem.W.Frag} {H : Hp} {l : Addr} {xs : List V} (h : H l = some (.lst xs)) : tyV K "list" (.ref l) H := .inl ⟨rfl, _, SqL.of h⟩
theorem small_ok {n m : Nat} (h : n ≤ m) (hm : m ≤ 1000000 := by decide) : n ≤ sizeLine := Nat.le_trans h (Nat.le_trans hm (by decide))
theorem small_lt {n m : Nat} (h : n ≤ m) (hm : m ≤ 1000000 := by decide) : n < sizeLine := Nat.lt_of_le_of_lt h (Nat.lt_of_le_of_lt hm (by decide))
end Shp
namespace Shp
open PySem PySem.Spec PyProof.Rows L2
theorem lkH {k : Str} {v : V} {r : List (Str × V)} : List.lookup k ((k, v) :: r) = some v := by
  have e : (k == k) = true := beq_self_eq_true k
  simp only [List.lookup, e]
theorem lkP {k g : Str} {v : V} {r : List (Str × V)} (h : (k == g) = false) : List.lookup k ((g, v) :: r) = List.lookup k r := by
  simp only [List.lookup, h]
theorem ptH {f : Str} {v x : V} {r : List (Str × V)} : putF f v ((f, x) :: r) = (f, v) :: r := if_pos rfl
theorem ptP {f g : Str} {v x : V} {r : List (Str × V)} (h : ¬ g = f) : putF f v ((g, x) :: r) = (g, x) :: putF f v r := if_neg h
/-- lists of numbers as values -/
def nvs (l : List Nat) : List V := l.map fun (n : Nat) => V.int (n : Int)
theorem nvs_len (l : List Nat) : (nvs l).length = l.length := List.length_map _
theorem nvs_app (l r : List Nat) : nvs (l ++ r) = nvs l ++ nvs r := List.map_append
theorem nvs_get {l : List Nat} {i n : Nat} (h : l[i]? = some n) : (nvs l)[i]? = some (.int (n : Int)) := by simp [nvs, h]
theorem nvs_ivs (l : List Nat) : nvs l = ivs (l.map Int.ofNat) := by simp [nvs, ivs]
/-- all but some places stand -/
def Keep (L : List Addr) (H H' : Hp) : Prop := ∀ b o, H b = some o → b ∉ L → H' b = some o
theorem Keep.refl (L : List Addr) (H : Hp) : Keep L H H := fun _ _ h _ => h
theorem Keep.trans {L : List Addr} {H H1 H2 : Hp} (a : Keep L H H1) (b : Keep L H1 H2) : Keep L H H2 := fun c o h n => b c o (a c o h n) n
theorem Keep.mono {L M : List Addr} {H H1 : Hp} (a : Keep L H H1) (h : ∀ x ∈ L, x ∈ M) : Keep M H H1 := fun c o q n => a c o q fun m => n (h c m)
theorem Keep.of_same {L : List Addr} {H H1 : Hp} (a : Same H H1) : Keep L H H1 := fun c o q _ => a c o q
theorem Keep.upd {L : List Addr} {H : Hp} {a : Addr} {o : HO} (m : a ∈ L) : Keep L H (upd H a o) := fun c u q n => by
  rw [upd_ne (show c ≠ a from fun e => n (by rw [e]; exact m))]; exact q
theorem Keep.new {L : List Addr} {H : Hp} {a : Addr} {o : HO} (m : H a = none) : Keep L H (L2.upd H a o) := .of_same (same_new m)
/-- the places are new: all stands -/
theorem Keep.same {L : List Addr} {H H1 H2 : Hp} (a : Same H H1) (b : Keep L H1 H2) (n : ∀ x ∈ L, H x = none) : Same H H2 := fun c o q => b c o (a c o q) fun m => by
  rw [n c m] at q; cases q
theorem Keep.seqT {K : PySem.W.Frag} {L : List Addr} {H H' : Hp} {a : Addr} {xs : List V} (e : Keep L H H') (hL : ∀ x ∈ L, ∃ o, H x = some o ∧ (∀ xs, o ≠ .tup xs) ∧ ∀ q u, o ≠ .frz q u) (h : SqT K H a xs) : SqT K H' a xs := by
  rcases h with h | h
  · refine .inl ?_
    rcases h with h | ⟨q, h⟩
    · refine .inl (e _ _ h fun m => ?_)
      obtain ⟨o, h1, h2, _⟩ := hL _ m
      rw [h] at h1
      exact h2 _ (Option.some.inj h1).symm
    · refine .inr ⟨q, e _ _ h fun m => ?_⟩
      obtain ⟨o, h1, _, h2⟩ := hL _ m
      rw [h] at h1
      exact h2 _ _ (Option.some.inj h1).symm
  · exact .inr h
end Shp
namespace Shp
open PySem PySem.Spec PyProof.Rows L2
theorem Keep.old {L : List Addr} {H H1 : Hp} {p : Addr} {o : HO} (a : Keep L H H1) (n : H p = none) : Keep L H (L2.upd H1 p o) := fun c u q m => by
  rw [upd_ne (ne_of_none q n)]; exact a c u q m
/-- a dict from numbers to numbers -/
def ukv (un : List (Nat × Nat)) : List (Key × V) := un.map fun x => (.inl ((x.1 : Int) + 2), .int (x.2 : Int))
theorem ukv_val {v : Nat} : ∀ un : List (Nat × Nat), valV (ukv un) (.inl ((v : Int) + 2)) = (un.lookup v).map fun (i : Nat) => V.int (i : Int)
  | [] => rfl
  | (a, b) :: un => by
    rw [List.lookup_cons]
    by_cases c : v = a
    · subst c
      rw [show ukv ((v, b) :: un) = (.inl ((v : Int) + 2), .int (b : Int)) :: ukv un from rfl, valV_pos rfl]
      simp
    · have e1 : (v == a) = false := by simpa using c
      have e2 : valV (ukv ((a, b) :: un)) (.inl ((v : Int) + 2)) = valV (ukv un) (.inl ((v : Int) + 2)) := by
        have : ¬ ((a : Int) + 2) = (v : Int) + 2 := by omega
        simp [valV, ukv, this]
      rw [e1, e2]
      exact ukv_val un
theorem ukv_len (un : List (Nat × Nat)) : (ukv un).length = un.length := List.length_map _
end Shp
end
section
namespace Shp
open Vapcma
theorem enc_inj : ∀ {a b : Form} {r r' : List Int}, enc a ++ r = enc b ++ r' → a = b ∧ r = r' := by
  intro a
  induction a with
  | var v =>
    intro b r r' h
    cases b with
    | var u =>
      simp only [enc, List.singleton_append, List.cons.injEq] at h
      exact ⟨by congr 1; omega, h.2⟩
    | imp c d => simp only [enc, List.cons_append, List.nil_append, List.cons.injEq] at h; omega
    | neg c => simp only [enc, List.cons_append, List.nil_append, List.cons.injEq] at h; omega
  | imp c d ihc ihd =>
    intro b r r' h
    cases b with
    | var u => simp only [enc, List.cons_append, List.nil_append, List.cons.injEq] at h; omega
    | imp c' d' =>
      simp only [enc, List.cons_append, List.append_assoc, List.cons.injEq, true_and] at h
      obtain ⟨rfl, h2⟩ := ihc h
      obtain ⟨rfl, h3⟩ := ihd h2
      exact ⟨rfl, h3⟩
    | neg c' => simp only [enc, List.cons_append, List.cons.injEq] at h; omega
  | neg c ihc =>
    intro b r r' h
    cases b with
    | var u => simp only [enc, List.cons_append, List.nil_append, List.cons.injEq] at h; omega
    | imp c' d' => simp only [enc, List.cons_append, List.cons.injEq] at h; omega
    | neg c' =>
      simp only [enc, List.cons_append, List.cons.injEq, true_and] at h
      obtain ⟨rfl, h2⟩ := ihc h
      exact ⟨rfl, h2⟩
theorem enc_eq {a b : Form} (h : enc a = enc b) : a = b := (enc_inj (r := []) (r' := []) (by rw [h])).1
/-- formulas matched one behind another -/
def matchAll : List Form → List Form → List (Nat × Form) → Option (List (Nat × Form))
  | [], _, s => some s
  | _ :: _, [], _ => none
  | g :: gs, f :: fs, s => (matchBy g f s).bind (matchAll gs fs)
theorem matchAll_imp (a b c d : Form) (gs fs : List Form) (s : List (Nat × Form)) : matchAll (.imp a b :: gs) (.imp c d :: fs) s = matchAll (a :: b :: gs) (c :: d :: fs) s := by
  simp only [matchAll, matchBy, Option.bind_assoc]
theorem matchAll_neg (a c : Form) (gs fs : List Form) (s : List (Nat × Form)) : matchAll (.neg a :: gs) (.neg c :: fs) s = matchAll (a :: gs) (c :: fs) s := by
  simp only [matchAll, matchBy]
/-- one sign of the general one, no unknown: the other's sign is the same, or nothing matches -/
theorem match_sign {g f : Form} {gs fs : List Form} {s : List (Nat × Form)} {z : Int} {gr : List Int} (hg : encs (g :: gs) = z :: gr) (hz : z < 2) (hl : gs.length = fs.length) :
    ∃ z' fr, encs (f :: fs) = z' :: fr ∧ (z' ≠ z → matchAll (g :: gs) (f :: fs) s = none) ∧
      (z' = z → ∃ gs' fs', gr = encs gs' ∧ fr = encs fs' ∧ gs'.length = fs'.length ∧ matchAll (g :: gs) (f :: fs) s = matchAll gs' fs' s) := by
  cases g with
  | var v => simp only [encs_cons, enc, List.singleton_append, List.cons.injEq] at hg; omega
  | imp a b =>
    simp only [encs_cons, enc, List.cons_append, List.append_assoc, List.cons.injEq] at hg
    obtain ⟨rfl, rfl⟩ := hg
    cases f with
    | var v => exact ⟨_, _, rfl, fun _ => by simp [matchAll, matchBy], fun e => by omega⟩
    | imp c d => exact ⟨0, enc c ++ (enc d ++ encs fs), by simp [encs_cons, enc], fun e => absurd rfl e, fun _ => ⟨a :: b :: gs, c :: d :: fs, rfl, rfl, by simp [hl], matchAll_imp ..⟩⟩
    | neg c => exact ⟨1, _, rfl, fun _ => by simp [matchAll, matchBy], fun e => by omega⟩
  | neg a =>
    simp only [encs_cons, enc, List.cons_append, List.cons.injEq] at hg
    obtain ⟨rfl, rfl⟩ := hg
    cases f with
    | var v => exact ⟨_, _, rfl, fun _ => by simp [matchAll, matchBy], fun e => by omega⟩
    | imp c d => exact ⟨0, _, rfl, fun _ => by simp [matchAll, matchBy], fun e => by omega⟩
    | neg c => exact ⟨1, _, rfl, fun e => absurd rfl e, fun _ => ⟨a :: gs, c :: fs, rfl, rfl, by simp [hl], matchAll_neg ..⟩⟩
/-- an unknown of the general one -/
theorem match_var {g f : Form} {gs fs : List Form} {s : List (Nat × Form)} {z : Int} {gr : List Int} (hg : encs (g :: gs) = z :: gr) (hz : ¬ z < 2) :
    ∃ v : Nat, z = (v : Int) + 2 ∧ gr = encs gs ∧ matchAll (g :: gs) (f :: fs) s = (match s.find? fun x => x.1 == v with
      | some x => if x.2 = f then matchAll gs fs s else none
      | none => matchAll gs fs (s ++ [(v, f)])) := by
  cases g with
  | var v =>
    simp only [encs_cons, enc, List.singleton_append, List.cons.injEq] at hg
    refine ⟨v, hg.1.symm, hg.2.symm, ?_⟩
    simp only [matchAll, matchBy]
    cases s.find? fun x => x.1 == v with
    | none => rfl
    | some x =>
      dsimp only
      by_cases c : x.2 = f
      · rw [if_pos c, if_pos c]; rfl
      · rw [if_neg c, if_neg c]; rfl
  | imp a b => simp only [encs_cons, enc, List.cons_append, List.cons.injEq] at hg; omega
  | neg a => simp only [encs_cons, enc, List.cons_append, List.cons.injEq] at hg; omega
theorem matchAll_one (g f : Form) : matchAll [g] [f] [] = matchBy g f [] := by
  simp only [matchAll]
  cases matchBy g f [] <;> rfl
end Shp
end
section
set_option maxRecDepth 100000
set_option maxHeartbeats 4000000
namespace Shp
open PySem PySem.Spec PyProof.Rows L2
open Vapcma (Form)
open VapcmBase (word showNat)
/-- bytes as a text -/
def bx (b : List UInt8) : Str := ⟨(b.map UInt8.toNat).toArray⟩
theorem bx_app (a b : List UInt8) : bx a ++ bx b = bx (a ++ b) := by
  show (⟨_ ++ _⟩ : Str) = _
  simp [bx]
theorem bx_nil : Str.empty = bx [] := rfl
theorem bx_len (b : List UInt8) : (bx b).length = b.length := by
  show (bx b).cps.size = _
  simp [bx]
theorem str_ext {a b : Str} (h : a.cps.toList = b.cps.toList) : a = b := by
  cases a with
  | mk x => cases b with
    | mk y =>
      have : x = y := Array.toList_inj.mp h
      rw [this]
theorem bx_codes (b : List UInt8) : (bx b).cps.toList = b.map UInt8.toNat := by simp [bx]
theorem bx_num (n : Nat) : Str.ofString (toString ((n : Nat) : Int)) = bx (showNat n) := by
  refine str_ext ?_
  rw [PySem.W.KIN.signs_num, bx_codes, VapcmBase.showNat, List.map_map]
  refine List.map_congr_left fun c hc => ?_
  have := digit_ascii (Nat.isDigit_of_mem_toDigits (by decide) (by decide) hc)
  simp only [Function.comp, UInt8.toNat_ofNat']
  omega
theorem showNat_len : ∀ n : Nat, n < 1000 → (showNat n).length ≤ 3 := by decide +kernel
theorem showForm_len {f : Form} (h : ∀ v ∈ Vapcma.vars f, v < 1000) : (Vapcma.showForm f).length ≤ 8 * Vapcma.size f := by
  induction f with
  | var v =>
    have h1 := showNat_len v (h v (by simp [Vapcma.vars]))
    have h2 : (word "x").length = 1 := by decide +kernel
    simp only [Vapcma.showForm, Vapcma.size, List.length_append]
    omega
  | imp a b iha ihb =>
    have h1 := iha fun v hv => h v (by simp [Vapcma.vars, hv])
    have h2 := ihb fun v hv => h v (by simp [Vapcma.vars, hv])
    have w1 : (word "( ").length = 2 := by decide +kernel
    have w2 : (word " )").length = 2 := by decide +kernel
    have w3 : (word " > ").length = 3 := by decide +kernel
    cases a <;> (simp only [Vapcma.showForm, List.length_append, Vapcma.size] at h1 ⊢; omega)
  | neg a iha =>
    have h1 := iha fun v hv => h v (by simpa [Vapcma.vars] using hv)
    have w1 : (word "( ").length = 2 := by decide +kernel
    have w2 : (word " )").length = 2 := by decide +kernel
    have w3 : (word "~ ").length = 2 := by decide +kernel
    cases a <;> (simp only [Vapcma.showForm, List.length_append, Vapcma.size] at h1 ⊢; omega)
def isImp : Form → Bool
  | .imp _ _ => true
  | _ => false
/-- a part as it is shown -/
def showPart (f : Form) : List UInt8 := if isImp f = true then word "( " ++ (Vapcma.showForm f ++ word " )") else Vapcma.showForm f
theorem show_neg (a : Form) : Vapcma.showForm (.neg a) = word "~ " ++ showPart a := by cases a <;> simp [Vapcma.showForm, showPart, isImp]
theorem show_imp (a b : Form) : Vapcma.showForm (.imp a b) = showPart a ++ (word " > " ++ Vapcma.showForm b) := by cases a <;> simp [Vapcma.showForm, showPart, isImp]
theorem showPart_len {f : Form} (h : ∀ v ∈ Vapcma.vars f, v < 1000) : (showPart f).length ≤ 8 * Vapcma.size f + 4 := by
  have h1 := showForm_len h
  unfold showPart
  have w1 : (word "( ").length = 2 := by decide +kernel
  have w2 : (word " )").length = 2 := by decide +kernel
  split <;> (try simp only [List.length_append]) <;> omega
/-! suffixes -/
theorem encs_nil : encs [] = [] := rfl
theorem encs_inj : ∀ {gs hs : List Form}, encs gs = encs hs → gs = hs
  | [], [], _ => rfl
  | g :: gs, [], h => by obtain ⟨z, r, e, _⟩ := encs_head g gs; rw [e] at h; cases h
  | [], g :: gs, h => by obtain ⟨z, r, e, _⟩ := encs_head g gs; rw [e] at h; cases h
  | g :: gs, g' :: gs', h => by
    rw [encs_cons, encs_cons] at h
    obtain ⟨rfl, h2⟩ := enc_inj h
    rw [encs_inj h2]
theorem enc_suffix (f : Form) : ∀ i : Nat, i ≤ Vapcma.size f → ∃ gs, (enc f).drop i = encs gs
  | 0, _ => ⟨[f], by simp [encs]⟩
  | i + 1, h => by
    obtain ⟨gs, e⟩ := enc_suffix f i (by omega)
    cases gs with
    | nil =>
      rw [encs_nil, List.drop_eq_nil_iff, enc_len] at e
      omega
    | cons g gs =>
      obtain ⟨z, hs, e2, _⟩ := encs_head g gs
      rw [e2] at e
      exact ⟨hs, drop_more e⟩
theorem encs_push {s : Int} {gs gs' : List Form} (h : s :: encs gs = encs gs') : (s = 0 ∧ ∃ a b r, gs = a :: b :: r ∧ gs' = .imp a b :: r) ∨ (s = 1 ∧ ∃ a r, gs = a :: r ∧ gs' = .neg a :: r) ∨
    ∃ v : Nat, s = (v : Int) + 2 ∧ gs' = .var v :: gs := by
  cases gs' with
  | nil => cases h
  | cons g r =>
    cases g with
    | var v =>
      simp only [encs_cons, enc, List.singleton_append, List.cons.injEq] at h
      exact .inr (.inr ⟨v, h.1, by rw [encs_inj h.2]⟩)
    | imp a b =>
      simp only [encs_cons, enc, List.cons_append, List.append_assoc, List.cons.injEq] at h
      refine .inl ⟨h.1, a, b, r, encs_inj ?_, rfl⟩
      rw [h.2, encs_cons, encs_cons]
    | neg a =>
      simp only [encs_cons, enc, List.cons_append, List.cons.injEq] at h
      refine .inr (.inl ⟨h.1, a, r, encs_inj ?_, rfl⟩)
      rw [h.2, encs_cons]
theorem mem_enc {f : Form} {v : Nat} : v ∈ Vapcma.vars f ↔ ((v : Int) + 2) ∈ enc f := by
  induction f with
  | var x => simp only [Vapcma.vars, enc, List.mem_singleton]; omega
  | imp a b iha ihb =>
    simp only [Vapcma.vars, enc, List.mem_cons, List.mem_append, iha, ihb]
    constructor
    · intro h; exact .inr h
    · rintro (h | h)
      · omega
      · exact h
  | neg a iha =>
    simp only [Vapcma.vars, enc, List.mem_cons, iha]
    constructor
    · intro h; exact .inr h
    · rintro (h | h)
      · omega
      · exact h
theorem size_mem {g : Form} : ∀ {gs : List Form}, g ∈ gs → Vapcma.size g ≤ sizes gs
  | h :: gs, m => by
    rw [sizes_cons]
    rcases List.mem_cons.mp m with rfl | m
    · omega
    · have := size_mem m; omega
theorem encs_len (gs : List Form) : (encs gs).length = sizes gs := by
  induction gs with
  | nil => rfl
  | cons g gs ih => rw [encs_cons, List.length_append, enc_len, ih, sizes_cons]
/-- formulas of a suffix: their unknowns are the formula's, their sizes no greater -/
theorem suffix_small {f : Form} {i : Nat} {gs : List Form} (h : (enc f).drop i = encs gs) {g : Form} (m : g ∈ gs) : (∀ v ∈ Vapcma.vars g, v ∈ Vapcma.vars f) ∧ Vapcma.size g ≤ Vapcma.size f := by
  constructor
  · intro v hv
    rw [mem_enc] at hv ⊢
    have : ((v : Int) + 2) ∈ (enc f).drop i := by
      rw [h]
      exact List.mem_flatMap.mpr ⟨g, m, hv⟩
    exact List.mem_of_mem_drop this
  · have h1 := size_mem m
    have h2 := congrArg List.length h
    rw [List.length_drop, encs_len, enc_len] at h2
    omega
end Shp
namespace Shp
open PySem PySem.Spec PyProof.Rows L2
theorem len_sizes : ∀ gs : List Vapcma.Form, gs.length ≤ sizes gs
  | [] => Nat.le_refl _
  | g :: gs => by have h1 := len_sizes gs; have h2 : 0 < Vapcma.size g := by cases g <;> simp [Vapcma.size]
                  rw [sizes_cons, List.length_cons]; omega
theorem nvs_last (x : Nat) (r : List Nat) : (nvs (x :: r).reverse)[(nvs (x :: r).reverse).length - 1]? = some (.int (x : Int)) ∧ (nvs (x :: r).reverse).dropLast = nvs r.reverse := by
  simp [nvs]
end Shp
end
section
namespace Shp
open VapcmBase
set_option maxRecDepth 10000
/-- the signs that a text may have outside of remarks -/
def AL : List Nat := [65, 66, 67, 68, 69, 70, 71, 72, 73, 74, 75, 76, 77, 78, 79, 80, 81, 82, 83, 84, 85, 86, 87, 88, 89, 90, 97, 98, 99, 100, 101, 102, 103, 104, 105, 106, 107, 108, 109, 110, 111, 112, 113, 114, 115, 116, 117, 118, 119, 120, 121, 122, 48, 49, 50, 51, 52, 53, 54, 55, 56, 57, 40, 41, 44, 58, 59, 62, 126, 32, 9, 10, 35]
def sg (c : Nat) : Nat := if AL.contains c = true then c else 63
def cLet (c : Nat) : Bool := decide (65 ≤ c ∧ c ≤ 90) || decide (97 ≤ c ∧ c ≤ 122)
def cDig (c : Nat) : Bool := decide (48 ≤ c ∧ c ≤ 57)
def cBl (c : Nat) : Bool := c == 32 || (c == 9 || c == 10)
def cSig (c : Nat) : Bool := [40, 41, 44, 58, 59, 62, 126].contains c
def allB (n : Nat) : Bool := let b := UInt8.ofNat n; isLetter b == cLet (sg n) && (isDigit b == cDig (sg n) && (isBlank b == cBl (sg n) && ((b == 35) == (sg n == 35) && ((b == 10) == (sg n == 10) && (SIGNS.contains b == cSig (sg n) && (!(isLetter b || isDigit b || SIGNS.contains b) || sg n == n))))))
theorem allB_ok : ∀ n, n < 256 → allB n = true := by decide +kernel
structure ByteIs (b : UInt8) : Prop where
  l : isLetter b = cLet (sg b.toNat)
  d : isDigit b = cDig (sg b.toNat)
  bl : isBlank b = cBl (sg b.toNat)
  r : (b == 35) = (sg b.toNat == 35)
  n : (b == 10) = (sg b.toNat == 10)
  s : SIGNS.contains b = cSig (sg b.toNat)
  e : (isLetter b = true ∨ isDigit b = true ∨ SIGNS.contains b = true) → sg b.toNat = b.toNat
theorem byte_is (b : UInt8) : ByteIs b := by
  have h := allB_ok b.toNat (UInt8.toNat_lt b)
  unfold allB at h
  rw [UInt8.ofNat_toNat] at h
  simp only [Bool.and_eq_true, beq_iff_eq] at h
  obtain ⟨h1, h2, h3, h4, h5, h6, h7⟩ := h
  refine ⟨h1, h2, h3, h4, h5, h6, fun q => ?_⟩
  have : (isLetter b || isDigit b || SIGNS.contains b) = true := by
    rcases q with q | q | q <;> rw [q] <;> simp
  rw [this] at h7
  simpa using h7

/-! tokens without fuel -/
def LX (at_ : Nat) (l : Bytes) : Except Fault Toks := lex (l.length + 1) at_ l
theorem token_len {b : UInt8} {r : Bytes} {x : Tok × Nat} (h : token (b :: r) = some x) : 1 ≤ x.2 := by
  unfold token at h
  dsimp only at h
  by_cases c1 : isLetter b = true
  · rw [if_pos c1] at h
    by_cases c2 : NAME < ((b :: r).takeWhile fun c => isLetter c || isDigit c).length
    · rw [if_pos c2] at h; cases h
    · rw [if_neg c2] at h
      cases h
      rw [List.takeWhile_cons, if_pos (by rw [c1]; rfl)]
      simp
  · rw [if_neg c1] at h
    by_cases c2 : isDigit b = true
    · rw [if_pos c2] at h
      cases e : numberOf ((b :: r).takeWhile isDigit) with
      | none => rw [e] at h; cases h
      | some n =>
        rw [e] at h
        cases h
        rw [List.takeWhile_cons, if_pos c2]
        simp
    · rw [if_neg c2] at h
      by_cases c3 : SIGNS.contains b = true
      · rw [if_pos c3] at h; cases h; exact Nat.le_refl _
      · rw [if_neg c3] at h; cases h
theorem lex_fuel : ∀ (m n at_ : Nat) (l : Bytes), l.length < m → l.length + 1 ≤ n → lex n at_ l = LX at_ l
  | 0, _, _, l, h, _ => absurd h (Nat.not_lt_zero _)
  | m + 1, 0, _, _, _, h => by omega
  | m + 1, n + 1, at_, [], _, _ => by simp [LX, lex]
  | m + 1, n + 1, at_, b :: r, h, h2 => by
    simp only [List.length_cons] at h h2
    have hd : (r.dropWhile (· != 10)).length ≤ r.length := (List.dropWhile_sublist _).length_le
    rw [LX, List.length_cons, lex, lex]
    by_cases c1 : isBlank b = true
    · rw [if_pos c1, if_pos c1, lex_fuel m n _ r (by omega) (by omega), lex_fuel m (r.length + 1) _ r (by omega) (by omega)]
    · rw [if_neg c1, if_neg c1]
      by_cases c2 : (b == 35) = true
      · rw [if_pos c2, if_pos c2, lex_fuel m n _ _ (by omega) (by omega), lex_fuel m (r.length + 1) _ _ (by omega) (by omega)]
      · rw [if_neg c2, if_neg c2]
        cases e : token (b :: r) with
        | none => rfl
        | some x =>
          have := token_len e
          have hl : ((b :: r).drop x.2).length ≤ r.length := by rw [List.length_drop, List.length_cons]; omega
          dsimp only
          rw [lex_fuel m n _ _ (by omega) (by omega), lex_fuel m (r.length + 1) _ _ (by omega) (by omega)]
theorem lx_cons (at_ : Nat) (b : UInt8) (r : Bytes) : LX at_ (b :: r) = if isBlank b = true then LX (at_ + 1) r
    else if (b == 35) = true then LX (at_ + 1 + (r.takeWhile (· != 10)).length) (r.dropWhile (· != 10))
    else match token (b :: r) with
      | none => .error ⟨2, at_⟩
      | some x => (LX (at_ + x.2) ((b :: r).drop x.2)).map fun l => ⟨at_, x.1⟩ :: l := by
  have hd : (r.dropWhile (· != 10)).length ≤ r.length := (List.dropWhile_sublist _).length_le
  rw [LX, List.length_cons, lex]
  rw [lex_fuel (r.length + 1) _ _ r (by omega) (by omega), lex_fuel (r.length + 1) _ _ (r.dropWhile (· != 10)) (by omega) (by omega)]
  cases e : token (b :: r) with
  | none => rfl
  | some x =>
    have := token_len e
    have hl : ((b :: r).drop x.2).length ≤ r.length := by rw [List.length_drop, List.length_cons]; omega
    dsimp only
    rw [lex_fuel (r.length + 1) _ _ _ (by omega) (by omega)]
theorem lx_nil (at_ : Nat) : LX at_ [] = .ok [⟨at_, .last⟩] := rfl
/-! by places -/
theorem tw_eq {α : Type} {P : α → Bool} : ∀ (l : List α) (k : Nat), k ≤ l.length → (∀ (i : Nat) (x : α), i < k → l[i]? = some x → P x = true) → (∀ x, l[k]? = some x → P x = false) → l.takeWhile P = l.take k ∧ l.dropWhile P = l.drop k
  | [], k, h, _, _ => by simp at h; subst h; simp
  | a :: l, 0, _, _, h => by
    have := h a rfl
    simp [List.takeWhile_cons, List.dropWhile_cons, this]
  | a :: l, k + 1, h, h1, h2 => by
    have ha := h1 0 a (by omega) rfl
    obtain ⟨e1, e2⟩ := tw_eq l k (by simpa using h) (fun i x hi hx => h1 (i + 1) x (by omega) (by simpa using hx)) (fun x hx => h2 x (by simpa using hx))
    simp [List.takeWhile_cons, List.dropWhile_cons, ha, e1, e2]
theorem drop_cons {α : Type} {l : List α} {p : Nat} {b : α} (h : l[p]? = some b) : l.drop p = b :: l.drop (p + 1) := by
  obtain ⟨h1, h2⟩ := List.getElem?_eq_some_iff.mp h
  rw [List.drop_eq_getElem_cons h1, h2]
variable {bs : Bytes} {p q : Nat} {b : UInt8}
theorem lx_blank (h : bs[p]? = some b) (hb : isBlank b = true) : LX p (bs.drop p) = LX (p + 1) (bs.drop (p + 1)) := by
  rw [drop_cons h, lx_cons, if_pos hb]
theorem lx_rem (h : bs[p]? = some b) (hb : b = 35) (hpq : p < q) (hq : q ≤ bs.length) (h1 : ∀ (i : Nat) (x : UInt8), p ≤ i → i < q → bs[i]? = some x → x ≠ 10) (h2 : ∀ x, bs[q]? = some x → x = 10) : LX p (bs.drop p) = LX q (bs.drop q) := by
  have nb : ¬ isBlank b = true := by rw [hb]; decide
  rw [drop_cons h, lx_cons, if_neg nb, if_pos (by rw [hb]; rfl)]
  obtain ⟨e1, e2⟩ := tw_eq (P := fun (x : UInt8) => x != 10) (bs.drop (p + 1)) (q - (p + 1)) (by rw [List.length_drop]; omega)
    (fun i x hi hx => by
      rw [List.getElem?_drop] at hx
      have := h1 (p + 1 + i) x (by omega) (by omega) hx
      simpa using this)
    (fun x hx => by
      rw [List.getElem?_drop, show p + 1 + (q - (p + 1)) = q by omega] at hx
      have := h2 x hx
      simp [this])
  rw [e1, e2, List.drop_drop, List.length_take, List.length_drop, show p + 1 + (q - (p + 1)) = q by omega, show p + 1 + min (q - (p + 1)) (bs.length - (p + 1)) = q by omega]
/-- whether such a word is a token -/
def okTok : Bytes → Bool
  | [] => false
  | b :: r => if isLetter b = true then decide ((b :: r).length ≤ 16) else if isDigit b = true then (numberOf (b :: r)).isSome else SIGNS.contains b
/-- a token and its word -/
def TokW : Tok → Bytes → Prop
  | .name n, w => w = n ∧ ∃ b r, n = b :: r ∧ isLetter b = true ∧ n.length ≤ 16
  | .num _, w => ∃ b r, w = b :: r ∧ isDigit b = true
  | .sign c, w => ∃ b, w = [b] ∧ c = b.toNat ∧ SIGNS.contains b = true
  | .last, w => w = []
/-- where the word ends that begins at p -/
structure EndsAt (bs : Bytes) (p q : Nat) (b : UInt8) : Prop where
  lt : p < q
  le : q ≤ bs.length
  l : isLetter b = true → (∀ (i : Nat) (x : UInt8), p ≤ i → i < q → bs[i]? = some x → (isLetter x || isDigit x) = true) ∧ ∀ x, bs[q]? = some x → (isLetter x || isDigit x) = false
  d : isLetter b = false → isDigit b = true → (∀ (i : Nat) (x : UInt8), p ≤ i → i < q → bs[i]? = some x → isDigit x = true) ∧ ∀ x, bs[q]? = some x → isDigit x = false
  o : isLetter b = false → isDigit b = false → q = p + 1
theorem tw_at {P : UInt8 → Bool} (hpq : p ≤ q) (hq : q ≤ bs.length) (h1 : ∀ (i : Nat) (x : UInt8), p ≤ i → i < q → bs[i]? = some x → P x = true) (h2 : ∀ x, bs[q]? = some x → P x = false) : (bs.drop p).takeWhile P = (bs.drop p).take (q - p) :=
  (tw_eq (bs.drop p) (q - p) (by rw [List.length_drop]; omega) (fun i x hi hx => by
    rw [List.getElem?_drop] at hx
    exact h1 (p + i) x (by omega) (by omega) hx) (fun x hx => by
    rw [List.getElem?_drop, show p + (q - p) = q by omega] at hx
    exact h2 x hx)).1
theorem lx_tok (h : bs[p]? = some b) (nb : isBlank b = false) (nr : b ≠ 35) (E : EndsAt bs p q b) :
    (okTok ((bs.drop p).take (q - p)) = true → ∃ tk, TokW tk ((bs.drop p).take (q - p)) ∧ LX p (bs.drop p) = (LX q (bs.drop q)).map fun l => ⟨p, tk⟩ :: l) ∧
    (okTok ((bs.drop p).take (q - p)) = false → LX p (bs.drop p) = .error ⟨2, p⟩) := by
  obtain ⟨hlt, hle, hl, hd, ho⟩ := E
  have hw : (bs.drop p).take (q - p) = b :: (bs.drop (p + 1)).take (q - (p + 1)) := by
    rw [drop_cons h, show q - p = (q - (p + 1)) + 1 by omega, List.take_succ_cons]
  have hlen : ((bs.drop p).take (q - p)).length = q - p := by rw [List.length_take, List.length_drop]; omega
  have hdd : (bs.drop p).drop (q - p) = bs.drop q := by rw [List.drop_drop, show p + (q - p) = q by omega]
  have nr' : ¬ (b == 35) = true := by simpa using nr
  have nb' : ¬ isBlank b = true := by rw [nb]; exact Bool.false_ne_true
  have hstep := lx_cons p b (bs.drop (p + 1))
  rw [if_neg nb', if_neg nr', ← drop_cons h] at hstep
  have tk0 : token (bs.drop p) = token (b :: bs.drop (p + 1)) := by rw [← drop_cons h]
  rw [hstep]
  have key : token (bs.drop p) = if isLetter b = true then (if NAME < q - p then none else some (.name ((bs.drop p).take (q - p)), q - p)) else if isDigit b = true then (numberOf ((bs.drop p).take (q - p))).map fun n => (.num n, q - p) else if SIGNS.contains b = true then some (.sign b.toNat, 1) else none := by
    rw [tk0]
    unfold token
    dsimp only
    rw [← drop_cons h]
    by_cases c1 : isLetter b = true
    · rw [if_pos c1, if_pos c1]
      obtain ⟨h1, h2⟩ := hl c1
      rw [tw_at (by omega) hle h1 h2, hlen]
    · rw [if_neg c1, if_neg c1]
      by_cases c2 : isDigit b = true
      · rw [if_pos c2, if_pos c2]
        obtain ⟨h1, h2⟩ := hd (by simpa using c1) c2
        rw [tw_at (by omega) hle h1 h2, hlen]
      · rw [if_neg c2, if_neg c2]
  have hok : okTok ((bs.drop p).take (q - p)) = if isLetter b = true then decide (q - p ≤ 16) else if isDigit b = true then (numberOf ((bs.drop p).take (q - p))).isSome else SIGNS.contains b := by
    have gen : ∀ (w r : Bytes), w = b :: r → okTok w = if isLetter b = true then decide (w.length ≤ 16) else if isDigit b = true then (numberOf w).isSome else SIGNS.contains b := fun w r e => by subst e; rfl
    rw [gen _ _ hw, hlen]
  rw [hok, key]
  by_cases c1 : isLetter b = true
  · rw [if_pos c1, if_pos c1]
    by_cases c2 : NAME < q - p
    · rw [if_pos c2]
      have : ¬ q - p ≤ 16 := by have : NAME = 16 := rfl; omega
      exact ⟨fun z => absurd (of_decide_eq_true z) this, fun _ => rfl⟩
    · rw [if_neg c2]
      have : q - p ≤ 16 := by have : NAME = 16 := rfl; omega
      refine ⟨fun _ => ⟨.name ((bs.drop p).take (q - p)), ⟨rfl, b, _, hw, c1, by rw [hlen]; exact this⟩, ?_⟩, fun z => absurd this (of_decide_eq_false z)⟩
      dsimp only
      rw [hdd, show p + (q - p) = q by omega]
  · rw [if_neg c1, if_neg c1]
    by_cases c2 : isDigit b = true
    · rw [if_pos c2, if_pos c2]
      cases e : numberOf ((bs.drop p).take (q - p)) with
      | none => exact ⟨fun z => (nomatch z), fun _ => rfl⟩
      | some n =>
        refine ⟨fun _ => ⟨.num n, ⟨b, _, hw, c2⟩, ?_⟩, fun z => (nomatch z)⟩
        show (LX (p + (q - p)) ((bs.drop p).drop (q - p))).map _ = _
        rw [hdd, show p + (q - p) = q by omega]
    · rw [if_neg c2, if_neg c2]
      have hq := ho (by simpa using c1) (by simpa using c2)
      subst hq
      by_cases c3 : SIGNS.contains b = true
      · rw [if_pos c3]
        refine ⟨fun _ => ⟨.sign b.toNat, ⟨b, ?_, rfl, c3⟩, ?_⟩, fun z => by rw [c3] at z; cases z⟩
        · rw [hw]; simp
        · show (LX (p + 1) ((bs.drop p).drop 1)).map _ = _
          rw [List.drop_drop]
      · rw [if_neg c3]
        exact ⟨fun z => absurd z c3, fun _ => rfl⟩
end Shp
end
section
set_option maxRecDepth 100000
set_option maxHeartbeats 4000000
namespace Shp
open PySem PySem.Spec PyProof.Rows L2
open PySem.StrLaws PySem.Builtin.Str
/-- the codes of a text as the program sees them -/
def sgs (bs : List UInt8) : List Nat := bs.map fun b => sg b.toNat
def TX (bs : List UInt8) : Str := ⟨(sgs bs).toArray⟩
theorem TX_codes (bs : List UInt8) : (TX bs).cps.toList = sgs bs := by simp [TX]
theorem TX_len (bs : List UInt8) : (TX bs).length = bs.length := by
  show (TX bs).cps.size = _
  simp [TX, sgs]
theorem sgs_get {bs : List UInt8} {p : Nat} {b : UInt8} (h : bs[p]? = some b) : (sgs bs)[p]? = some (sg b.toNat) := by simp [sgs, h]
/-! str.find of one sign -/
theorem occ_full (s sub : Str) (hi : Nat) : ∀ (l : List Nat) (a f : Nat), (forIn l ((#[a] : Array Nat), f) (occBody s sub hi 1)).run.fst = #[a]
  | [], a, f => rfl
  | x :: l, a, f => by
    rw [List.forIn_cons]
    unfold occBody
    rw [if_neg (by simp)]
    exact occ_full s sub hi l a f
theorem occ_first (s sub : Str) (hi : Nat) : ∀ (l : List Nat) (f : Nat), (∀ i ∈ l, f ≤ i) → (forIn l ((#[] : Array Nat), f) (occBody s sub hi 1)).run.fst.toList = (l.find? fun i => decide (i + sub.length ≤ hi) && subAt s sub i).toList
  | [], f, _ => rfl
  | x :: l, f, h => by
    rw [List.forIn_cons]
    unfold occBody
    have hx := h x (by simp)
    by_cases c : x + sub.length ≤ hi ∧ subAt s sub x = true
    · rw [if_pos (by simp; exact ⟨⟨hx, c.1⟩, c.2⟩), List.find?_cons_of_pos (by simp [c.1, c.2])]
      show (forIn l ((#[] : Array Nat).push x, _) (occBody s sub hi 1)).run.fst.toList = [x]
      rw [show (#[] : Array Nat).push x = #[x] from rfl, occ_full]
    · rw [if_neg (by rintro ⟨⟨_, h1⟩, h2⟩; exact c ⟨h1, h2⟩), List.find?_cons_of_neg (by simpa using c)]
      exact occ_first s sub hi l f fun i hi' => h i (by simp [hi'])
theorem subAt_one (z : Str) (c i : Nat) (h : i + 1 ≤ z.length) : subAt z ⟨#[c]⟩ i = decide (z.cps.toList[i]? = some c) := by
  have hl : i < z.cps.size := h
  unfold subAt
  have e : z.cps.extract i (i + (⟨#[c]⟩ : Str).length) = #[z.cps[i]] := by
    show z.cps.extract i (i + 1) = _
    apply Array.ext
    · simp; omega
    · intro j h1 h2
      simp only [List.size_toArray, List.length_cons, List.length_nil] at h2
      obtain rfl : j = 0 := by omega
      simp
  rw [e]
  have e2 : z.cps.toList[i]? = some z.cps[i] := by simp [hl]
  rw [e2]
  by_cases c1 : z.cps[i] = c
  · subst c1; simp
  · have : ((#[z.cps[i]] : Array Nat) == #[c]) = false := by simpa using c1
    show ((#[z.cps[i]] : Array Nat) == #[c]) = _
    rw [this]; simp [c1]
/-- where the sign stands first, from a place on -/
theorem find_sign (z : Str) (c p : Nat) (hp : p ≤ z.length) : (Txt.find3 z ⟨#[c]⟩ (p : Int) = -1 ∧ ∀ i, p ≤ i → i < z.length → z.cps.toList[i]? ≠ some c) ∨
    ∃ k : Nat, Txt.find3 z ⟨#[c]⟩ (p : Int) = (k : Int) ∧ p ≤ k ∧ k < z.length ∧ z.cps.toList[k]? = some c ∧ ∀ i, p ≤ i → i < k → z.cps.toList[i]? ≠ some c := by
  have e0 : fromIndex z.length (p : Int) = p := by
    unfold fromIndex
    rw [if_neg (by omega)]; omega
  have e1 : occurrences z ⟨#[c]⟩ p z.length 1 = ((List.range' p (z.length + 1 - p)).find? fun i => decide (i + (⟨#[c]⟩ : Str).length ≤ z.length) && subAt z ⟨#[c]⟩ i).toList := by
    rw [occ_eq]
    exact occ_first z ⟨#[c]⟩ z.length _ p fun i hi => by simp [List.mem_range'] at hi; omega
  have hl1 : (⟨#[c]⟩ : Str).length = 1 := rfl
  unfold Txt.find3
  rw [e0, e1]
  cases e : (List.range' p (z.length + 1 - p)).find? fun i => decide (i + (⟨#[c]⟩ : Str).length ≤ z.length) && subAt z ⟨#[c]⟩ i with
  | none =>
    refine .inl ⟨rfl, fun i h1 h2 q => ?_⟩
    rw [List.find?_eq_none] at e
    have := e i (List.mem_range'_1.mpr ⟨by omega, by omega⟩)
    rw [subAt_one z c i (by omega), q, hl1] at this
    simp at this
    omega
  | some k =>
    rw [List.find?_range'_eq_some] at e
    obtain ⟨h1, h2, h3⟩ := e
    simp only [Bool.and_eq_true, decide_eq_true_eq, hl1] at h1
    rw [List.mem_range'_1] at h2
    refine .inr ⟨k, rfl, by omega, by omega, ?_, fun i hi1 hi2 q => ?_⟩
    · have := h1.2
      rw [subAt_one z c k (by omega)] at this
      simpa using this
    · have := h3 i hi1 hi2
      rw [subAt_one z c i (by omega), q, hl1] at this
      simp at this
      omega
/-! classes of signs -/
theorem alpha_c : ∀ c, c < 128 → Unicode.isAlpha c = cLet c := by decide +kernel
theorem digit_c : ∀ c, c < 128 → Unicode.isDigit c = cDig c := by decide +kernel
theorem alnum_c : ∀ c, c < 128 → Unicode.isAlnum c = (cLet c || cDig c) := by decide +kernel
theorem sg_lt : ∀ c : Nat, sg c < 128 := by
  intro c
  unfold sg
  split
  · rename_i h
    have : ∀ x ∈ AL, x < 128 := by decide
    exact this c (by simpa using h)
  · decide
theorem isalpha_one (c : Nat) (h : c < 128) : Txt.isalpha ⟨#[c]⟩ = cLet c := by
  unfold Txt.isalpha
  have : (⟨#[c]⟩ : Str).length = 1 := rfl
  simp [this, alpha_c c h]
theorem isdigit_one (c : Nat) (h : c < 128) : Txt.isdigit ⟨#[c]⟩ = cDig c := by
  unfold Txt.isdigit
  have : (⟨#[c]⟩ : Str).length = 1 := rfl
  simp [this, digit_c c h]
theorem isalnum_one (c : Nat) (h : c < 128) : Txt.isalnum ⟨#[c]⟩ = (cLet c || cDig c) := by
  unfold Txt.isalnum
  have : (⟨#[c]⟩ : Str).length = 1 := rfl
  simp [this, alnum_c c h]
/-- a sign of the text by its place -/
theorem TX_at {bs : List UInt8} {p : Nat} {b : UInt8} (h : bs[p]? = some b) : atI (TX bs).cps.toList (p : Int) = some (sg b.toNat) := by
  have h2 := sgs_get h
  have hl := (List.getElem?_eq_some_iff.mp h2).1
  rw [TX_codes]
  unfold atI ixN
  rw [if_pos (by omega), if_pos (by omega)]
  exact h2
end Shp
end
section
set_option maxRecDepth 100000
set_option maxHeartbeats 4000000
namespace Shp
open PySem PySem.Spec PyProof.Rows L2
open Vapcma (Form)
section
variable {P : Program} {w : World} {K : PySem.W.Frag} {mg : Str → Option Value} {base : Heap}
def sp_part_end (K : PySem.W.Frag) : Sp := fun vs H Q _ => ∃ (a : Addr) (xs : List Int) (p : Nat) (f : Form) (r : List Int),
  vs = [.ref a, .int p] ∧ SqT K H a (ivs xs) ∧ xs.drop p = enc f ++ r ∧ Q (.int ((p + Vapcma.size f : Nat) : Int)) H
theorem ok_part_end (T : Top K mg) : FnOk P w K mg base CX0 1 T.d_part_end.f T.d_part_end.fd P_part_end (sp_part_end K) := by
  refine T.d_part_end.F.ok sc_part_end (fun vs H Q E h => by obtain ⟨_, _, _, _, _, rfl, _⟩ := h; rfl) (fun cdv A outer s H vs Q E hr h => ?_)
  refine ⟨_, (pss_cons (ps_set (i := 2) sc_part_end.nd rfl (Or.inl rfl) pe_int)
    (pss_cons (ps_while PassesOwn.never (pt_cmpR op_gt (pv 2) pe_int (nomark _)) (pss_cons (ps_if (pt_cmpR op_eq (pe_ix ix_tup (pv 0) (pv 1) (fun _ _ => rfl)) (pe_glob rfl T.c_IMPLIES.choose_spec relI) (nomark _)) (pss_one (ps_set (i := 2) sc_part_end.nd rfl (Or.inl rfl) (pe_op op_add (pv 2) pe_int))) (pss_one (ps_if (pt_cmpR op_ge (pe_ix ix_tup (pv 0) (pv 1) (fun _ _ => rfl)) (pe_glob rfl T.c_FIRST_UNKNOWN.choose_spec relI) (nomark _)) (pss_one (ps_set (i := 2) sc_part_end.nd rfl (Or.inl rfl) (pe_op op_sub (pv 2) pe_int))) pss_nil)))
      (pss_one (ps_set (i := 1) sc_part_end.nd rfl (Or.inl rfl) (pe_op op_add (pv 1) pe_int)))))
    (pss_one (ps_ret (pv 1))))), ?_⟩
  · obtain ⟨a, xs, p, f, r, rfl, ha, hd, hq⟩ := h
    refine while_by (fun σ H' => ∃ (q : Nat) (fs : List Form), σ = [some (.ref a), some (.int q), some (.int fs.length)] ∧ H' = H ∧ xs.drop q = encs fs ++ r ∧ q + sizes fs = p + Vapcma.size f)
      (fun σ _ => match σ with | [_, some (.int q), _] => (p + Vapcma.size f) - q.toNat | _ => 0) ⟨p, [f], rfl, rfl, by simpa [encs] using hd, by simp [sizes]⟩ ?_ ?_
    · rintro σ H' ⟨q, fs, rfl, rfl, h1, h2⟩
      refine ⟨_, rfl, _, _, rfl, rfl, _, rfl, ?_⟩
      cases fs with
      | nil =>
        refine iteF (by simp) ?_
        refine ⟨_, rfl, ?_⟩
        simp only [sizes, List.map_nil, List.sum_nil, Nat.add_zero] at h2
        rw [h2]
        exact hq
      | cons g gs =>
        refine iteT (by simp) ?_
        obtain ⟨z, hs, e1, e2, e3⟩ := encs_head g gs
        rw [e1] at h1
        have hz := ivs_at h1
        have nx : xs.drop (q + 1) = encs hs ++ r := by rw [← List.drop_drop, h1]; rfl
        refine ⟨_, rfl, _, rfl, _, _, _, _, rfl, rfl, ha, atI_nat' hz, rfl, _, rfl, ?_⟩
        have m1 : ((q : Int) + 1) = ((q + 1 : Nat) : Int) := by omega
        rcases e3 with ⟨rfl, e3⟩ | ⟨rfl, e3⟩ | ⟨e0, e3⟩
        · refine iteT (by rfl) ?_
          refine ⟨_, rfl, _, _, rfl, rfl, _, rfl, _, _, rfl, rfl, ?_⟩
          refine ⟨⟨q + 1, hs, ?_, rfl, nx, by omega⟩, ?_⟩
          · rw [e3]; simp <;> omega
          · simp <;> omega
        · refine iteF (by rfl) ?_
          refine ⟨_, rfl, _, rfl, _, _, _, _, rfl, rfl, ha, atI_nat' hz, _, _, rfl, rfl, _, rfl, ?_⟩
          refine iteF (by rfl) ?_
          refine ⟨_, rfl, _, _, rfl, rfl, ?_⟩
          refine ⟨⟨q + 1, hs, ?_, rfl, nx, by omega⟩, ?_⟩
          · rw [e3]; simp <;> omega
          · simp <;> omega
        · refine iteF (by simp <;> omega) ?_
          refine ⟨_, rfl, _, rfl, _, _, _, _, rfl, rfl, ha, atI_nat' hz, _, _, rfl, rfl, _, rfl, ?_⟩
          refine iteT (by simp <;> omega) ?_
          refine ⟨_, rfl, _, _, rfl, rfl, _, rfl, _, _, rfl, rfl, ?_⟩
          refine ⟨⟨q + 1, hs, ?_, rfl, nx, by omega⟩, ?_⟩
          · rw [e3]; simp <;> omega
          · simp <;> omega
    · rintro σ H' Q' Q'' h ⟨v, h1, i, j, h2, h3, k, h4, h5⟩
      exact ⟨v, h1, i, j, h2, h3, k, h4, h _ _ h5⟩
end
end Shp
end
section
set_option maxRecDepth 100000
set_option maxHeartbeats 4000000
namespace Shp
open PySem PySem.Spec PyProof.Rows L2
open Vapcma (Form)
section
variable {P : Program} {w : World} {K : PySem.W.Frag} {mg : Str → Option Value} {base : Heap}
/-- a dict of what has been put for unknowns -/
def PutIs (K : PySem.W.Frag) (H : Hp) (kvs : List (Key × V)) (s : List (Nat × Form)) : Prop :=
  Paired (fun (kv : Key × V) (x : Nat × Form) => kv.1 = .inl ((x.1 : Int) + 2) ∧ ∃ p, kv.2 = .ref p ∧ SqT K H p (ivs (enc x.2))) kvs s
theorem PutIs.same {H H' : Hp} (e : Same H H') : ∀ {kvs : List (Key × V)} {s : List (Nat × Form)}, PutIs K H kvs s → PutIs K H' kvs s
  | _, _, .nil => .nil
  | _, _, .cons ⟨h1, p, h2, h3⟩ r => .cons ⟨h1, p, h2, same_seqT e h3⟩ (PutIs.same e r)
theorem PutIs.find {H : Hp} {v : Nat} : ∀ {kvs : List (Key × V)} {s : List (Nat × Form)}, PutIs K H kvs s →
    (valV kvs (.inl ((v : Int) + 2)) = none ∧ s.find? (fun x => x.1 == v) = none) ∨
    ∃ p t, valV kvs (.inl ((v : Int) + 2)) = some (.ref p) ∧ s.find? (fun x => x.1 == v) = some (v, t) ∧ SqT K H p (ivs (enc t))
  | _, _, .nil => .inl ⟨rfl, rfl⟩
  | (k, u) :: kvs, (x, t) :: s, .cons ⟨h1, p, h2, h3⟩ r => by
    dsimp only at h1 h2 h3
    by_cases c : x = v
    · subst c
      refine .inr ⟨p, t, ?_, ?_, h3⟩
      · rw [valV_pos h1, h2]
      · simp
    · have ne : k ≠ Sum.inl ((v : Int) + 2) := by rw [h1]; intro q; have := Sum.inl.inj q; omega
      have e1 : valV ((k, u) :: kvs) (.inl ((v : Int) + 2)) = valV kvs (.inl ((v : Int) + 2)) := by simp [valV, ne]
      have e2 : List.find? (fun x => x.1 == v) ((x, t) :: s) = List.find? (fun x => x.1 == v) s := by simp [c]
      rw [e1, e2]
      exact PutIs.find r
theorem paired_snoc {α β : Type} {R : α → β → Prop} {x : α} {y : β} (q : R x y) : ∀ {xs : List α} {ys : List β}, Paired R xs ys → Paired R (xs ++ [x]) (ys ++ [y])
  | _, _, .nil => .cons q .nil
  | _, _, .cons a r => .cons a (paired_snoc q r)
theorem putK_none {kvs : List (Key × V)} {k : Key} {v : V} (h : valV kvs k = none) : putK kvs k v = kvs ++ [(k, v)] := by
  unfold putK
  rw [if_neg]
  intro q
  rw [List.any_eq_true] at q
  obtain ⟨x, hx, e⟩ := q
  unfold valV at h
  rw [Option.map_eq_none_iff, List.find?_eq_none] at h
  exact h x hx e
/-- part of a tuple of ints -/
theorem cut_ints {xs : List Int} {p q : Nat} (h : p ≤ q) (hq : q ≤ xs.length) : cutV (ivs xs) (some (p : Int)) (some (q : Int)) = ivs ((xs.drop p).take (q - p)) := by
  unfold cutV
  rw [HT.sIx_nat, HT.sIx_nat, ivs_len, Nat.min_eq_left (Nat.le_trans h hq), Nat.min_eq_left hq]
  unfold ivs
  rw [List.map_take, List.map_drop]
/-- a tuple stands where something else is stored -/
theorem seqT_upd {H : Hp} {d p : Addr} {o o' : HO} {xs : List V} (hd : H d = some o) (hn : ∀ xs, o ≠ .tup xs) (h : SqT K H p xs) (hf : ∀ q u, o ≠ .frz q u := by intro _ _ z; cases z) : SqT K (upd H d o') p xs := by
  rcases h with h | h
  · refine .inl ?_
    have ne : p ≠ d := by
      rintro rfl
      rcases h with h | ⟨q, h⟩
      · rw [hd] at h; exact hn _ (Option.some.inj h)
      · rw [hd] at h; exact hf _ _ (Option.some.inj h)
    rcases h with h | ⟨q, h⟩
    · exact .inl (by rw [upd_ne ne]; exact h)
    · exact .inr ⟨q, by rw [upd_ne ne]; exact h⟩
  · exact .inr h
theorem PutIs.upd {H : Hp} {d : Addr} {kvs0 : List (Key × V)} {o' : HO} (hd : H d = some (.dK kvs0)) : ∀ {kvs : List (Key × V)} {s : List (Nat × Form)}, PutIs K H kvs s → PutIs K (upd H d o') kvs s
  | _, _, .nil => .nil
  | _, _, .cons ⟨h1, p, h2, h3⟩ r => .cons ⟨h1, p, h2, seqT_upd hd (by rintro xs z; cases z) h3⟩ (PutIs.upd hd r)
def sp_is_instance (K : PySem.W.Frag) : Sp := fun vs H Q _ => ∃ (a b : Addr) (f g : Form),
  vs = [.ref a, .ref b] ∧ SqT K H a (ivs (enc f)) ∧ SqT K H b (ivs (enc g)) ∧ Vapcma.size g ≤ 1000 ∧ ∀ H', Same H H' → Q (.bl (Vapcma.instanceOf g f)) H'
theorem ok_is_instance (T : Top K mg) : FnOk P w K mg base CX0 2 T.d_is_instance.f T.d_is_instance.fd P_is_instance (sp_is_instance K) := by
  refine T.d_is_instance.F.ok sc_is_instance (fun vs H Q E h => by obtain ⟨_, _, _, _, rfl, _⟩ := h; rfl) (fun cdv A outer s H vs Q E hr h => ?_)
  refine ⟨_, (pss_cons (ps_set (i := 2) sc_is_instance.nd rfl (Or.inl rfl) pe_dnewK)
    (pss_cons (ps_set (i := 3) sc_is_instance.nd rfl (Or.inl rfl) pe_int)
    (pss_cons (ps_for PassesOwn.never rfl (pi_tup (pv 1)) (pg_name (i := 4) sc_is_instance.nd rfl (Or.inl rfl))
      (pss_one (ps_if (pt_cmpR op_lt (pv 4) (pe_glob rfl T.c_FIRST_UNKNOWN.choose_spec relI) (nomark _)) (pss_cons (ps_if (pt_cmpR op_ne (pe_ix ix_tup (pv 0) (pv 3) (fun _ _ => rfl)) (pv 4) (nomark _)) (pss_one (ps_ret pe_bl)) pss_nil)
        (pss_one (ps_set (i := 3) sc_is_instance.nd rfl (Or.inl rfl) (pe_op op_add (pv 3) pe_int)))) (pss_cons (ps_set (i := 5) sc_is_instance.nd rfl (Or.inl rfl) (pe_call (ok_part_end T) (hr.mono (by decide)) rfl T.d_part_end.mg T.d_part_end.F.kp T.d_part_end.b .nil pass0 (pa_cons (pv 0) (pa_cons (pv 3) pa_nil))))
        (pss_cons (ps_set (i := 6) sc_is_instance.nd rfl (Or.inl rfl) (pe_slice sl_tupA (pv 0) (po_some (pv 3)) (po_some (pv 5))))
        (pss_cons (ps_if (pt_cmpR (op_neD hr.units) (pe_dsetd (pv 2) (pv 4) (pv 6) ⟨rfl, rfl, rfl, rfl⟩) (pv 6) (nomark _)) (pss_one (ps_ret pe_bl)) pss_nil)
        (pss_one (ps_set (i := 3) sc_is_instance.nd rfl (Or.inl rfl) (pv 5)))))))))
    (pss_one (ps_ret pe_bl))))), ?_⟩
  obtain ⟨a, b, f, g, rfl, ha, hb, hz, hq⟩ := h
  intro d hd
  refine ⟨_, rfl, b, rfl, ⟨_, same_seqT (same_new hd) hb⟩, for_tup (K := K) (a := b) (xs := ivs (enc g)) (fun i σ H' => ∃ (gs fs : List Form) (q : Nat) (kvs : List (Key × V)) (s : List (Nat × Form)) (v4 v5 v6 : Option V),
      σ = [some (.ref a), some (.ref b), some (.ref d), some (.int q), v4, v5, v6] ∧ Same H H' ∧ H' d = some (.dK kvs) ∧ PutIs K H' kvs s ∧ kvs.length ≤ i ∧
      (enc g).drop i = encs gs ∧ (enc f).drop q = encs fs ∧ gs.length = fs.length ∧ matchAll [g] [f] [] = matchAll gs fs s)
    ?_ (fun i σ H' _ ⟨_, _, _, _, _, _, _, _, _, s5, _⟩ => same_seqT s5 hb) ?_ ?_⟩
  · exact ⟨[g], [f], 0, [], [], none, none, none, rfl, same_new hd, upd_same, .nil, Nat.le_refl _, by simp [encs], by simp [encs], rfl, rfl⟩
  · rintro i y σ H' hi ⟨gs, fs, q, kvs, s, v4, v5, v6, rfl, sm, hd', pi, hk, hg, hf, hl, hm⟩
    obtain ⟨z, rfl, hz1⟩ := ivs_back hi
    have hlen : i < (enc g).length := (List.getElem?_eq_some_iff.mp hz1).1
    rw [enc_len] at hlen
    cases gs with
    | nil =>
      exfalso
      have e := get_drop (xs := enc g) (i := i) (z := z) (r := (enc g).drop (i + 1)) (by
        rw [List.drop_eq_getElem_cons (by rw [enc_len]; exact hlen)]
        congr 1
        exact (List.getElem?_eq_some_iff.mp hz1).2)
      have : (enc g).drop i = [] := hg
      rw [List.drop_eq_nil_iff, enc_len] at this
      omega
    | cons g1 gs =>
      cases fs with
      | nil => simp at hl
      | cons f1 fs =>
        have hl' : gs.length = fs.length := by simpa using hl
        have hc : ∃ gr, encs (g1 :: gs) = z :: gr := by
          rw [← hg]
          refine ⟨(enc g).drop (i + 1), ?_⟩
          rw [List.drop_eq_getElem_cons (by rw [enc_len]; exact hlen)]
          congr 1
          exact (List.getElem?_eq_some_iff.mp hz1).2
        obtain ⟨gr, hgr⟩ := hc
        have hgd : (enc g).drop (i + 1) = gr := drop_more (z := z) (by rw [hg, hgr])
        refine ⟨_, rfl, _, _, rfl, rfl, _, rfl, ?_⟩
        by_cases c : z < 2
        · refine iteT (decide_eq_true c) ?_
          obtain ⟨z', fr, hfr, n1, n2⟩ := match_sign (f := f1) (fs := fs) (s := s) hgr c hl'
          have hz' := ivs_at (hf.trans hfr)
          refine ⟨_, rfl, _, rfl, _, _, _, _, rfl, rfl, same_seqT sm ha, atI_nat' hz', _, rfl, rfl, _, rfl, ?_⟩
          by_cases c2 : z' = z
          · refine iteF (by simp [c2]) ?_
            obtain ⟨gs', fs', rfl, rfl, l2, m2⟩ := n2 c2
            refine ⟨_, rfl, _, _, rfl, rfl, ?_⟩
            exact ⟨gs', fs', q + 1, kvs, s, _, v5, v6, rfl, sm, hd', pi, by omega, hgd, drop_more (hf.trans hfr), l2, hm.trans m2⟩
          · refine iteT (by simp [c2]) ?_
            have := hq H' sm
            rw [Vapcma.instanceOf, ← matchAll_one, hm, n1 c2] at this
            exact this
        · refine iteF (decide_eq_false c) ?_
          obtain ⟨v, rfl, rfl, mv⟩ := match_var (f := f1) (fs := fs) (s := s) hgr c
          have hfe : (enc f).drop q = enc f1 ++ encs fs := hf
          refine ⟨_, rfl, _, rfl, a, enc f, q, f1, encs fs, rfl, same_seqT sm ha, hfe, ?_⟩
          have hql : q + Vapcma.size f1 ≤ (enc f).length := by
            have := congrArg List.length hfe
            rw [List.length_drop, List.length_append, enc_len f1] at this
            have := Vapcma.size f1
            have h0 := enc_len f1
            have : 0 < (enc f1).length := by cases f1 <;> simp [enc]
            omega
          have hcut : cutV (ivs (enc f)) (some (q : Int)) (some ((q + Vapcma.size f1 : Nat) : Int)) = ivs (enc f1) := by
            rw [cut_ints (by omega) hql, hfe]
            congr 1
            rw [List.take_append_of_le_length (by rw [enc_len]; omega)]
            rw [List.take_of_length_le (by rw [enc_len]; omega)]
          refine ⟨_, rfl, _, rfl, _, rfl, _, rfl, _, rfl, slA_of (same_seqT sm ha) fun p H2 sm2 hp => ?_⟩
          rw [hcut] at hp
          have hd2 := sm2 _ _ hd'
          have pi2 := pi.same sm2
          have sm3 : Same H H2 := sm.trans sm2
          have hkz : kvs.length < sizeLine := by
            have : kvs.length < 1000 := by omega
            exact Nat.lt_of_lt_of_le this (by decide)
          refine ⟨_, rfl, d, rfl, .inl ⟨kvs, .inl hd2⟩, _, rfl, _, rfl, kvs, .inl ((v : Int) + 2), hd2, rfl, hkz, fun u hu => ?_, fun hn => ?_⟩
          · rcases pi2.find (v := v) with ⟨e1, e2⟩ | ⟨p0, t, e1, e2, e3⟩
            · rw [e1] at hu; cases hu
            · rw [e1] at hu
              cases hu
              refine ⟨_, rfl, _, _, dp_tup e3, dp_tup hp, shaped_ints _, shaped_ints _, _, rfl, ?_⟩
              rw [eqv_tup]
              rw [e2] at mv
              dsimp only at mv
              by_cases c3 : t = f1
              · refine iteF (by simp [c3]) ?_
                rw [if_pos c3] at mv
                refine ⟨_, rfl, gs, fs, q + Vapcma.size f1, kvs, s, _, _, _, rfl, sm3, hd2, pi2, by omega, hgd, ?_, hl', hm.trans mv⟩
                rw [← List.drop_drop, hfe, List.drop_append_of_le_length (by rw [enc_len]; omega), List.drop_of_length_le (by rw [enc_len]; omega), List.nil_append]
              · refine iteT (by simp; exact fun z => c3 (enc_eq z)) ?_
                rw [if_neg c3] at mv
                have := hq H2 sm3
                rw [Vapcma.instanceOf, ← matchAll_one, hm, mv] at this
                exact this
          · rcases pi2.find (v := v) with ⟨e1, e2⟩ | ⟨p0, t, e1, e2, e3⟩
            · rw [putK_none e1]
              have sm4 : Same H (upd H2 d (.dK (kvs ++ [(Sum.inl ((v : Int) + 2), V.ref p)]))) := same_old sm3 hd
              have hp4 : SqT K (upd H2 d (.dK (kvs ++ [(Sum.inl ((v : Int) + 2), V.ref p)]))) p (ivs (enc f1)) := seqT_upd hd2 (by rintro xs z; cases z) hp
              refine ⟨_, rfl, _, _, dp_tup hp4, dp_tup hp4, shaped_ints _, shaped_ints _, _, rfl, ?_⟩
              rw [eqv_tup]
              refine iteF (by simp) ?_
              rw [e2] at mv
              dsimp only at mv
              refine ⟨_, rfl, gs, fs, q + Vapcma.size f1, _, s ++ [(v, f1)], _, _, _, rfl, sm4, upd_same, ?_, by simp; omega, hgd, ?_, hl', hm.trans mv⟩
              · exact paired_snoc ⟨rfl, p, rfl, hp4⟩ (pi2.upd hd2)
              · rw [← List.drop_drop, hfe, List.drop_append_of_le_length (by rw [enc_len]; omega), List.drop_of_length_le (by rw [enc_len]; omega), List.nil_append]
            · rw [e1] at hn; cases hn
  · rintro σ H' ⟨gs, fs, q, kvs, s, v4, v5, v6, rfl, sm, hd', pi, hk, hg, hf, hl, hm⟩
    have := hq H' sm
    have e : gs = [] := by
      rw [ivs_len, List.drop_length] at hg
      cases gs with
      | nil => rfl
      | cons g1 gs => obtain ⟨z, gr, e, _⟩ := encs_head g1 gs; rw [e] at hg; cases hg
    subst e
    obtain rfl : fs = [] := by simpa using hl.symm
    rw [Vapcma.instanceOf, ← matchAll_one, hm] at this
    exact this
end
end Shp
end
section
set_option maxRecDepth 100000
set_option maxHeartbeats 4000000
namespace Shp
open PySem PySem.Spec PyProof.Rows L2
open VapcmBase (isLetter isDigit isBlank SIGNS numberOf)
section
variable {P : Program} {w : World} {K : PySem.W.Frag} {mg : Str → Option Value} {base : Heap}
theorem TX_small {bs : List UInt8} (h : bs.length ≤ 4096) : (TX bs).length ≤ sizeLine := by
  rw [TX_len]; exact small_ok (m := 4096) h
def sp_remark_end (K : PySem.W.Frag) : Sp := fun vs H Q _ => ∃ (bs : List UInt8) (p : Nat),
  vs = [.str (TX bs), .int (p : Int)] ∧ bs.length ≤ 4096 ∧ p < bs.length ∧
  ∀ q : Nat, p ≤ q → q ≤ bs.length → (∀ (i : Nat) (x : UInt8), p ≤ i → i < q → bs[i]? = some x → x ≠ 10) → (∀ x, bs[q]? = some x → x = 10) → Q (.int (q : Int)) H
theorem ok_remark_end (T : Top K mg) : FnOk P w K mg base CX0 1 T.d_remark_end.f T.d_remark_end.fd P_remark_end (sp_remark_end K) := by
  refine T.d_remark_end.F.ok sc_remark_end (fun vs H Q E h => by obtain ⟨_, _, rfl, _⟩ := h; rfl) (fun cdv A outer s H vs Q E hr h => ?_)
  refine ⟨_, (pss_cons (ps_set (i := 2) sc_remark_end.nd rfl (Or.inl rfl) (pe_bm PySem.F.plainAttrs_str PySem.F.slot_str_find PySem.F.type_str_find mt_find3 (pv 0) (pa_cons pe_str (pa_cons (pv 1) pa_nil))))
    (pss_cons (ps_if (pt_cmpR op_lt (pv 2) pe_int (nomark _)) (pss_one (ps_ret (pe_callB call_len_str (by rfl) T.b_len PySem.boot_len (pa_cons (pv 0) pa_nil)))) pss_nil)
    (pss_one (ps_ret (pv 2))))), ?_⟩
  obtain ⟨bs, p, rfl, hz, hp, hk⟩ := h
  have nl : ∀ (i : Nat) (x : UInt8), bs[i]? = some x → ((TX bs).cps.toList[i]? = some 10 ↔ x = 10) := fun i x hx => by
    rw [TX_codes, sgs_get hx]
    have := (byte_is x).n
    constructor
    · intro h
      have h' : sg x.toNat = 10 := Option.some.inj h
      rw [h'] at this
      simpa using this
    · rintro rfl; decide
  have e10 : (Str.ofString "\n") = ⟨#[10]⟩ := by decide +kernel
  refine ⟨_, rfl, rfl, _, rfl, _, _, _, rfl, rfl, ?_⟩
  rw [e10]
  rcases find_sign (TX bs) 10 p (by rw [TX_len]; omega) with ⟨h1, h2⟩ | ⟨k, h1, h2, h3, h4, h5⟩
  · rw [h1]
    refine ⟨_, rfl, _, _, rfl, rfl, _, rfl, ?_⟩
    refine ⟨_, rfl, _, rfl, TX_small hz, ?_⟩
    rw [TX_len]
    refine hk bs.length (by omega) (Nat.le_refl _) (fun i x hi hi2 hx e => ?_) (fun x hx => ?_)
    · exact h2 i hi (by rw [TX_len]; exact hi2) ((nl i x hx).mpr e)
    · rw [List.getElem?_eq_none (Nat.le_refl _)] at hx; cases hx
  · rw [h1]
    rw [TX_len] at h3
    refine ⟨_, rfl, _, _, rfl, rfl, _, rfl, ?_⟩
    refine iteF (by simp <;> omega) ?_
    refine ⟨_, rfl, ?_⟩
    refine hk k h2 (by omega) (fun i x hi hi2 hx e => h5 i hi hi2 ((nl i x hx).mpr e)) (fun x hx => (nl k x hx).mp h4)
def sp_token_place (K : PySem.W.Frag) : Sp := fun vs H Q _ => ∃ (bs : List UInt8) (p : Nat),
  vs = [.str (TX bs), .int (p : Int)] ∧ bs.length ≤ 4096 ∧ p ≤ bs.length ∧
  ∀ q : Nat, p ≤ q → q ≤ bs.length → LX p (bs.drop p) = LX q (bs.drop q) → (∀ x, bs[q]? = some x → isBlank x = false ∧ x ≠ 35) → Q (.int (q : Int)) H
theorem ok_token_place (T : Top K mg) : FnOk P w K mg base CX0 2 T.d_token_place.f T.d_token_place.fd P_token_place (sp_token_place K) := by
  refine T.d_token_place.F.ok sc_token_place (fun vs H Q E h => by obtain ⟨_, _, rfl, _⟩ := h; rfl) (fun cdv A outer s H vs Q E hr h => ?_)
  refine ⟨_, (pss_cons (ps_while PassesOwn.never (PW.pt (pw_and (pt_cmpR op_lt (pv 1) (pe_callB call_len_str (by rfl) T.b_len PySem.boot_len (pa_cons (pv 0) pa_nil)) (nomark _)) (pw_and1 (pt_cmpR op_in_sign (pe_ix ix_str (pv 0) (pv 1) (fun _ _ => rfl)) (pe_op op_add_str (pe_glob rfl T.c_BLANKS.choose_spec relS) (pe_glob rfl T.c_REMARK.choose_spec relS)) rfl)))) (pss_one (ps_if (pt_cmpR op_eq (pe_ix ix_str (pv 0) (pv 1) (fun _ _ => rfl)) (pe_glob rfl T.c_REMARK.choose_spec relS) (nomark _)) (pss_one (ps_set (i := 1) sc_token_place.nd rfl (Or.inl rfl) (pe_call (ok_remark_end T) (hr.mono (by decide)) rfl T.d_remark_end.mg T.d_remark_end.F.kp T.d_remark_end.b .nil pass0 (pa_cons (pv 0) (pa_cons (pv 1) pa_nil))))) (pss_one (ps_set (i := 1) sc_token_place.nd rfl (Or.inl rfl) (pe_op op_add (pv 1) pe_int))))))
    (pss_one (ps_ret (pv 1)))), ?_⟩
  obtain ⟨bs, p, rfl, hz, hp, hk⟩ := h
  have eAB : (Str.ofString " \t\n" ++ Str.ofString "#").cps.toList = [32, 9, 10, 35] := by decide +kernel
  have e35 : (Str.ofString "#") = ⟨#[35]⟩ := by decide +kernel
  refine ⟨fun m σ H' => H' = H ∧ ∃ q : Nat, m = bs.length - q ∧ σ = [some (.str (TX bs)), some (.int (q : Int))] ∧ p ≤ q ∧ q ≤ bs.length ∧ LX p (bs.drop p) = LX q (bs.drop q), ⟨_, rfl, p, rfl, rfl, Nat.le_refl _, hp, rfl⟩, ?_⟩
  rintro m σ H' ⟨rfl, q, rfl, rfl, h1, h2, h3⟩
  refine ⟨_, rfl, _, rfl, _, rfl, TX_small hz, _, _, rfl, rfl, _, rfl, ?_⟩
  rw [TX_len]
  by_cases c : q < bs.length
  · refine iteT (by simp; exact c) ?_
    obtain ⟨b, hb⟩ : ∃ b, bs[q]? = some b := ⟨bs[q], List.getElem?_eq_getElem c⟩
    have hB := byte_is b
    refine ⟨_, rfl, _, rfl, _, _, _, rfl, rfl, TX_small hz, TX_at hb, _, _, rfl, rfl, (by decide +kernel), _, _, rfl, rfl, _, rfl, ?_⟩
    rw [eAB]
    have hmem : (decide (sg b.toNat ∈ [32, 9, 10, 35]) = true) ↔ (isBlank b = true ∨ b = 35) := by
      rw [hB.bl, decide_eq_true_eq]
      have h35 : b = 35 ↔ sg b.toNat = 35 := by
        have := hB.r
        rw [Bool.eq_iff_iff, beq_iff_eq, beq_iff_eq] at this
        exact this
      rw [h35]
      simp only [cBl, List.mem_cons, List.not_mem_nil, or_false, Bool.or_eq_true, beq_iff_eq]
      constructor
      · rintro (h | h | h | h)
        · exact .inl (.inl h)
        · exact .inl (.inr (.inl h))
        · exact .inl (.inr (.inr h))
        · exact .inr h
      · rintro ((h | h | h) | h)
        · exact .inl h
        · exact .inr (.inl h)
        · exact .inr (.inr (.inl h))
        · exact .inr (.inr (.inr h))
    by_cases c2 : isBlank b = true ∨ b = 35
    · refine iteT (hmem.mpr c2) ?_
      refine ⟨_, fun _ _ h => h, ?_⟩
      refine ⟨_, rfl, _, rfl, _, _, _, rfl, rfl, TX_small hz, TX_at hb, rfl, _, rfl, ?_⟩
      by_cases c3 : b = 35
      · refine iteT (by rw [c3]; decide +kernel) ?_
        refine ⟨_, rfl, _, rfl, bs, q, rfl, hz, c, fun r hr1 hr2 hr3 hr4 => ?_⟩
        have hqr : q < r := by
          rcases Nat.lt_or_ge q r with h | h
          · exact h
          · obtain rfl : r = q := by omega
            have := hr4 b hb
            rw [c3] at this
            cases this
        exact ⟨_, by omega, rfl, r, rfl, rfl, by omega, hr2, h3.trans (lx_rem hb c3 hqr hr2 hr3 hr4)⟩
      · have hbl : isBlank b = true := c2.resolve_right c3
        have h35 : ¬ sg b.toNat = 35 := fun e => by
          have := hB.r
          rw [e] at this
          exact c3 (by simpa using this)
        refine iteF (by rw [e35]; simpa using h35) ?_
        refine ⟨_, rfl, _, _, rfl, rfl, ?_⟩
        exact ⟨_, by omega, rfl, q + 1, rfl, rfl, by omega, by omega, h3.trans (lx_blank hb hbl)⟩
    · refine iteF (by rw [Bool.eq_false_iff]; exact fun h => c2 (hmem.mp h)) ?_
      refine ⟨_, rfl, ?_⟩
      refine hk q h1 h2 h3 fun x hx => ?_
      rw [hb] at hx
      cases hx
      rw [not_or] at c2
      exact ⟨by simpa using c2.1, c2.2⟩
  · refine iteF (by simp; omega) ?_
    refine ⟨_, rfl, ?_⟩
    obtain rfl : q = bs.length := by omega
    exact hk bs.length h1 h2 h3 fun x hx => by rw [List.getElem?_eq_none (Nat.le_refl _)] at hx; cases hx
def sp_token_end (K : PySem.W.Frag) : Sp := fun vs H Q _ => ∃ (bs : List UInt8) (p : Nat) (b : UInt8),
  vs = [.str (TX bs), .int (p : Int)] ∧ bs.length ≤ 4096 ∧ bs[p]? = some b ∧ ∀ q : Nat, EndsAt bs p q b → Q (.int (q : Int)) H
theorem ok_token_end (T : Top K mg) : FnOk P w K mg base CX0 1 T.d_token_end.f T.d_token_end.fd P_token_end (sp_token_end K) := by
  refine T.d_token_end.F.ok sc_token_end (fun vs H Q E h => by obtain ⟨_, _, _, rfl, _⟩ := h; rfl) (fun cdv A outer s H vs Q E hr h => ?_)
  refine ⟨_, (pss_cons (ps_set (i := 2) sc_token_end.nd rfl (Or.inl rfl) (pe_op op_add (pv 1) pe_int))
    (pss_cons (ps_if (pt_val (pe_bm0 PySem.F.plainAttrs_str PySem.F.slot_str_isalpha PySem.F.type_str_isalpha mt_isalpha (pe_ix ix_str (pv 0) (pv 1) (fun _ _ => rfl)))) (pss_one (ps_while PassesOwn.never (PW.pt (pw_and (pt_cmpR op_lt (pv 2) (pe_callB call_len_str (by rfl) T.b_len PySem.boot_len (pa_cons (pv 0) pa_nil)) (nomark _)) (pw_and1 (pt_val (pe_bm0 PySem.F.plainAttrs_str PySem.F.slot_str_isalnum PySem.F.type_str_isalnum mt_isalnum (pe_ix ix_str (pv 0) (pv 2) (fun _ _ => rfl))))))) (pss_one (ps_set (i := 2) sc_token_end.nd rfl (Or.inl rfl) (pe_op op_add (pv 2) pe_int))))) (pss_one (ps_if (pt_val (pe_bm0 PySem.F.plainAttrs_str PySem.F.slot_str_isdigit PySem.F.type_str_isdigit mt_isdigit (pe_ix ix_str (pv 0) (pv 1) (fun _ _ => rfl)))) (pss_one (ps_while PassesOwn.never (PW.pt (pw_and (pt_cmpR op_lt (pv 2) (pe_callB call_len_str (by rfl) T.b_len PySem.boot_len (pa_cons (pv 0) pa_nil)) (nomark _)) (pw_and1 (pt_val (pe_bm0 PySem.F.plainAttrs_str PySem.F.slot_str_isdigit PySem.F.type_str_isdigit mt_isdigit (pe_ix ix_str (pv 0) (pv 2) (fun _ _ => rfl))))))) (pss_one (ps_set (i := 2) sc_token_end.nd rfl (Or.inl rfl) (pe_op op_add (pv 2) pe_int))))) pss_nil)))
    (pss_one (ps_ret (pv 2))))), ?_⟩
  obtain ⟨bs, p, b, rfl, hz, hb, hk⟩ := h
  have hp := (List.getElem?_eq_some_iff.mp hb).1
  have hB := byte_is b
  refine ⟨_, rfl, _, _, rfl, rfl, ?_⟩
  have run : ∀ (P : UInt8 → Bool), P b = true → ∀ q : Nat, p + 1 ≤ q → True := fun _ _ _ _ => trivial
  refine ⟨_, rfl, _, rfl, _, _, _, rfl, rfl, TX_small hz, TX_at hb, rfl, _, rfl, rfl, trivial, _, rfl, ?_⟩
  rw [isalpha_one _ (sg_lt _), ← hB.l]
  cases cl : isLetter b with
  | true =>
    refine iteT rfl ?_
    refine ⟨fun m σ H' => H' = H ∧ ∃ q : Nat, m = bs.length - q ∧ σ = [some (.str (TX bs)), some (.int (p : Int)), some (.int (q : Int))] ∧ p < q ∧ q ≤ bs.length ∧
      (∀ (i : Nat) (x : UInt8), p ≤ i → i < q → bs[i]? = some x → (isLetter x || isDigit x) = true), ⟨_, rfl, p + 1, rfl, rfl, by omega, by omega, fun i x h1 h2 hx => ?_⟩, ?_⟩
    · obtain rfl : i = p := by omega
      rw [hb] at hx; cases hx
      rw [cl]; rfl
    rintro m σ H' ⟨rfl, q, rfl, rfl, h1, h2, h3⟩
    refine ⟨_, rfl, _, rfl, _, rfl, TX_small hz, _, _, rfl, rfl, _, rfl, ?_⟩
    rw [TX_len]
    by_cases c : q < bs.length
    · refine iteT (by simp; exact c) ?_
      obtain ⟨x, hx⟩ : ∃ x, bs[q]? = some x := ⟨bs[q], List.getElem?_eq_getElem c⟩
      have hX := byte_is x
      refine ⟨_, rfl, _, rfl, _, _, _, rfl, rfl, TX_small hz, TX_at hx, rfl, _, rfl, rfl, trivial, _, rfl, ?_⟩
      rw [isalnum_one _ (sg_lt _), ← hX.l, ← hX.d]
      cases cx : (isLetter x || isDigit x) with
      | true =>
        refine iteT rfl ?_
        refine ⟨_, fun _ _ h => h, ?_⟩
        refine ⟨_, rfl, _, _, rfl, rfl, ?_⟩
        refine ⟨_, by omega, rfl, q + 1, rfl, rfl, by omega, by omega, fun i y h4 h5 hy => ?_⟩
        by_cases e : i = q
        · subst e; rw [hx] at hy; cases hy; exact cx
        · exact h3 i y h4 (by omega) hy
      | false =>
        refine iteF rfl ?_
        refine ⟨_, rfl, ?_⟩
        exact hk q ⟨h1, h2, fun _ => ⟨h3, fun y hy => by rw [hx] at hy; cases hy; exact cx⟩, fun h => (nomatch (cl.symm.trans h)), fun h => (nomatch (cl.symm.trans h))⟩
    · refine iteF (by simp; omega) ?_
      refine ⟨_, rfl, ?_⟩
      obtain rfl : q = bs.length := by omega
      exact hk bs.length ⟨h1, h2, fun _ => ⟨h3, fun y hy => by rw [List.getElem?_eq_none (Nat.le_refl _)] at hy; cases hy⟩, fun h => (nomatch (cl.symm.trans h)), fun h => (nomatch (cl.symm.trans h))⟩
  | false =>
    refine iteF rfl ?_
    refine ⟨_, rfl, _, rfl, _, _, _, rfl, rfl, TX_small hz, TX_at hb, rfl, _, rfl, rfl, trivial, _, rfl, ?_⟩
    rw [isdigit_one _ (sg_lt _), ← hB.d]
    cases cd : isDigit b with
    | true =>
      refine iteT rfl ?_
      refine ⟨fun m σ H' => H' = H ∧ ∃ q : Nat, m = bs.length - q ∧ σ = [some (.str (TX bs)), some (.int (p : Int)), some (.int (q : Int))] ∧ p < q ∧ q ≤ bs.length ∧
        (∀ (i : Nat) (x : UInt8), p ≤ i → i < q → bs[i]? = some x → isDigit x = true), ⟨_, rfl, p + 1, rfl, rfl, by omega, by omega, fun i x h1 h2 hx => ?_⟩, ?_⟩
      · obtain rfl : i = p := by omega
        rw [hb] at hx; cases hx
        exact cd
      rintro m σ H' ⟨rfl, q, rfl, rfl, h1, h2, h3⟩
      refine ⟨_, rfl, _, rfl, _, rfl, TX_small hz, _, _, rfl, rfl, _, rfl, ?_⟩
      rw [TX_len]
      by_cases c : q < bs.length
      · refine iteT (by simp; exact c) ?_
        obtain ⟨x, hx⟩ : ∃ x, bs[q]? = some x := ⟨bs[q], List.getElem?_eq_getElem c⟩
        have hX := byte_is x
        refine ⟨_, rfl, _, rfl, _, _, _, rfl, rfl, TX_small hz, TX_at hx, rfl, _, rfl, rfl, trivial, _, rfl, ?_⟩
        rw [isdigit_one _ (sg_lt _), ← hX.d]
        cases cx : isDigit x with
        | true =>
          refine iteT rfl ?_
          refine ⟨_, fun _ _ h => h, ?_⟩
          refine ⟨_, rfl, _, _, rfl, rfl, ?_⟩
          refine ⟨_, by omega, rfl, q + 1, rfl, rfl, by omega, by omega, fun i y h4 h5 hy => ?_⟩
          by_cases e : i = q
          · subst e; rw [hx] at hy; cases hy; exact cx
          · exact h3 i y h4 (by omega) hy
        | false =>
          refine iteF rfl ?_
          refine ⟨_, rfl, ?_⟩
          exact hk q ⟨h1, h2, fun h => (nomatch (cl.symm.trans h)), fun _ _ => ⟨h3, fun y hy => by rw [hx] at hy; cases hy; exact cx⟩, fun _ h => (nomatch (cd.symm.trans h))⟩
      · refine iteF (by simp; omega) ?_
        refine ⟨_, rfl, ?_⟩
        obtain rfl : q = bs.length := by omega
        exact hk bs.length ⟨h1, h2, fun h => (nomatch (cl.symm.trans h)), fun _ _ => ⟨h3, fun y hy => by rw [List.getElem?_eq_none (Nat.le_refl _)] at hy; cases hy⟩, fun _ h => (nomatch (cd.symm.trans h))⟩
    | false =>
      refine iteF rfl ?_
      refine ⟨_, rfl, ?_⟩
      exact hk (p + 1) ⟨by omega, by omega, fun h => (nomatch (cl.symm.trans h)), fun _ h => (nomatch (cd.symm.trans h)), fun _ _ => rfl⟩
end
end Shp
end
section
set_option maxRecDepth 100000
set_option maxHeartbeats 4000000
namespace Shp
open PySem PySem.Spec PyProof.Rows L2
open VapcmBase (isLetter isDigit isBlank SIGNS numberOf decimal NUMBER RESERVED word)
section
variable {P : Program} {w : World} {K : PySem.W.Frag} {mg : Str → Option Value} {base : Heap}
/-- bytes that tokens are made of -/
def PlainB (u : List UInt8) : Prop := ∀ x ∈ u, isLetter x = true ∨ isDigit x = true ∨ SIGNS.contains x = true
theorem TX_plain {u : List UInt8} (h : PlainB u) : TX u = bx u := by
  unfold TX bx
  congr 2
  exact List.map_congr_left fun x hx => (byte_is x).e (h x hx)
theorem tok_plain {bs : List UInt8} {p q : Nat} {b : UInt8} (hb : bs[p]? = some b) (E : EndsAt bs p q b) (ok : okTok ((bs.drop p).take (q - p)) = true) : PlainB ((bs.drop p).take (q - p)) := by
  intro x hx
  obtain ⟨i, hi⟩ := List.mem_iff_getElem?.mp hx
  have hlt : i < q - p := by
    have := (List.getElem?_eq_some_iff.mp hi).1
    rw [List.length_take] at this; omega
  rw [List.getElem?_take_of_lt hlt, List.getElem?_drop] at hi
  cases cl : isLetter b with
  | true =>
    have := (E.l cl).1 (p + i) x (by omega) (by omega) hi
    rw [Bool.or_eq_true] at this
    rcases this with h | h
    · exact .inl h
    · exact .inr (.inl h)
  | false =>
    cases cd : isDigit b with
    | true => exact .inr (.inl ((E.d cl cd).1 (p + i) x (by omega) (by omega) hi))
    | false =>
      have := E.o cl cd
      obtain rfl : i = 0 := by omega
      rw [Nat.add_zero, hb] at hi
      cases hi
      have hw : (bs.drop p).take (q - p) = b :: (bs.drop (p + 1)).take (q - (p + 1)) := by
        rw [drop_cons hb, show q - p = (q - (p + 1)) + 1 by omega, List.take_succ_cons]
      rw [hw] at ok
      have ok' : (if isLetter b = true then decide ((b :: (bs.drop (p + 1)).take (q - (p + 1))).length ≤ 16) else if isDigit b = true then (numberOf (b :: (bs.drop (p + 1)).take (q - (p + 1)))).isSome else SIGNS.contains b) = true := ok
      rw [if_neg (by rw [cl]; exact Bool.false_ne_true), if_neg (by rw [cd]; exact Bool.false_ne_true)] at ok'
      exact .inr (.inr ok')
theorem dval : ∀ (u : List UInt8) (n : Nat), (∀ x ∈ u, isDigit x = true) → (sgs u).foldl (fun acc c => acc * 10 + (c - 48)) n = u.foldl (fun n b => 10 * n + (b.toNat - 48)) n
  | [], n, _ => rfl
  | x :: u, n, h => by
    have hx := (byte_is x).e (.inr (.inl (h x (by simp))))
    show (sgs u).foldl _ (n * 10 + (sg x.toNat - 48)) = u.foldl _ (10 * n + (x.toNat - 48))
    rw [hx, Nat.mul_comm n 10]
    exact dval u _ fun y hy => h y (by simp [hy])
def sp_is_number (K : PySem.W.Frag) : Sp := fun vs H Q _ => ∃ (u : List UInt8),
  vs = [.str (TX u)] ∧ u ≠ [] ∧ u.length ≤ 4096 ∧ (∀ x ∈ u, isDigit x = true) ∧ Q (.bl (numberOf u).isSome) H
theorem ok_is_number (T : Top K mg) : FnOk P w K mg base CX0 1 T.d_is_number.f T.d_is_number.fd P_is_number (sp_is_number K) := by
  refine T.d_is_number.F.ok sc_is_number (fun vs H Q E h => by obtain ⟨_, rfl, _⟩ := h; rfl) (fun cdv A outer s H vs Q E hr h => ?_)
  refine ⟨_, (pss_cons (ps_if (PW.pt (pw_and (pt_cmpR op_gt (pe_callB call_len_str (by rfl) T.b_len PySem.boot_len (pa_cons (pv 0) pa_nil)) pe_int (nomark _)) (pw_and1 (pt_cmpR op_eq (pe_ix ix_str (pv 0) pe_int (fun _ _ => rfl)) pe_str (nomark _))))) (pss_one (ps_ret pe_bl)) pss_nil)
    (pss_one (ps_ret (pe_and (pe_cmpR op_le (pe_callB call_len_str (by rfl) T.b_len PySem.boot_len (pa_cons (pv 0) pa_nil)) (pe_glob rfl T.c_MOST_DIGITS.choose_spec relI) (nomark _)) (pe_one (pe_cmpR op_le (pe_callTy call_int_str (by rfl) T.b_int (by decide +kernel) (pa_cons (pv 0) pa_nil)) (pe_glob rfl T.c_GREATEST_NUMBER.choose_spec relI) (nomark _))))))), ?_⟩
  obtain ⟨u, rfl, hne, hz, hd, hq⟩ := h
  have hN : NUMBER = 1000000000 := rfl
  obtain ⟨b, r, rfl⟩ : ∃ b r, u = b :: r := by
    cases u with
    | nil => exact absurd rfl hne
    | cons b r => exact ⟨b, r, rfl⟩
  have hb0 : (b :: r)[0]? = some b := rfl
  have h0 := TX_at hb0
  have hbd := hd b (by simp)
  have e48 : sg b.toNat = 48 ↔ b = 48 := by
    rw [(byte_is b).e (.inr (.inl hbd))]
    constructor
    · intro h
      have := congrArg UInt8.ofNat h
      rw [UInt8.ofNat_toNat] at this
      exact this
    · rintro rfl; rfl
  have e30 : (Str.ofString "0") = ⟨#[48]⟩ := by decide +kernel
  have hint : PySem.intText? (TX (b :: r)) = some (((b :: r).foldl (fun n b => 10 * n + (b.toNat - 48)) 0 : Nat) : Int) := by
    have h1 : NumText.AllDigits (TX (b :: r)).cps.toList := by
      intro c hc
      rw [TX_codes] at hc
      obtain ⟨x, hx, rfl⟩ := List.mem_map.mp hc
      have := hd x hx
      rw [(byte_is x).d, cDig] at this
      exact of_decide_eq_true this
    have h2 : (TX (b :: r)).cps.toList ≠ [] := by rw [TX_codes]; simp [sgs]
    have := intText_digits h1 h2 (by rw [TX_len]; omega)
    rw [this, TX_codes, NumText.digitsVal, dval _ 0 hd]
  refine ⟨_, rfl, _, rfl, TX_small hz, _, _, rfl, rfl, _, rfl, ?_⟩
  rw [TX_len]
  by_cases c1 : 1 < (b :: r).length
  · refine iteT (by simp only [List.length_cons] at c1 ⊢; simp; omega) ?_
    refine ⟨_, rfl, _, _, _, rfl, rfl, TX_small hz, h0, rfl, _, rfl, ?_⟩
    by_cases c2 : b = 48
    · refine iteT (by rw [c2]; decide +kernel) ?_
      have e : (numberOf (b :: r)).isSome = false := by
        unfold numberOf
        rw [if_pos (.inr (.inr (.inl ⟨c1, by rw [c2]; rfl⟩)))]; rfl
      rw [e] at hq
      exact hq
    · have nbad : ¬ (1 < (b :: r).length ∧ b = 48) := fun h => c2 h.2
      refine iteF (by rw [e30]; simp; exact fun h => c2 (e48.mp h)) ?_
      refine ⟨_, rfl, _, rfl, TX_small hz, _, _, rfl, rfl, _, rfl, ?_⟩
      rw [TX_len]
      by_cases c10 : (b :: r).length ≤ 10
      · refine iteT (by simp only [List.length_cons] at c10 ⊢; simp; omega) ?_
        refine ⟨_, rfl, _, _, rfl, hint, by rw [TX_len]; omega, _, _, rfl, rfl, ?_⟩
        have e : (decide ((((b :: r).foldl (fun n b => 10 * n + (b.toNat - 48)) 0 : Nat) : Int) ≤ 1000000000)) = (numberOf (b :: r)).isSome := by
          unfold numberOf decimal
          by_cases cb : (b :: r).foldl (fun n b => 10 * n + (b.toNat - 48)) 0 ≤ 1000000000
          · rw [decide_eq_true (by omega), if_neg]
            · rfl
            · rintro (h | h | h | h)
              · cases h
              · omega
              · exact nbad ⟨h.1, by simpa using h.2⟩
              · omega
          · rw [decide_eq_false (by omega), if_pos (.inr (.inr (.inr (by omega))))]
            rfl
        show Q (.bl (decide ((((b :: r).foldl (fun n b => 10 * n + (b.toNat - 48)) 0 : Nat) : Int) ≤ 1000000000))) H
        rw [e]
        exact hq
      · refine iteF (by simp only [List.length_cons] at c10 ⊢; simp; omega) ?_
        have e : (numberOf (b :: r)).isSome = false := by
          unfold numberOf
          rw [if_pos (.inr (.inl (by omega)))]; rfl
        rw [e] at hq
        exact hq
  · have nbad : ¬ (1 < (b :: r).length ∧ b = 48) := fun h => c1 h.1
    refine iteF (by simp only [List.length_cons] at c1 ⊢; simp; omega) ?_
    refine ⟨_, rfl, _, rfl, TX_small hz, _, _, rfl, rfl, _, rfl, ?_⟩
    rw [TX_len]
    by_cases c10 : (b :: r).length ≤ 10
    · refine iteT (by simp only [List.length_cons] at c10 ⊢; simp; omega) ?_
      refine ⟨_, rfl, _, _, rfl, hint, by rw [TX_len]; omega, _, _, rfl, rfl, ?_⟩
      have e : (decide ((((b :: r).foldl (fun n b => 10 * n + (b.toNat - 48)) 0 : Nat) : Int) ≤ 1000000000)) = (numberOf (b :: r)).isSome := by
        unfold numberOf decimal
        by_cases cb : (b :: r).foldl (fun n b => 10 * n + (b.toNat - 48)) 0 ≤ 1000000000
        · rw [decide_eq_true (by omega), if_neg]
          · rfl
          · rintro (h | h | h | h)
            · cases h
            · omega
            · exact nbad ⟨h.1, by simpa using h.2⟩
            · omega
        · rw [decide_eq_false (by omega), if_pos (.inr (.inr (.inr (by omega))))]
          rfl
      show Q (.bl (decide ((((b :: r).foldl (fun n b => 10 * n + (b.toNat - 48)) 0 : Nat) : Int) ≤ 1000000000))) H
      rw [e]
      exact hq
    · refine iteF (by simp only [List.length_cons] at c10 ⊢; simp; omega) ?_
      have e : (numberOf (b :: r)).isSome = false := by
        unfold numberOf
        rw [if_pos (.inr (.inl (by omega)))]; rfl
      rw [e] at hq
      exact hq
end
end Shp
end
section
set_option maxRecDepth 100000
set_option maxHeartbeats 4000000
namespace Shp
open PySem PySem.Spec PyProof.Rows L2
open VapcmBase (isLetter isDigit isBlank SIGNS numberOf decimal NUMBER RESERVED word)
section
variable {P : Program} {w : World} {K : PySem.W.Frag} {mg : Str → Option Value} {base : Heap}
def sp_is_token (K : PySem.W.Frag) : Sp := fun vs H Q _ => ∃ (b : UInt8) (r : List UInt8),
  vs = [.str (TX (b :: r))] ∧ (b :: r).length ≤ 4096 ∧ (isLetter b = false → isDigit b = true → ∀ x ∈ b :: r, isDigit x = true) ∧ (isLetter b = false → isDigit b = false → r = []) ∧ Q (.bl (okTok (b :: r))) H
theorem ok_is_token (T : Top K mg) : FnOk P w K mg base CX0 2 T.d_is_token.f T.d_is_token.fd P_is_token (sp_is_token K) := by
  refine T.d_is_token.F.ok sc_is_token (fun vs H Q E h => by obtain ⟨_, _, rfl, _⟩ := h; rfl) (fun cdv A outer s H vs Q E hr h => ?_)
  refine ⟨_, (pss_cons (ps_if (pt_val (pe_bm0 PySem.F.plainAttrs_str PySem.F.slot_str_isalpha PySem.F.type_str_isalpha mt_isalpha (pe_ix ix_str (pv 0) pe_int (fun _ _ => rfl)))) (pss_one (ps_ret (pe_cmpR op_le (pe_callB call_len_str (by rfl) T.b_len PySem.boot_len (pa_cons (pv 0) pa_nil)) (pe_glob rfl T.c_LONGEST_NAME.choose_spec relI) (nomark _)))) pss_nil)
    (pss_cons (ps_if (pt_val (pe_bm0 PySem.F.plainAttrs_str PySem.F.slot_str_isdigit PySem.F.type_str_isdigit mt_isdigit (pe_ix ix_str (pv 0) pe_int (fun _ _ => rfl)))) (pss_one (ps_ret (pe_call (ok_is_number T) (hr.mono (by decide)) rfl T.d_is_number.mg T.d_is_number.F.kp T.d_is_number.b .nil pass0 (pa_cons (pv 0) pa_nil)))) pss_nil)
    (pss_one (ps_ret (pe_cmpR op_in_sign (pv 0) (pe_glob rfl T.c_SIGNS.choose_spec relS) rfl))))), ?_⟩
  obtain ⟨b, r, rfl, hz, hd, ho, hq⟩ := h
  have hb0 : (b :: r)[0]? = some b := rfl
  have h0 := TX_at hb0
  have hB := byte_is b
  have hok : okTok (b :: r) = if isLetter b = true then decide ((b :: r).length ≤ 16) else if isDigit b = true then (numberOf (b :: r)).isSome else SIGNS.contains b := rfl
  rw [hok] at hq
  refine ⟨_, rfl, _, _, _, rfl, rfl, TX_small hz, h0, rfl, _, rfl, rfl, trivial, _, rfl, ?_⟩
  rw [isalpha_one _ (sg_lt _), ← hB.l]
  cases cl : isLetter b with
  | true =>
    refine iteT rfl ?_
    rw [cl, if_pos rfl] at hq
    refine ⟨_, rfl, _, rfl, TX_small hz, _, _, rfl, rfl, ?_⟩
    rw [TX_len]
    have e : decide ((((b :: r).length : Nat) : Int) ≤ 16) = decide ((b :: r).length ≤ 16) := by
      by_cases c : (b :: r).length ≤ 16
      · rw [decide_eq_true c, decide_eq_true (by omega)]
      · rw [decide_eq_false c, decide_eq_false (by omega)]
    show Q (.bl (decide ((((b :: r).length : Nat) : Int) ≤ 16))) H
    rw [e]
    exact hq
  | false =>
    refine iteF rfl ?_
    rw [cl, if_neg Bool.false_ne_true] at hq
    refine ⟨_, rfl, _, _, _, rfl, rfl, TX_small hz, h0, rfl, _, rfl, rfl, trivial, _, rfl, ?_⟩
    rw [isdigit_one _ (sg_lt _), ← hB.d]
    cases cd : isDigit b with
    | true =>
      refine iteT rfl ?_
      rw [cd, if_pos rfl] at hq
      exact ⟨_, rfl, b :: r, rfl, by simp, hz, hd cl cd, hq⟩
    | false =>
      refine iteF rfl ?_
      rw [cd, if_neg Bool.false_ne_true] at hq
      obtain rfl := ho cl cd
      have e1 : TX [b] = ⟨#[sg b.toNat]⟩ := rfl
      have eS : (Str.ofString "(),:;>~").cps.toList = [40, 41, 44, 58, 59, 62, 126] := by decide +kernel
      refine ⟨_, rfl, _, _, by rw [e1], rfl, ?_⟩
      rw [eS]
      have e : decide (sg b.toNat ∈ [40, 41, 44, 58, 59, 62, 126]) = SIGNS.contains b := by
        rw [hB.s, cSig]
        simp
      rw [e]
      exact hq
theorem bx_inj {a b : List UInt8} (h : bx a = bx b) : a = b := by
  have h1 := congrArg (fun z => z.cps.toList) h
  simp only [bx_codes] at h1
  have inj : ∀ (l m : List UInt8), l.map UInt8.toNat = m.map UInt8.toNat → l = m := by
    intro l
    induction l with
    | nil => intro m h; cases m with
      | nil => rfl
      | cons y m => cases h
    | cons x l ih => intro m h; cases m with
      | nil => cases h
      | cons y m =>
        simp only [List.map_cons, List.cons.injEq] at h
        rw [UInt8.toNat_inj.mp h.1, ih m h.2]
  exact inj _ _ h1
theorem bx_beq (a b : List UInt8) : (bx a == bx b) = (a == b) := by
  rw [Bool.eq_iff_iff, beq_iff_eq, beq_iff_eq]
  exact ⟨bx_inj, fun h => by rw [h]⟩
/-- whether a token is a name -/
def nameTok : VapcmBase.Tok → Bool
  | .name n => !RESERVED.contains n
  | _ => false
def sp_is_name (K : PySem.W.Frag) : Sp := fun vs H Q _ => ∃ (tk : VapcmBase.Tok) (u : List UInt8),
  vs = [.str (bx u)] ∧ TokW tk u ∧ PlainB u ∧ u.length ≤ 4096 ∧ Q (.bl (nameTok tk)) H
theorem cut_first {z : Str} {c : Nat} {r : List Nat} (h : z.cps.toList = c :: r) : cutS z none (some 1) = ⟨#[c]⟩ := by
  unfold cutS
  have hl : z.length = r.length + 1 := by
    show z.cps.size = _
    rw [← Array.length_toList, h]; rfl
  rw [HT.sIx_none, show (1 : Int) = ((1 : Nat) : Int) from rfl, HT.sIx_nat, hl, h, Nat.min_eq_left (by omega)]
  simp
theorem ok_is_name (T : Top K mg) : FnOk P w K mg base CX0 1 T.d_is_name.f T.d_is_name.fd P_is_name (sp_is_name K) := by
  refine T.d_is_name.F.ok sc_is_name (fun vs H Q E h => by obtain ⟨_, _, rfl, _⟩ := h; rfl) (fun cdv A outer s H vs Q E hr h => ?_)
  refine ⟨_, (pss_one (ps_ret (pe_and (pe_bm0 PySem.F.plainAttrs_str PySem.F.slot_str_isalpha PySem.F.type_str_isalpha mt_isalpha (pe_slice sl_str (pv 0) po_none (po_some pe_int))) (pe_one (pe_cmpR op_notIn_seq (pv 0) (pe_glob (v := .ref _) rfl T.c_RESERVED.choose_spec.1 rfl) rfl))))), ?_⟩
  obtain ⟨tk, u, rfl, ht, hpl, hz, hq⟩ := h
  have hbz : (bx u).length ≤ sizeLine := by rw [bx_len]; exact small_ok (m := 4096) hz
  refine ⟨_, rfl, _, rfl, _, rfl, hbz, rfl, _, rfl, rfl, trivial, _, rfl, ?_⟩
  cases u with
  | nil =>
    have e : Txt.isalpha (cutS (bx []) none (some 1)) = false := by decide +kernel
    rw [e]
    refine iteF rfl ?_
    cases tk with
    | name n => obtain ⟨e, b, r, h, _⟩ := ht; rw [← e] at h; cases h
    | num n => exact hq
    | sign c => exact hq
    | last => exact hq
  | cons b r =>
    have hB := byte_is b
    have hcut : cutS (bx (b :: r)) none (some 1) = ⟨#[b.toNat]⟩ := cut_first (r := r.map UInt8.toNat) (by rw [bx_codes]; rfl)
    have hsg : sg b.toNat = b.toNat := hB.e (hpl b (by simp))
    have hal : Txt.isalpha (cutS (bx (b :: r)) none (some 1)) = isLetter b := by
      rw [hcut, isalpha_one _ (by rw [← hsg]; exact sg_lt _), hB.l, hsg]
    rw [hal]
    cases tk with
    | name n =>
      obtain ⟨e, b', r', h, hl, _⟩ := ht
      rw [← e] at h
      cases h
      subst e
      rw [hl]
      refine iteT rfl ?_
      have ea : (Str.ofString "axiom") = bx (word "axiom") := by decide +kernel
      have er : (Str.ofString "row") = bx (word "row") := by decide +kernel
      have eg : (Str.ofString "goal") = bx (word "goal") := by decide +kernel
      refine ⟨_, rfl, _, _, rfl, .inr (T.c_RESERVED.choose_spec.2 H), rfl, by decide, ?_⟩
      have e : inV (V.str (bx (b :: r))) [.str (Str.ofString "axiom"), .str (Str.ofString "row"), .str (Str.ofString "goal")] = RESERVED.contains (b :: r) := by
        have hR : RESERVED = [word "axiom", word "row", word "goal"] := rfl
        rw [hR]
        simp only [inV, List.any_cons, List.any_nil, eqV, ea, er, eg, bx_beq, List.contains_cons, List.contains_nil, Bool.or_false]
        rw [Bool.beq_comm (a := word "axiom"), Bool.beq_comm (a := word "row"), Bool.beq_comm (a := word "goal")]
      show Q (.bl (!inV (V.str (bx (b :: r))) [.str (Str.ofString "axiom"), .str (Str.ofString "row"), .str (Str.ofString "goal")])) H
      rw [e]
      exact hq
    | num n =>
      obtain ⟨b', r', h, hd⟩ := ht
      cases h
      have : isLetter b = false := by
        rw [hB.l]; rw [hB.d] at hd
        simp only [cDig, decide_eq_true_eq] at hd
        simp only [cLet, Bool.or_eq_false_iff, decide_eq_false_iff_not]
        omega
      rw [this]
      exact hq
    | sign c =>
      obtain ⟨b', h, hc, hs⟩ := ht
      cases h
      have : isLetter b = false := by
        rw [hB.l]; rw [hB.s] at hs
        simp only [cSig, List.contains_iff_mem, List.mem_cons, List.not_mem_nil, or_false] at hs
        simp only [cLet, Bool.or_eq_false_iff, decide_eq_false_iff_not]
        omega
      rw [this]
      exact hq
    | last => cases ht
end
end Shp
end
section
set_option maxRecDepth 100000
set_option maxHeartbeats 4000000
namespace Shp
open PySem PySem.Spec PyProof.Rows L2
section
variable {P : Program} {w : World} {K : PySem.W.Frag} {mg : Str → Option Value} {base : Heap}
theorem putK_le' (c : List (Key × V)) (k : Key) (x : V) : (putK c k x).length ≤ c.length + 1 := by
  unfold putK
  split
  · rw [List.length_map]; omega
  · rw [List.length_append, List.length_singleton]; omega
theorem take_more0 {α : Type} {l : List α} {i : Nat} {x : α} (h : l[i]? = some x) : l.take (i + 1) = l.take i ++ [x] := by
  rw [List.take_add_one, h]; rfl
theorem joinL_nil : ∀ ps : List (List Nat), TL.joinL [] ps = ps.flatten
  | [] => rfl
  | [p] => by simp [TL.joinL]
  | p :: q :: r => by
    have := joinL_nil (q :: r)
    show p ++ ([] ++ TL.joinL [] (q :: r)) = _
    rw [this]; simp
theorem join_empty (ys : List Str) : Txt.join (Str.ofString "") ys = ⟨((ys.map fun y => y.cps.toList).flatten).toArray⟩ := by
  refine str_ext ?_
  have e0 : TL.tl (Str.ofString "") = [] := by decide +kernel
  have e1 := TL.tl_join (Str.ofString "") ys
  rw [e0, joinL_nil] at e1
  rw [TL.join_eq]
  have e2 : (Str.join (Str.ofString "") ys).cps.toList = (ys.map TL.tl).flatten := e1
  rw [e2]
def sp_as_signs (K : PySem.W.Frag) : Sp := fun vs H Q _ => ∃ (a : Addr) (bs : List UInt8),
  vs = [.ref a] ∧ SqL K H a (bs.map fun b => V.int ((b.toNat : Nat) : Int)) ∧ bs.length ≤ 4096 ∧ ∀ H', Same H H' → Q (.str (TX bs)) H'
theorem ok_as_signs (T : Top K mg) : FnOk P w K mg base CX0 1 T.d_as_signs.f T.d_as_signs.fd P_as_signs (sp_as_signs K) := by
  refine T.d_as_signs.F.ok sc_as_signs (fun vs H Q E h => by obtain ⟨_, _, rfl, _⟩ := h; rfl) (fun cdv A outer s H vs Q E hr h => ?_)
  refine ⟨_, (pss_cons (ps_set (i := 1) sc_as_signs.nd rfl (Or.inr rfl) pe_dnewK)
    (pss_cons (ps_for PassesOwn.never rfl (pi_str (pe_op op_add_str (pe_op op_add_str (pe_op op_add_str (pe_op op_add_str (pe_glob rfl T.c_LETTERS.choose_spec relS) (pe_glob rfl T.c_DIGITS.choose_spec relS)) (pe_glob rfl T.c_SIGNS.choose_spec relS)) (pe_glob rfl T.c_BLANKS.choose_spec relS)) (pe_glob rfl T.c_REMARK.choose_spec relS))) (pg_name (i := 2) sc_as_signs.nd rfl (Or.inl rfl))
      (pss_one (ps_dput (hu_of hr) (pv 1) (pe_callB call_ord (by rfl) T.b_ord (by decide +kernel) (pa_cons (pv 2) pa_nil)) (pv 2) rfl)))
    (pss_one (ps_ret (pe_join pe_str (pe_lc (own := [("byte", 3)]) rfl sc_as_signs.nd (pi_list (pv 0)) (blkOk_by (N := N_as_signs) (sc := defScope s_as_signs) (by decide +kernel)) (fun _ _ _ _ _ => (pg_name (i := 3) sc_as_signs.nd rfl (Or.inl rfl))) (fun _ _ _ _ _ => pts_nil) (fun _ _ _ _ _ => (pe_dget2 (hu_of hr) (pv 1) (pv 3) (pe_glob rfl T.c_OTHER.choose_spec relS) ⟨rfl, rfl, rfl, rfl⟩)))))))), ?_⟩
  obtain ⟨a, bs, rfl, ha, hz, hk⟩ := h
  have eAL : (Str.ofString "ABCDEFGHIJKLMNOPQRSTUVWXYZabcdefghijklmnopqrstuvwxyz" ++ Str.ofString "0123456789" ++ Str.ofString "(),:;>~" ++ Str.ofString " \t\n" ++ Str.ofString "#") = ⟨AL.toArray⟩ := by decide +kernel
  intro d hd
  refine ⟨_, _, rfl, rfl, (by decide +kernel), _, _, rfl, rfl, (by decide +kernel), _, _, rfl, rfl, (by decide +kernel), _, _, rfl, rfl, (by decide +kernel), _, rfl, ?_⟩
  rw [eAL]
  refine for_it walk_str (fun i σ H' => ∃ (kvs : List (Key × V)) (v2 : Option V), σ = [some (.ref a), some (.ref d), v2, none] ∧ H' = upd H d (.dK kvs) ∧ kvs.length ≤ i ∧
    ∀ c : Nat, valV kvs (.inl (c : Int)) = if c ∈ AL.take i then some (.str ⟨#[c]⟩) else none) ⟨[], none, rfl, rfl, Nat.le_refl _, fun c => rfl⟩ (fun _ _ _ _ _ => trivial) ?_ ?_
  · rintro i y σ H1 H2 hi ⟨kvs, v2, rfl, rfl, hkz, hkv⟩ ⟨rfl, c, hc, rfl⟩
    have hc' : AL[i]? = some c := by simpa using hc
    have hi73 : i < 73 := by
      have := (List.getElem?_eq_some_iff.mp hc').1
      exact this
    have hdk : (upd H d (.dK kvs)) d = some (.dK kvs) := upd_same
    refine ⟨_, rfl, _, rfl, _, rfl, _, rfl, rfl, d, _, rfl, DPut.k (k := Sum.inl (c : Int)) hdk (small_lt (m := 100) (by omega)), ?_⟩
    refine ⟨_, _, rfl, upd_upd, Nat.le_trans (putK_le' _ _ _) (by omega), fun c' => ?_⟩
    rw [valV_put, take_more0 hc', hkv]
    by_cases e : c' = c
    · subst e; simp
    · have : ¬ ((Sum.inl (c' : Int) : Key) = Sum.inl (c : Int)) := fun q => e (by have := Sum.inl.inj q; omega)
      rw [if_neg this]
      simp [e]
  · rintro σ H1 ⟨kvs, v2, rfl, rfl, hkz, hkv⟩
    have hT : AL.take (⟨AL.toArray⟩ : Str).cps.size = AL := by decide
    rw [hT] at hkv
    have sm : Same H (upd H d (.dK kvs)) := same_new hd
    have hdk : (upd H d (.dK kvs)) d = some (.dK kvs) := upd_same
    generalize hH1 : upd H d (.dK kvs) = H1 at *
    refine ⟨⟨_, rfl⟩, _, rfl, a, rfl, ⟨_, same_seqL sm ha⟩, fun D hD => ?_⟩
    refine lc_list (K := K) (a := a) (xs := bs.map fun b => V.int ((b.toNat : Nat) : Int)) (fun t H' => H' = upd H1 D (.lst (((bs.take t).map fun b => (⟨#[sg b.toNat]⟩ : Str)).map V.str))) (by simp) (fun t H' _ e => by rw [e]; exact same_seqL (same_new hD) (same_seqL sm ha)) ?_ ?_
    · rintro t y H' hy rfl
      obtain ⟨b, hb, rfl⟩ : ∃ b, bs[t]? = some b ∧ y = V.int ((b.toNat : Nat) : Int) := by
        simp only [List.getElem?_map, Option.map_eq_some_iff] at hy
        obtain ⟨x, h1, h2⟩ := hy
        exact ⟨x, h1, h2.symm⟩
      have hdk2 := same_new (o := .lst (((bs.take t).map fun b => (⟨#[sg b.toNat]⟩ : Str)).map V.str)) hD _ _ hdk
      have hg := DGet.k (k := Sum.inl ((b.toNat : Nat) : Int)) hdk2
      rw [hkv] at hg
      refine ⟨rfl, _, rfl, d, rfl, .inl ⟨_, .inl hdk2⟩, _, rfl, _, hg, ?_⟩
      have ev : (if b.toNat ∈ AL then some (V.str ⟨#[b.toNat]⟩) else none).getD (V.str (Str.ofString "?")) = V.str ⟨#[sg b.toNat]⟩ := by
        unfold sg
        by_cases c : b.toNat ∈ AL
        · rw [if_pos c, if_pos (by simpa using c)]; rfl
        · rw [if_neg c, if_neg (by simpa using c)]
          have : Str.ofString "?" = ⟨#[63]⟩ := by decide +kernel
          rw [this]; rfl
      rw [ev]
      refine ⟨_, upd_same, small_lt (m := 10000) ?_, ?_⟩
      · rw [List.length_map, List.length_map]
        have := List.length_take_le' t bs
        omega
      · rw [upd_upd, take_more0 hb, List.map_append, List.map_append]; rfl
    · rintro H' rfl
      rw [List.length_map, List.take_length]
      refine ⟨_, D, bs.map fun b => (⟨#[sg b.toNat]⟩ : Str), rfl, rfl, .inl (SqL.of upd_same), ?_, ?_⟩
      · have : ∀ l : List UInt8, ((l.map fun b => (⟨#[sg b.toNat]⟩ : Str)).map (·.length)).sum = l.length := fun l => by
          induction l with
          | nil => rfl
          | cons x r ih =>
            rw [List.map_cons, List.map_cons, List.sum_cons, ih, List.length_cons]
            show 1 + r.length = _
            omega
        rw [this]
        have : (Str.ofString "").length = 0 := by decide +kernel
        rw [this]; omega
      · have : Txt.join (Str.ofString "") (bs.map fun b => (⟨#[sg b.toNat]⟩ : Str)) = TX bs := by
          rw [join_empty]
          unfold TX sgs
          congr 2
          rw [List.map_map]
          have : ((fun (y : Str) => y.cps.toList) ∘ fun (b : UInt8) => (⟨#[sg b.toNat]⟩ : Str)) = fun b => [sg b.toNat] := rfl
          rw [this]
          clear hz ha hk hkv
          induction bs with
          | nil => rfl
          | cons x r ih => rw [List.map_cons, List.flatten_cons, ih]; rfl
        rw [this]
        exact hk _ (sm.trans (same_new hD))
end
end Shp
end
section
set_option maxRecDepth 100000
set_option maxHeartbeats 4000000
namespace Shp
open PySem PySem.Spec PyProof.Rows L2
open Vapcma (Form)
open VapcmBase (word showNat)
section
variable {P : Program} {w : World} {K : PySem.W.Frag} {mg : Str → Option Value} {base : Heap}
/-- a part's tuple: its form, whether it's an implication -/
def PartAt (H : Hp) (p : Addr) (g : Form) : Prop := H p = some (.tup [.str (bx (Vapcma.showForm g)), .bl (isImp g)])
def sp_bracketed (K : PySem.W.Frag) : Sp := fun vs H Q _ => ∃ (p : Addr) (g : Form),
  vs = [.ref p] ∧ PartAt H p g ∧ (Vapcma.showForm g).length ≤ 100000 ∧ Q (.str (bx (showPart g))) H
theorem ok_bracketed (T : Top K mg) : FnOk P w K mg base CX0 1 T.d_bracketed.f T.d_bracketed.fd P_bracketed (sp_bracketed K) := by
  refine T.d_bracketed.F.ok sc_bracketed (fun vs H Q E h => by obtain ⟨_, _, rfl, _⟩ := h; rfl) (fun cdv A outer s H vs Q E hr h => ?_)
  refine ⟨_, (pss_cons (ps_set (i := 1) sc_bracketed.nd rfl (Or.inl rfl) (pe_ix ix_tup (pv 0) pe_int (fun _ _ => rfl)))
    (pss_cons (ps_if (pt_val (pe_ix ix_tup (pv 0) pe_int (fun _ _ => rfl))) (pss_one (ps_ret (pe_joined (PJ.cons pe_str (PJ.cons (pe_fmt (pv 1)) (PJ.cons pe_str PJ.nil)))))) pss_nil)
    (pss_one (ps_ret (pv 1))))), ?_⟩
  obtain ⟨p, g, rfl, hp, hz, hq⟩ := h
  have hS := SqT.of (K := K) hp
  refine ⟨_, rfl, _, _, _, _, rfl, rfl, hS, rfl, ?_⟩
  refine ⟨_, rfl, _, _, _, _, rfl, rfl, hS, rfl, _, rfl, ?_⟩
  cases c : isImp g with
  | true =>
    refine iteT rfl ?_
    have e1 : (Str.ofString "( ") = bx (word "( ") := by decide +kernel
    have e2 : (Str.ofString " )") = bx (word " )") := by decide +kernel
    have l1 : (word "( ").length = 2 := by decide +kernel
    have l2 : (word " )").length = 2 := by decide +kernel
    refine ⟨_, rfl, small_ok (m := 10) (by decide), _, rfl, .inl ⟨_, rfl, ?_, _, rfl, ?_, _, rfl, ?_, ?_⟩⟩
    · rw [bx_len]; exact small_ok hz
    · rw [e1, bx_nil, bx_app, bx_app, bx_len, List.length_append, List.length_append]; exact small_ok (m := 100002) (by simp; omega)
    · rw [e1, e2, bx_nil, bx_app, bx_app, bx_app, bx_len, List.length_append, List.length_append, List.length_append]; exact small_ok (m := 100004) (by simp; omega)
    · rw [showPart, if_pos c] at hq
      show Q (.str (((Str.empty ++ Str.ofString "( ") ++ bx (Vapcma.showForm g)) ++ Str.ofString " )")) H
      rw [e1, e2, bx_nil, bx_app, bx_app, bx_app]
      simpa using hq
  | false =>
    refine iteF rfl ?_
    refine ⟨_, rfl, ?_⟩
    rw [showPart, if_neg (by rw [c]; exact Bool.false_ne_true)] at hq
    exact hq
theorem PartAt.upd {H : Hp} {L p : Addr} {g : Form} {xs : List V} {o : HO} (hL : H L = some (.lst xs)) (h : PartAt H p g) : PartAt (upd H L o) p g := by
  unfold PartAt at h ⊢
  rw [upd_ne (ne_of h hL (by intro z; cases z))]
  exact h
theorem paired_mono {α β : Type} {R S : α → β → Prop} (f : ∀ x y, R x y → S x y) : ∀ {xs : List α} {ys : List β}, Paired R xs ys → Paired S xs ys
  | _, _, .nil => .nil
  | _, _, .cons a r => .cons (f _ _ a) (paired_mono f r)
theorem rev_last {α : Type} (f : α → V) (x : α) (r : List α) : ((x :: r).reverse.map f)[((x :: r).reverse.map f).length - 1]? = some (f x) ∧ ((x :: r).reverse.map f).dropLast = r.reverse.map f := by
  simp
def sp_formula_form (K : PySem.W.Frag) : Sp := fun vs H Q _ => ∃ (a : Addr) (f : Form),
  vs = [.ref a] ∧ SqT K H a (ivs (enc f)) ∧ Vapcma.size f ≤ 1000 ∧ (∀ v ∈ Vapcma.vars f, v < 1000) ∧ ∀ H', Same H H' → Q (.str (bx (Vapcma.showForm f))) H'
theorem ok_formula_form (T : Top K mg) : FnOk P w K mg base CX0 2 T.d_formula_form.f T.d_formula_form.fd P_formula_form (sp_formula_form K) := by
  refine T.d_formula_form.F.ok sc_formula_form (fun vs H Q E h => by obtain ⟨_, _, rfl, _⟩ := h; rfl) (fun cdv A outer s H vs Q E hr h => ?_)
  refine ⟨_, (pss_cons (ps_set (i := 1) sc_formula_form.nd rfl (Or.inl rfl) (pe_lst pa_nil))
    (pss_cons (ps_for PassesOwn.never rfl (RT.pi_revA (by rfl) T.b_reversed (pv 0)) (pg_name (i := 2) sc_formula_form.nd rfl (Or.inl rfl))
      (pss_one (ps_if (pt_cmpR op_eq (pv 2) (pe_glob rfl T.c_IMPLIES.choose_spec relI) (nomark _)) (pss_cons (ps_set (i := 3) sc_formula_form.nd rfl (Or.inl rfl) (pe_call (ok_bracketed T) (hr.mono (by decide)) rfl T.d_bracketed.mg T.d_bracketed.F.kp T.d_bracketed.b .nil pass0 (pa_cons (pe_bm0 PySem.F.plainAttrs_list PySem.F.slot_list_pop PySem.F.type_list_pop mt_pop (pv 1)) pa_nil)))
        (pss_cons (ps_set (i := 4) sc_formula_form.nd rfl (Or.inl rfl) (pe_ix ix_tup (pe_bm0 PySem.F.plainAttrs_list PySem.F.slot_list_pop PySem.F.type_list_pop mt_pop (pv 1)) pe_int (fun _ _ => rfl)))
        (pss_one (ps_expr (pe_bm PySem.F.plainAttrs_list PySem.F.slot_list_append PySem.F.type_list_append mt_append (pv 1) (pa_cons (pe_tup (pa_cons (pe_joined (PJ.cons (pe_fmt (pv 3)) (PJ.cons pe_str (PJ.cons (pe_fmt (pv 4)) PJ.nil)))) (pa_cons pe_bl pa_nil))) pa_nil)))))) (pss_one (ps_if (pt_cmpR op_eq (pv 2) (pe_glob rfl T.c_DENIES.choose_spec relI) (nomark _)) (pss_cons (ps_set (i := 5) sc_formula_form.nd rfl (Or.inl rfl) (pe_call (ok_bracketed T) (hr.mono (by decide)) rfl T.d_bracketed.mg T.d_bracketed.F.kp T.d_bracketed.b .nil pass0 (pa_cons (pe_bm0 PySem.F.plainAttrs_list PySem.F.slot_list_pop PySem.F.type_list_pop mt_pop (pv 1)) pa_nil)))
          (pss_one (ps_expr (pe_bm PySem.F.plainAttrs_list PySem.F.slot_list_append PySem.F.type_list_append mt_append (pv 1) (pa_cons (pe_tup (pa_cons (pe_joined (PJ.cons pe_str (PJ.cons (pe_fmt (pv 5)) PJ.nil))) (pa_cons pe_bl pa_nil))) pa_nil))))) (pss_cons (ps_set (i := 6) sc_formula_form.nd rfl (Or.inl rfl) (pe_op op_sub (pv 2) (pe_glob rfl T.c_FIRST_UNKNOWN.choose_spec relI)))
          (pss_one (ps_expr (pe_bm PySem.F.plainAttrs_list PySem.F.slot_list_append PySem.F.type_list_append mt_append (pv 1) (pa_cons (pe_tup (pa_cons (pe_joined (PJ.cons pe_str (PJ.cons (pe_fmt (pv 6)) PJ.nil))) (pa_cons pe_bl pa_nil))) pa_nil))))))))))
    (pss_one (ps_ret (pe_ix ix_tup (pe_ix ix_list (pv 1) pe_int (fun _ _ => rfl)) pe_int (fun _ _ => rfl)))))), ?_⟩
  obtain ⟨a, f, rfl, ha, hz, hv, hq⟩ := h
  have e3 : (Str.ofString " > ") = bx (word " > ") := by decide +kernel
  have e4 : (Str.ofString "~ ") = bx (word "~ ") := by decide +kernel
  have e5 : (Str.ofString "x") = bx (word "x") := by decide +kernel
  have w3 : (word " > ").length = 3 := by decide +kernel
  have w4 : (word "~ ").length = 2 := by decide +kernel
  have w5 : (word "x").length = 1 := by decide +kernel
  have hn : (ivs (enc f)).length = Vapcma.size f := by rw [ivs_len, enc_len]
  refine ⟨by decide, fun L hL => ?_⟩
  refine ⟨_, rfl, a, _, rfl, .inr ⟨same_seqT (same_new hL) ha, RT.for_ItvT (K := K) (a := a) (xs := ivs (enc f)) (fun i σ H' => ∃ (gs : List Form) (ps : List Addr) (v2 v3 v4 v5 v6 : Option V),
      σ = [some (.ref a), some (.ref L), v2, v3, v4, v5, v6] ∧ Same H H' ∧ H' L = some (.lst (ps.reverse.map V.ref)) ∧ Paired (PartAt H') ps gs ∧
      (enc f).drop (Vapcma.size f - i) = encs gs ∧ ps.length ≤ i ∧ i ≤ Vapcma.size f)
    ?_ (fun i σ H' ⟨_, _, _, _, _, _, _, _, s5, _⟩ => same_seqT s5 ha) ?_ ?_⟩⟩
  · exact ⟨[], [], none, none, none, none, none, rfl, same_new hL, upd_same, .nil, by rw [Nat.sub_zero, ← enc_len, List.drop_length]; rfl, Nat.le_refl _, Nat.zero_le _⟩
  · rintro i y σ H' hlt hi ⟨gs, ps, v2, v3, v4, v5, v6, rfl, sm, hd', pi, hg, hk, hi2⟩
    rw [hn] at hlt hi
    obtain ⟨z, rfl, hz1⟩ := ivs_back hi
    have hdr : (enc f).drop (Vapcma.size f - 1 - i) = z :: encs gs := by
      rw [← hg, List.drop_eq_getElem_cons (by rw [enc_len]; omega)]
      congr 1
      · exact (List.getElem?_eq_some_iff.mp hz1).2
      · congr 1; omega
    obtain ⟨gs', hgs'⟩ := enc_suffix f (Vapcma.size f - 1 - i) (by omega)
    have small : ∀ g ∈ gs', (∀ v ∈ Vapcma.vars g, v < 1000) ∧ (Vapcma.showForm g).length ≤ 8000 ∧ (showPart g).length ≤ 8004 := fun g m => by
      obtain ⟨h1, h2⟩ := suffix_small hgs' m
      have h3 : ∀ v ∈ Vapcma.vars g, v < 1000 := fun v h => hv v (h1 v h)
      have h4 := showForm_len h3
      have h5 := showPart_len h3
      exact ⟨h3, by omega, by omega⟩
    have small0 : ∀ g ∈ gs, (Vapcma.showForm g).length ≤ 8000 ∧ (showPart g).length ≤ 8004 := fun g m => by
      obtain ⟨h1, h2⟩ := suffix_small hg m
      have h3 : ∀ v ∈ Vapcma.vars g, v < 1000 := fun v h => hv v (h1 v h)
      have h4 := showForm_len h3
      have h5 := showPart_len h3
      exact ⟨by omega, by omega⟩
    have hidx : Vapcma.size f - (i + 1) = Vapcma.size f - 1 - i := by omega
    have fin : ∀ (H2 : Hp) (gs2 : List Form) (ps2 : List Addr) (p : Addr) (g : Form) (z2 z3 z4 z5 z6 : Option V), Same H H2 → H2 L = some (.lst (ps2.reverse.map V.ref)) → H2 p = none → Paired (PartAt H2) ps2 gs2 → gs' = g :: gs2 → ps2.length ≤ i →
        ∃ (gs : List Form) (ps : List Addr) (v2 v3 v4 v5 v6 : Option V),
      [some (.ref a), some (.ref L), z2, z3, z4, z5, z6] = [some (.ref a), some (.ref L), v2, v3, v4, v5, v6] ∧ Same H (upd (upd H2 p (.tup [.str (bx (Vapcma.showForm g)), .bl (isImp g)])) L (.lst (ps2.reverse.map V.ref ++ [.ref p]))) ∧
      (upd (upd H2 p (.tup [.str (bx (Vapcma.showForm g)), .bl (isImp g)])) L (.lst (ps2.reverse.map V.ref ++ [.ref p]))) L = some (.lst (ps.reverse.map V.ref)) ∧
      Paired (PartAt (upd (upd H2 p (.tup [.str (bx (Vapcma.showForm g)), .bl (isImp g)])) L (.lst (ps2.reverse.map V.ref ++ [.ref p])))) ps gs ∧
      (enc f).drop (Vapcma.size f - (i + 1)) = encs gs ∧ ps.length ≤ i + 1 ∧ i + 1 ≤ Vapcma.size f := by
      intro H2 gs2 ps2 p g z2 z3 z4 z5 z6 s2 hL2 hp pr eg lp
      have nLp : L ≠ p := ne_of_none hL2 hp
      refine ⟨gs', p :: ps2, z2, z3, z4, z5, z6, rfl, same_old (same_newer s2 hp) hL, ?_, ?_, by rw [hidx]; exact hgs', by simp; omega, by omega⟩
      · rw [upd_same]; simp
      · rw [eg]
        have hL3 : (upd H2 p (.tup [.str (bx (Vapcma.showForm g)), .bl (isImp g)])) L = some (.lst (ps2.reverse.map V.ref)) := by rw [upd_ne nLp]; exact hL2
        refine .cons (PartAt.upd hL3 upd_same) (paired_mono (fun x y h => PartAt.upd hL3 ?_) pr)
        exact same_new hp _ _ h
    refine ⟨_, rfl, rfl, _, rfl, ?_⟩
    rcases encs_push (hdr.symm.trans hgs') with ⟨rfl, ga, gb, r, rfl, rfl⟩ | ⟨rfl, ga, r, rfl, rfl⟩ | ⟨v, rfl, rfl⟩
    · refine iteT (by rfl) ?_
      cases pi with
      | @cons pa _ _ _ hA pi =>
      cases pi with
      | @cons pb _ pr _ hB pi =>
      have t1 := rev_last V.ref pa (pb :: pr)
      have t2 := rev_last V.ref pb pr
      refine ⟨_, rfl, tyL hd', L, _, _, rfl, rfl, hd', t1.1, ?_⟩
      rw [t1.2]
      have sm2 : Same H (upd H' L (.lst ((pb :: pr).reverse.map V.ref))) := same_old sm hL
      refine ⟨pa, ga, rfl, PartAt.upd hd' hA, Nat.le_trans (small0 ga (by simp)).1 (by decide), ?_⟩
      have hd2 : (upd H' L (.lst ((pb :: pr).reverse.map V.ref))) L = some (.lst ((pb :: pr).reverse.map V.ref)) := upd_same
      refine ⟨_, rfl, tyL hd2, L, _, _, rfl, rfl, hd2, t2.1, ?_⟩
      rw [t2.2, upd_upd]
      have hB2 : PartAt (upd H' L (.lst (pr.reverse.map V.ref))) pb gb := PartAt.upd hd' hB
      refine ⟨_, _, _, _, rfl, rfl, SqT.of hB2, rfl, ?_⟩
      have hd3 : (upd H' L (.lst (pr.reverse.map V.ref))) L = some (.lst (pr.reverse.map V.ref)) := upd_same
      refine ⟨_, rfl, tyL hd3, ?_⟩
      have sz := (small0 ga (by simp)).2
      have sz2 := (small0 gb (by simp)).1
      have sz3 := (small (.imp ga gb) (by simp)).2.1
      rw [show_imp] at sz3
      refine ⟨_, rfl, .inl ⟨_, rfl, ?_, _, rfl, ?_, _, rfl, ?_, _, rfl, .inl ⟨_, rfl, ?_, _, rfl, ?_, (show 2 ≤ sizeLine by decide), fun p hp => ?_⟩⟩⟩
      · rw [bx_len]; exact small_ok sz
      · rw [bx_nil, bx_app, bx_len]; exact small_ok (m := 10000) (by simp; omega)
      · rw [e3, bx_nil, bx_app, bx_app, bx_len]; exact small_ok (m := 10000) (by simp; omega)
      · rw [bx_len]; exact small_ok sz2
      · rw [e3, bx_nil, bx_app, bx_app, bx_app, bx_len]; exact small_ok (m := 100000) (by simp; omega)
      · rw [e3, bx_nil, bx_app, bx_app, bx_app]
        have et : ([] ++ showPart ga ++ word " > " ++ Vapcma.showForm gb) = Vapcma.showForm (.imp ga gb) := by rw [show_imp]; simp
        rw [et]
        have hl4 : (upd (upd H' L (.lst (pr.reverse.map V.ref))) p (.tup [.str (bx (Vapcma.showForm (.imp ga gb))), .bl true])) L = some (.lst (pr.reverse.map V.ref)) := by
          rw [upd_ne (ne_of_none hd3 hp)]; exact hd3
        refine ⟨L, _, _, rfl, rfl, hl4, ?_, ?_⟩
        · exact small_lt (m := 1000) (by simp at hk ⊢; omega)
        · exact fin (upd H' L (.lst (pr.reverse.map V.ref))) r pr p (.imp ga gb) _ _ _ _ _ (same_old sm hL) hd3 hp (paired_mono (fun x y h => PartAt.upd hd' h) pi) rfl (by simp at hk; omega)
    · refine iteF (by rfl) ?_
      refine ⟨_, rfl, rfl, _, rfl, ?_⟩
      refine iteT (by rfl) ?_
      cases pi with
      | @cons pa _ pr _ hA pi =>
      have t1 := rev_last V.ref pa pr
      refine ⟨_, rfl, tyL hd', L, _, _, rfl, rfl, hd', t1.1, ?_⟩
      rw [t1.2]
      refine ⟨pa, ga, rfl, PartAt.upd hd' hA, Nat.le_trans (small0 ga (by simp)).1 (by decide), ?_⟩
      have hd3 : (upd H' L (.lst (pr.reverse.map V.ref))) L = some (.lst (pr.reverse.map V.ref)) := upd_same
      refine ⟨_, rfl, tyL hd3, ?_⟩
      have sz := (small0 ga (by simp)).2
      refine ⟨_, rfl, ?_, _, rfl, .inl ⟨_, rfl, ?_, _, rfl, ?_, (show 2 ≤ sizeLine by decide), fun p hp => ?_⟩⟩
      · rw [e4, bx_nil, bx_app, bx_len]; exact small_ok (m := 10000) (by simp; omega)
      · rw [bx_len]; exact small_ok sz
      · rw [e4, bx_nil, bx_app, bx_app, bx_len]; exact small_ok (m := 100000) (by simp; omega)
      · rw [e4, bx_nil, bx_app, bx_app]
        have et : ([] ++ word "~ " ++ showPart ga) = Vapcma.showForm (.neg ga) := by rw [show_neg]; simp
        rw [et]
        have hl4 : (upd (upd H' L (.lst (pr.reverse.map V.ref))) p (.tup [.str (bx (Vapcma.showForm (.neg ga))), .bl false])) L = some (.lst (pr.reverse.map V.ref)) := by
          rw [upd_ne (ne_of_none hd3 hp)]; exact hd3
        refine ⟨L, _, _, rfl, rfl, hl4, ?_, ?_⟩
        · exact small_lt (m := 1000) (by simp at hk ⊢; omega)
        · exact fin (upd H' L (.lst (pr.reverse.map V.ref))) r pr p (.neg ga) _ _ _ _ _ (same_old sm hL) hd3 hp (paired_mono (fun x y h => PartAt.upd hd' h) pi) rfl (by simp at hk; omega)
    · refine iteF (by simp; omega) ?_
      refine ⟨_, rfl, rfl, _, rfl, ?_⟩
      refine iteF (by simp; omega) ?_
      have hv1 := (small (.var v) (by simp)).1 v (by simp [Vapcma.vars])
      refine ⟨_, rfl, _, _, rfl, rfl, ?_⟩
      have ev : (v : Int) + 2 - 2 = (v : Int) := by omega
      show gName 6 (V.int ((v : Int) + 2 - 2)) _ _ _
      rw [ev]
      refine ⟨_, rfl, tyL hd', ?_⟩
      have sz := showNat_len v hv1
      refine ⟨_, rfl, ?_, _, rfl, .inr ⟨_, rfl, ?_, _, rfl, ?_, (show 2 ≤ sizeLine by decide), fun p hp => ?_⟩⟩
      · rw [e5, bx_nil, bx_app, bx_len]; exact small_ok (m := 10000) (by simp; omega)
      · have : (v : Int).natAbs = v := by omega
        rw [this]
        have : v.log2 ≤ v := Nat.log2_le_self v
        omega
      · rw [bx_num, e5, bx_nil, bx_app, bx_app, bx_len]; exact small_ok (m := 100000) (by simp; omega)
      · rw [bx_num, e5, bx_nil, bx_app, bx_app]
        have et : ([] ++ word "x" ++ showNat v) = Vapcma.showForm (.var v) := by simp [Vapcma.showForm]
        rw [et]
        have hl4 : (upd H' p (.tup [.str (bx (Vapcma.showForm (.var v))), .bl false])) L = some (.lst (ps.reverse.map V.ref)) := by
          rw [upd_ne (ne_of_none hd' hp)]; exact hd'
        refine ⟨L, _, _, rfl, rfl, hl4, ?_, ?_⟩
        · exact small_lt (m := 1000) (by simp at hk ⊢; omega)
        · exact fin H' gs ps p (.var v) _ _ _ _ _ sm hd' hp pi rfl hk
  · rintro σ H' ⟨gs, ps, v2, v3, v4, v5, v6, rfl, sm, hd', pi, hg, hk, hi2⟩
    rw [hn, Nat.sub_self, List.drop_zero] at hg
    have e : gs = [f] := encs_inj (by rw [← hg]; simp [encs])
    subst e
    cases pi with
    | cons h1 h2 =>
      cases h2
      rename_i p
      refine ⟨_, rfl, _, _, _, _, rfl, rfl, SqL.of hd', rfl, _, _, _, _, rfl, rfl, SqT.of h1, rfl, ?_⟩
      exact hq H' sm
end
end Shp
end
section
set_option maxRecDepth 100000
set_option maxHeartbeats 4000000
/-! an own exception class over Exception whose own initializer is walked as a def -/
namespace Shp
open PySem PySem.Spec PyProof.Rows L2
abbrev exTail : List Value := [.type "Exception", .type "BaseException", .type "object"]
theorem exTail_has {nX : String} (cA : Addr) : (Value.ref cA :: exTail).contains (.type nX) = exTail.contains (.type nX) := by
  rw [List.contains_cons]; rfl
theorem exTail_pass (me : Value) (cA : Addr) : refuseLoop me "__setattr__" (Value.ref cA :: exTail) = pure () := by
  rw [refuseLoop_ref]
  exact PySem.F.store_Exception.passes me
/-- the class record of such a class -/
structure ExcCl (K : PySem.W.Frag) (cA : Addr) (nm qn : Str) (nsA : Addr) (bas : List Value) (snm : List Str) (sbc : List Value) (abs : Bool) (cll : Option Bool) (ddc : Option Addr) (e0 e1 e2 e3 e5 : Option Value) : Prop where
  at_ : K.lookup cA = some (excClassObj nm qn cA nsA bas exTail true snm sbc abs cll ddc e0 e1 e2 e3 e5 "Exception.__new__")
/-- what the written part says of the class -/
structure ExcOwn (K : PySem.W.Frag) (cA : Addr) : Prop where
  cl : ∃ nm qn nsA bas snm sbc abs cll ddc e0 e1 e2 e3 e5, ExcCl K cA nm qn nsA bas snm sbc abs cll ddc e0 e1 e2 e3 e5
  st : PySem.W.findIn K (.ref cA) "__setattr__" = some (some (.builtin "object.__setattr__"))
  bas : PySem.W.subIn K (.ref cA) (.type "BaseException") = some true
  ty : PySem.W.typeIn K (.ref cA) = some (.type "type")
  kp : PySem.W.keepIn K (.ref cA) = true
section
open Builtin Builtin.ObjectAttr PySem.W PySem.Calls PySem.HandSPX
variable {pr : Program} {wo : World} {Ar : Around} {Rz : Result → Shared → Prop} {hp0 : Heap} {ge : Array GenState} {dr : Drawn} {tk0 : Nat} {osz : OsState}
/-- object.__setattr__ on an exception without a dict as yet -/
theorem eset_first {Kf : Frag} {fn : Str} {ftk : Tok} {va : Value} {xA cA : Addr} {fvs : Array Value} {cdt : ClassData} (hin : Kf.In hp0) (hx0 : hp0.get? xA = some { cls := .ref cA, data := .fields fvs })
    (hcd0 : clsIn Kf cA = some cdt) (hmro : cdt.mro = .ref cA :: exTail) (hdic : cdt.hasDict = true) (hno : findIn Kf (.ref cA) fn = some none)
    (hgo : ∀ hp1 tk1 dA, (∀ b o, b ≠ xA → hp0.get? b = some o → hp1.get? b = some o) → hp0.objs.size ≤ dA → dA ≠ xA → hp1.get? xA = some { cls := .ref cA, dict := some dA, data := .fields fvs } →
      hp1.Ns1 dA (fun y => if y = fn then some va else none) → Rz (.ok (.ret .none)) ⟨hp1, ge, dr, tk1, osz⟩) :
    codeAny (model pr wo) Ar (.call (.builtin "object.__setattr__") ⟨[.ref xA, .str fn ftk, va], []⟩) Rz ⟨hp0, ge, dr, tk0, osz⟩ := by
  have inst : InstAt hp0 xA { cls := .ref cA, data := .fields fvs } cA none := ⟨hx0, rfl, rfl, trivial⟩
  have sfo := PySem.F.store_object
  have nonE : cdt.mro.isEmpty = false := by rw [hmro]; rfl
  have hasO : cdt.mro.contains (.type "object") = true := by rw [hmro]; exact (exTail_has cA).trans (by decide +kernel)
  have xNew : xA ≠ hp0.objs.size := Nat.ne_of_lt (Heap.lt_size hx0)
  have isO : Looks (model pr wo) hp0 (isInstance (.ref xA) (.type "object")) true :=
    inst.type.andThen (looks_mroIn hin (by unfold mroIn; rw [hcd0, Option.bind_some, if_neg (by rw [nonE]; decide), hasO]))
  refine codeAny_call_builtin sfo.slot.plain sfo.entry (@check_slot (model pr wo) _ _ ⟨hp0, ge, dr, tk0, osz⟩ "object.__setattr__" "object" "__setattr__" (.ref xA) [.str fn ftk, va] [] _ sfo.kind sfo.split isO (sfo.args (.ref xA) (.str fn ftk) va) ?_)
  have lkM : Looks (model pr wo) hp0 (mroOf (.ref cA)) cdt.mro := (looks_clsIn hin hcd0).andThen .now
  have lkT : Looks (model pr wo) hp0 (storeTaker? none) none := .now
  have lkC : Looks (model pr wo) hp0 (classData cA) cdt := looks_clsIn hin hcd0
  rw [osa_eq, refuse_eq]
  refine wpAny_bind (wpAny_bind (inst.type.at (wpAny_bind (lkM.at ?_))))
  rw [hmro, exTail_pass]
  refine wpAny_pure (wpAny_bind (inst.type.at (wpAny_bind ((looks_findIn hin hno).at (wpAny_bind (lkT.at ?_))))))
  show wpAny _ _ (storeInOwnDict (.ref xA) (.ref cA) (.str fn ftk) fn va false) _ _ _
  obtain ⟨z1, z2, z3, z4, z5, z6, z7, z8, z9, z10, z11⟩ := cdt
  dsimp only at hdic
  subst hdic
  unfold storeInOwnDict ownDictForStores
  repeat (first | with_reducible refine store_in_new ?_ ?_ | with_reducible refine wpAny_loadPart_at hx0 ?_ | with_reducible refine lkC.at ?_ | wp_step)
  · exact ⟨_, #[], _, (Heap.get?_update_ne _ _ _ _ xNew.symm).trans (Heap.get?_push_at rfl rfl), rfl, fun e he => absurd he (by simp), fun _ => rfl⟩
  · intro hp1 tk1 hn1 hs1
    have hxp : (hp0.push { cls := .type "dict", data := .dict #[] }).get? xA = some { cls := .ref cA, data := .fields fvs } := Heap.get?_push_of_some _ hx0
    refine hgo hp1 tk1 hp0.objs.size (fun b o hb ho => ?_) (Nat.le_refl _) xNew.symm ?_ hn1
    · exact (hs1.2 b (Nat.ne_of_lt (Heap.lt_size ho))).trans ((Heap.get?_update_ne _ _ _ _ hb).trans (Heap.get?_push_of_some _ ho))
    · exact (hs1.2 xA xNew).trans (Heap.get?_update_self _ hxp rfl)
/-- a further field of an exception that has its dict -/
theorem eset_more {Kf : Frag} {fn : Str} {ftk : Tok} {va : Value} {xA cA dA : Addr} {fvs : Array Value} {cdt : ClassData} {mz : Str → Option Value} {nmz : List Str} (hin : Kf.In hp0)
    (hx0 : hp0.get? xA = some { cls := .ref cA, dict := some dA, data := .fields fvs }) (hnz : hp0.Ns1 dA mz) (hwz : Within mz nmz) (hlz : nmz.length ≤ 1000)
    (hcd0 : clsIn Kf cA = some cdt) (hmro : cdt.mro = .ref cA :: exTail) (hdic : cdt.hasDict = true) (hno : findIn Kf (.ref cA) fn = some none)
    (hgo : ∀ hp1 tk1, (∀ b o, b ≠ dA → hp0.get? b = some o → hp1.get? b = some o) → hp1.Ns1 dA (fun y => if y = fn then some va else mz y) → Rz (.ok (.ret .none)) ⟨hp1, ge, dr, tk1, osz⟩) :
    codeAny (model pr wo) Ar (.call (.builtin "object.__setattr__") ⟨[.ref xA, .str fn ftk, va], []⟩) Rz ⟨hp0, ge, dr, tk0, osz⟩ := by
  obtain ⟨oDz, _, _, hoDz, _, _⟩ := hnz.count hwz
  have inst : InstAt hp0 xA { cls := .ref cA, dict := some dA, data := .fields fvs } cA (some oDz) := ⟨hx0, rfl, rfl, hoDz⟩
  have sfo := PySem.F.store_object
  have nonE : cdt.mro.isEmpty = false := by rw [hmro]; rfl
  have hasO : cdt.mro.contains (.type "object") = true := by rw [hmro]; exact (exTail_has cA).trans (by decide +kernel)
  have isO : Looks (model pr wo) hp0 (isInstance (.ref xA) (.type "object")) true :=
    inst.type.andThen (looks_mroIn hin (by unfold mroIn; rw [hcd0, Option.bind_some, if_neg (by rw [nonE]; decide), hasO]))
  refine codeAny_call_builtin sfo.slot.plain sfo.entry (@check_slot (model pr wo) _ _ ⟨hp0, ge, dr, tk0, osz⟩ "object.__setattr__" "object" "__setattr__" (.ref xA) [.str fn ftk, va] [] _ sfo.kind sfo.split isO (sfo.args (.ref xA) (.str fn ftk) va) ?_)
  have lkM : Looks (model pr wo) hp0 (mroOf (.ref cA)) cdt.mro := (looks_clsIn hin hcd0).andThen .now
  have lkT : Looks (model pr wo) hp0 (storeTaker? none) none := .now
  have lkC : Looks (model pr wo) hp0 (classData cA) cdt := looks_clsIn hin hcd0
  rw [osa_eq, refuse_eq]
  refine wpAny_bind (wpAny_bind (inst.type.at (wpAny_bind (lkM.at ?_))))
  rw [hmro, exTail_pass]
  refine wpAny_pure (wpAny_bind (inst.type.at (wpAny_bind ((looks_findIn hin hno).at (wpAny_bind (lkT.at ?_))))))
  show wpAny _ _ (storeInOwnDict (.ref xA) (.ref cA) (.str fn ftk) fn va false) _ _ _
  obtain ⟨z1, z2, z3, z4, z5, z6, z7, z8, z9, z10, z11⟩ := cdt
  dsimp only at hdic
  subst hdic
  unfold storeInOwnDict ownDictForStores
  repeat (first | with_reducible refine PySem.OEX.store_in_old hnz hwz hlz ?_ | with_reducible refine wpAny_loadPart_at hx0 ?_ | with_reducible refine lkC.at ?_ | wp_step)
  intro hp1 tk1 hn1 hs1
  exact hgo hp1 tk1 (fun b o hb ho => (hs1.2 b hb).trans ho) hn1
end
end Shp
end
section
set_option maxRecDepth 100000
set_option maxHeartbeats 4000000
namespace Shp
open PySem PySem.Spec PyProof.Rows L2
section
variable {X : Cx} {pz : List (Addr × Obj)} {sl : L2.St} {Hz : Hp} {sh : Shared} {xA cA dA : Addr} {fn : Str} {yv : V} {uv : Value} {fz : List (Str × V)} {Qz : Unit → Shared → Prop} {Ez : Value → Shared → Prop} {Ar : Around}
theorem ExcOwn.data {K : PySem.W.Frag} (T : ExcOwn K cA) : ∃ cdt : ClassData, PySem.W.clsIn K cA = some cdt ∧ cdt.mro = .ref cA :: exTail ∧ cdt.hasDict = true := by
  obtain ⟨nm, qn, nsA, bas, snm, sbc, abs, cll, ddc, e0, e1, e2, e3, e5, hC⟩ := T.cl
  refine ⟨_, by unfold PySem.W.clsIn; rw [hC.at_], rfl, rfl⟩
/-- self.f = y: the first field -/
theorem est_first (T : ExcOwn X.K cA) (iv : Inv X pz sl Hz sh) (ex : Hz xA = some (exo xA cA none)) (hno : PySem.W.findIn X.K (.ref cA) fn = some none) (ry : RelV yv uv)
    (k : ∀ dA sh', Hz dA = none → dA ≠ xA → Inv X pz sl (upd (upd Hz dA (exd dA [(fn, yv)])) xA (exo xA cA (some dA))) sh' → Qz () sh') : wpAny (model X.prog X.w) Ar (setAttr (.ref xA) fn uv) Qz Ez sh := by
  obtain ⟨cdt, hcd, hmro, hdic⟩ := T.data
  obtain ⟨t1, ho⟩ := exo_at iv.hok ex
  obtain ⟨hp0, ge, dr, tk0, osz⟩ := sh
  refine PySem.W.set_plain iv.kIn (ox := { cls := .ref cA, dict := none, data := .fields #[.ref t1, .none, .none, .none, .bool false, .none] }) (od := none) ⟨ho, rfl, rfl, trivial⟩ T.st ?_
  refine eset_first iv.kIn ho hcd hmro hdic hno (fun hp1 tk1 dA kp dnew dne hx hn => ?_)
  have fresh : Hz dA = none := iv.hok.fresh dnew
  have offD : ∀ {b : Addr} {o : Obj}, hp0.get? b = some o → b ≠ dA := fun {b o} q => Nat.ne_of_lt (Nat.lt_of_lt_of_le (Heap.lt_size q) dnew)
  have offX : ∀ {b : Addr}, Hz b = none → b ≠ xA := fun {b} n z => by
    rw [z, ex] at n
    cases n
  have un1 : Un X.fs [] Hz (upd (upd Hz dA (exd dA [(fn, yv)])) xA (exo xA cA (some dA))) hp0 hp1 := {
    keep := fun b o q n _ _ => kp b o (offX n) q
    slot := fun b o q n _ _ => ⟨o.slots, kp b o (offX n) q⟩
    free := fun b o q n _ => by rw [upd_ne (offX n), upd_ne (offD q)]; exact n
    there := fun b o q _ => by
      by_cases hb : b = xA
      · exact ⟨_, by rw [hb]; exact hx⟩
      · exact ⟨o, kp b o hb q⟩
    tups := fun b l q => by rw [upd_ne (at_ne ex q exo_tup), upd_ne (ne_of_none q fresh)]; exact q
    frzs := fun b o v q => by rw [upd_ne (at_ne ex q exo_frz), upd_ne (ne_of_none q fresh)]; exact q
    tbls := fun b l q => ⟨#[], by rw [upd_ne (at_ne ex q exo_tbl), upd_ne (ne_of_none q fresh), q]; simp⟩ }
  refine k dA _ fresh dne (iv.un (t' := tk1) un1 fun b o q => ?_)
  by_cases hb : b = xA
  · subst hb
    rw [upd_same] at q
    cases q
    exact exo_ok hx
  · rw [upd_ne hb] at q
    by_cases hd : b = dA
    · subst hd
      rw [upd_same] at q
      cases q
      exact exd_ok hn (relO_put (fs := []) ry fun g => True.intro)
    · rw [upd_ne hd] at q
      refine (iv.hok b o q).stay (fun c v hc z => kp c v ?_ z) (fun c hc => ?_) (fun c l hc => ?_)
      · rcases hc with hc | hc
        · rw [hc]; exact hb
        · exact at_ne ex hc exo_own
      · rw [upd_ne (at_ne ex hc exo_own), upd_ne (ne_of_none hc fresh)]; exact hc
      · rw [upd_ne (at_ne ex hc exo_tup), upd_ne (ne_of_none hc fresh)]; exact hc
/-- self.f = y: a further field -/
theorem est_more (T : ExcOwn X.K cA) (iv : Inv X pz sl Hz sh) (ex : Hz xA = some (exo xA cA (some dA))) (ed : Hz dA = some (exd dA fz)) (hl : fz.length ≤ 900) (hno : PySem.W.findIn X.K (.ref cA) fn = some none) (ry : RelV yv uv)
    (k : ∀ sh', Inv X pz sl (upd Hz dA (exd dA ((fn, yv) :: fz))) sh' → Qz () sh') : wpAny (model X.prog X.w) Ar (setAttr (.ref xA) fn uv) Qz Ez sh := by
  obtain ⟨cdt, hcd, hmro, hdic⟩ := T.data
  obtain ⟨t1, ho⟩ := exo_at iv.hok ex
  obtain ⟨mz, hns, rel⟩ := exd_at iv.hok ed
  have hwz := within_of rel
  obtain ⟨hp0, ge, dr, tk0, osz⟩ := sh
  obtain ⟨oDz, _, _, hoDz, _, _⟩ := hns.count hwz
  refine PySem.W.set_plain iv.kIn (ox := { cls := .ref cA, dict := some dA, data := .fields #[.ref t1, .none, .none, .none, .bool false, .none] }) (od := some oDz) ⟨ho, rfl, rfl, hoDz⟩ T.st ?_
  refine eset_more iv.kIn ho hns hwz (by rw [List.length_map]; omega) hcd hmro hdic hno (fun hp1 tk1 kp hn => ?_)
  have there : ∃ o, hp1.get? dA = some o := by
    obtain ⟨o, _, _, e', _⟩ := hn
    exact ⟨o, e'⟩
  exact k _ (iv.write (t' := tk1) (x := dA) (e := dA) (o := exd dA ((fn, yv) :: fz)) (by rw [ed]; exact True.intro) (.inl rfl) kp there (exd_ok hn (relO_put ry rel)))
/-- Exception.__init__(self, ..): nothing of it is told -/
theorem einit_ok {us : List Value} {Qv : Value → Shared → Prop} (T : ExcOwn X.K cA) (iv : Inv X pz sl Hz sh) (ex : Hz xA = some (exo xA cA none)) (hl : us.length ≤ sizeLine) (k : ∀ sh', Inv X pz sl Hz sh' → Qv .none sh') :
    wpAny (model X.prog X.w) Ar (call (.builtin "Exception.__init__") (.ref xA :: us)) Qv Ez sh := by
  obtain ⟨nm, qn, nsA, bas, snm, sbc, abs, cll, ddc, e0, e1, e2, e3, e5, hC⟩ := T.cl
  obtain ⟨t1, ho⟩ := exo_at iv.hok ex
  obtain ⟨hp0, ge, dr, tk0, osz⟩ := sh
  refine wpAny_call (PySem.HandSPX.init_base PySem.F.excBase_Exception (fun _ => rfl) (iv.kIn _ _ hC.at_) ho hl fun hp1 tk1 kp hx => ?_)
  have jv := iv.write (t' := tk0) (x := xA) (e := xA) (o := exo xA cA none) (by rw [ex]; exact True.intro) (.inl rfl) kp ⟨_, hx⟩ (exo_ok hx)
  have same : upd Hz xA (exo xA cA none) = Hz := by
    funext b
    by_cases hb : b = xA
    · rw [hb, upd_same, ex]
    · rw [upd_ne hb]
  rw [same] at jv
  exact k _ jv
end
/-- Exception.__init__(self, ..) -/
def tEini (K : PySem.W.Frag) (ta : TA) : TE := fun σ H Q => ta σ H fun vs H1 => ∃ (xA cA : Addr) (ws : List V), vs = .ref xA :: ws ∧ ws.length ≤ 1000 ∧ ExcOwn K cA ∧ H1 xA = some (exo xA cA none) ∧ Q .non H1
/-- self.f = e -/
def tEset (K : PySem.W.Frag) (fn : Str) (to te : TE) : TS := fun D σ H => te σ H fun yv H1 => to σ H1 fun xv H2 => ∃ xA cA : Addr, xv = .ref xA ∧ ExcOwn K cA ∧ PySem.W.findIn K (.ref cA) fn = some none ∧
  ((H2 xA = some (exo xA cA none) ∧ ∀ dA, H2 dA = none → dA ≠ xA → D.nx σ (upd (upd H2 dA (exd dA [(fn, yv)])) xA (exo xA cA (some dA)))) ∨
    ∃ (dA : Addr) (fz : List (Str × V)), H2 xA = some (exo xA cA (some dA)) ∧ H2 dA = some (exd dA fz) ∧ fz.length ≤ 900 ∧ D.nx σ (upd H2 dA (exd dA ((fn, yv) :: fz))))
section
variable {X : Cx} {o e : Expr} {es : List Expr} {to te : TE} {ta : TA} {fn : Str} {p p' p1 p2 pos : Pos}
theorem ps_eset (ho : PE X o to) (he : PE X e te) (hs : swapsWith e (some (.Attribute o fn p')) pos.line X.env = pure false := by rfl) : PS X (.Assign [.Attribute o fn p'] e pos) (tEset X.K fn to te) := by
  refine ⟨fun pz s sl Hz D iv h => ?_⟩
  refine plainObj_wpAny_Assign_Attribute (thn (he.run pz s sl Hz _ iv h) fun v s1 ⟨yv, H1, I1, r1, q1⟩ => thn (ho.run pz s1 sl H1 _ I1 q1) fun u s2 ⟨xv, H2, I2, r2, xA, cA, ev, T, hno, q⟩ => ?_) hs
  subst ev
  obtain rfl : u = Value.ref xA := r2
  rcases q with ⟨ea, q⟩ | ⟨dA, fz, ea, ed, hl, q⟩
  · exact est_first T I2 ea hno r1 fun dA s' n ne jv => ⟨sl, _, jv, q dA n ne⟩
  · exact est_more T I2 ea ed hl hno r1 fun s' jv => ⟨sl, _, jv, q⟩
theorem typ_Exc : typeOf (.type "Exception") = pure (.type "type") := by kernel_rfl
theorem boot_Exc : bootBuiltins (Str.ofString "Exception") = some (.type "Exception") := by kernel_rfl
theorem pe_eini {pl : Sem Bool} (hg : Gl X "Exception") (hm : X.mg "Exception" = none) (vE : PySem.W.findCls X.K (.type "Exception") (.type "type") "__init__" = some (.val (.builtin "Exception.__init__"))) (ha : PA X (e :: es) ta)
    (hc : eval (.Call (.Attribute (.Name "Exception" p1) "__init__" p2) (e :: es) [] pos) X.env = (do
      let ov ← eval (.Name "Exception" p1) X.env
      standAt p2.atName
      let (f, first) ← holding [ov] (getMethod ov "__init__" pl)
      callWith pos f first (backTo pos (starEach (e :: es) X.env)) (backToKw pos (keywordEach [] X.env))) := by rfl)
    (he : starEach (e :: es) X.env = (false, eval e X.env) :: starEach es X.env := by rfl) (hpl : (backTo pos (starEach es X.env)).any (·.1) = false := by rfl) :
    PE X (.Call (.Attribute (.Name "Exception" p1) "__init__" p2) (e :: es) [] pos) (tEini X.K ta) := by
  refine ⟨fun pz s sl Hz Q iv h => ?_⟩
  refine PySem.W.methodCall_KW (ld_blt iv hg hm boot_Exc ?_ (by decide) (by decide)) hc
  obtain ⟨m, fr⟩ := iv.fr
  refine PySem.W.method_type fr iv.ok.mod.kin typ_Exc (by decide +kernel) vE (by decide +kernel) ?_
  show wpAny _ _ (callWith pos (Value.builtin "Exception.__init__") [] (backTo pos (starEach (e :: es) X.env)) []) _ _ _
  refine callWith_method1 (thn (ha.run pos pz _ sl Hz _ (iv.tok _) h) fun us s1 ⟨vs, H1, I1, r1, xA, cA, ws, ev, hl, T, ea, q⟩ => ?_) he hpl
  subst ev
  cases r1 with
  | @cons _ u0 _ ur ra rw' =>
    obtain rfl : u0 = Value.ref xA := ra
    have hlen : ur.length ≤ sizeLine := by
      rw [← Paired.length rw', sizeLine_eq]
      omega
    exact einit_ok T I1 ea hlen fun s' jv => ⟨.non, H1, jv, rfl, q⟩
/-- C(e, ..), C's own initializer keeping its promise -/
theorem pmk_eown {CX : CXT} {nx : Str} {cA fI : Addr} {k : Nat} {fd : FuncData} {ps : List Str} {sp : Sp} {ds : List Value} {dvs : List V} (T : ExcOwn X.K cA) (iC : PySem.W.findIn X.K (.ref cA) "__init__" = some (some (.ref fI))) (tI : PySem.W.typeIn X.K (.ref fI) = some (.type "function"))
    (G : FnOk X.prog X.w X.K X.mg X.base CX k fI fd ps sp) (room : Room (k + 1) X.A) (hb : Binds X.K fd ps ds) (hd : Vals dvs ds) (hx : Passes CX X (fun _ _ _ => False)) (hg : Gl X nx) (hm : X.mg nx = some (.ref cA)) (ha : PA X (e :: es) ta)
    (hdb : (nx == ("__debug__" : Str)) = false := by decide) (he : starEach (e :: es) X.env = (false, eval e X.env) :: starEach es X.env := by rfl) (hpl : (backTo pos (starEach es X.env)).any (·.1) = false := by rfl) :
    PMk X (.Call (.Name nx p) (e :: es) [] pos) (tMkO cA sp dvs ta) := by
  intro pz s sl Hz Q iv h
  obtain ⟨nm, qn, nsA, bas, snm, sbc, abs, cll, ddc, e0, e1, e2, e3, e5, hC⟩ := T.cl
  refine wpAny_Call_Name_kw (ld_glob iv hg hm ?_ hdb)
  refine PySem.W.callWith_K (h₀ := X.base) iv.ok.mod.kin T.kp (thn (ha.run pos pz s sl Hz _ iv h) fun us s1 ⟨vs, H1, I1, r1, hz, q1⟩ => ⟨I1.kIn, ?_⟩) he hpl
  show wpAny _ _ (call (.ref cA) us) _ _ _
  obtain ⟨hp0, ge, dr, tk0, osz⟩ := s1
  have up1 : hp0.objs.size ≤ hp0.objs.size + 1 := Nat.le_succ _
  have fresh : H1 (hp0.objs.size + 1) = none := I1.hok.fresh up1
  have hq := q1 (hp0.objs.size + 1) fresh
  have kp : ∀ b o, hp0.get? b = some o → ((hp0.push (PySem.W.kdv_tup us)).push (PySem.HandSPX.excO cA hp0.objs.size)).get? b = some o := fun b o z => Heap.get?_push_of_some _ (Heap.get?_push_of_some _ z)
  have made : ((hp0.push (PySem.W.kdv_tup us)).push (PySem.HandSPX.excO cA hp0.objs.size)).get? (hp0.objs.size + 1) = some (PySem.HandSPX.excO cA hp0.objs.size) := by heap_get
  have I2 : Inv X pz sl (upd H1 (hp0.objs.size + 1) (exo (hp0.objs.size + 1) cA none)) ⟨(hp0.push (PySem.W.kdv_tup us)).push (PySem.HandSPX.excO cA hp0.objs.size), ge, dr, tk0, osz⟩ :=
    I1.laid (t' := tk0) (a := hp0.objs.size + 1) (o := exo (hp0.objs.size + 1) cA none) (h' := (hp0.push (PySem.W.kdv_tup us)).push (PySem.HandSPX.excO cA hp0.objs.size)) kp up1 (exo_ok made)
  have r2 : Vals (V.ref (hp0.objs.size + 1) :: (vs ++ dvs)) (Value.ref (hp0.objs.size + 1) :: (us ++ ds)) := .cons rfl (r1.append hd)
  have hl : (Value.ref (hp0.objs.size + 1) :: us ++ ds).length = ps.length := by
    have z := r2.length
    rw [G.len _ _ _ _ hq] at z
    exact z.symm
  have hus : us.length ≤ sizeLine := by
    rw [← Paired.length r1, sizeLine_eq]
    omega
  refine wpAny_call (PySem.HandSPX.call_own PySem.F.excBase_Exception (fun _ => rfl) (I1.kIn _ _ hC.at_) (PySem.W.looks_findIn I1.kIn iC) (fun self => PySem.W.bind_fn I1.kIn self tI) hus
    (codeAny_mono (G.run _ X.stack _ _ ⟨Value.ref (hp0.objs.size + 1) :: us, []⟩ (Value.ref (hp0.objs.size + 1) :: (us ++ ds)) _ _ (fun _ _ _ => False) (room.make cA us []) (I2.env0.make cA us []) (hb _ (Value.ref (hp0.objs.size + 1) :: us) I2.kIn hl) r2 hq) fun r s' hq' => ?_))
  cases r with
  | error er => exact hx pz sl _ _ er s' I2 hq'
  | ok fl =>
    cases fl with
    | ret u =>
      obtain ⟨v, H2, os2, bare2, un2, hok2, rv, ev, dA, fz, ea, ed, hd1, q2⟩ := hq'
      subst ev
      obtain ⟨h2, g2, d2, t2, os'⟩ := s'
      exact ⟨rv, mk_end (raises_own T.bas T.ty) I1 up1 kp un2 hok2 os2 bare2 ea ed hd1 q2⟩
    | next => exact False.elim hq'
    | brk => exact False.elim hq'
    | cont => exact False.elim hq'
end
end Shp
end
section
set_option maxRecDepth 100000
set_option maxHeartbeats 4000000
namespace Shp
open PySem PySem.Spec PyProof.Rows L2
/-- what the top has written of the faults' class -/
structure FaultT (K : PySem.W.Frag) (cA : Addr) where
  f : Addr
  fd : FuncData
  own : ExcOwn K cA
  iC : PySem.W.findIn K (.ref cA) "__init__" = some (some (.ref f))
  tI : PySem.W.typeIn K (.ref f) = some (.type "function")
  F : Fun K "__init__" "Fault.__init__" s_Fault___init__ f fd
  b : Binds K fd P_Fault___init__ []
  vE : PySem.W.findCls K (.type "Exception") (.type "type") "__init__" = some (.val (.builtin "Exception.__init__"))
  nC : PySem.W.findIn K (.ref cA) "code" = some none
  nP : PySem.W.findIn K (.ref cA) "place" = some none
  xf : XfC K cA
  te : PySem.W.exmOne K (.ref cA) (.ref cA) = some true
section
variable {P : Program} {w : World} {K : PySem.W.Frag} {mg : Str → Option Value} {base : Heap}
def faultFs (c p : Int) : List (Str × V) := [("place", .int p), ("code", .int c)]
def sp_Fault___init__ (cA : Addr) : Sp := fun vs H Q _ => ∃ (xA : Addr) (c p : Int),
  vs = [.ref xA, .int c, .int p] ∧ H xA = some (exo xA cA none) ∧
  ∀ (H' : Hp) (d : Addr), H d = none → H' xA = some (exo xA cA (some d)) → H' d = some (exd d (faultFs c p)) → Keep [xA] H H' → Q .non H'
theorem ok_Fault___init__ (T : Top K mg) (TF : FaultT K T.C_Fault) : FnOk P w K mg base CX0 1 TF.f TF.fd P_Fault___init__ (sp_Fault___init__ T.C_Fault) := by
  refine TF.F.ok sc_Fault___init__ (fun vs H Q E h => by obtain ⟨_, _, _, rfl, _⟩ := h; rfl) (fun cdv A outer s H vs Q E hr h => ?_)
  refine ⟨_, pss_cons (ps_expr (pe_eini rfl T.b_Exception TF.vE (pa_cons (pv 0) (pa_cons (pv 1) (pa_cons (pv 2) pa_nil))))) (pss_cons (ps_eset (pv 0) (pv 1)) (pss_one (ps_eset (pv 0) (pv 2)))), ?_⟩
  obtain ⟨xA, c, p, rfl, hx, hk⟩ := h
  refine ⟨_, rfl, _, rfl, _, rfl, xA, T.C_Fault, _, rfl, (show 2 ≤ 1000 by decide), TF.own, hx, ?_⟩
  refine ⟨_, rfl, _, rfl, xA, T.C_Fault, rfl, TF.own, TF.nC, .inl ⟨hx, fun dA hd hdx => ?_⟩⟩
  have e1 : (upd (upd H dA (exd dA [("code", .int c)])) xA (exo xA T.C_Fault (some dA))) xA = some (exo xA T.C_Fault (some dA)) := upd_same
  have e2 : (upd (upd H dA (exd dA [("code", .int c)])) xA (exo xA T.C_Fault (some dA))) dA = some (exd dA [("code", .int c)]) := by rw [upd_ne hdx, upd_same]
  refine ⟨_, rfl, _, rfl, xA, T.C_Fault, rfl, TF.own, TF.nP, .inr ⟨dA, _, e1, e2, (show 1 ≤ 900 by decide), ?_⟩⟩
  refine hk _ dA hd ?_ upd_same ?_
  · rw [upd_ne (Ne.symm hdx)]; exact e1
  · intro b o hb hn
    have hbx : b ≠ xA := by simpa using hn
    have hbd : b ≠ dA := ne_of_none hb hd
    rw [upd_ne hbd, upd_ne hbx, upd_ne hbd]; exact hb
/-- a fault may leave -/
def FaultIs (E : XK) (cA : Addr) (H : Hp) (c p : Int) : Prop := ∀ (d : Addr) (H' : Hp), H' d = some (.xd (faultFs c p)) → Same H H' → E (.ref cA) (some d) H'
theorem FaultIs.same {E : XK} {cA : Addr} {H H1 : Hp} {c p : Int} (h : FaultIs E cA H c p) (s : Same H H1) : FaultIs E cA H1 c p := fun d H' hd s' => h d H' hd (s.trans s')
theorem raise_fault {E : XK} {cA : Addr} {H : Hp} {c p : Int} (h : FaultIs E cA H c p) : ([V.int c, V.int p] : List V).length ≤ 1000 ∧ ∀ a, H a = none → sp_Fault___init__ cA (.ref a :: ([V.int c, V.int p] ++ [])) (upd H a (exo a cA none))
    (fun v H2 => v = .non ∧ ∃ (d : Addr) (fs : List (Str × V)), H2 a = some (exo a cA (some d)) ∧ H2 d = some (exd d fs) ∧ H d = none ∧ E (.ref cA) (some d) (upd (del H2 a) d (.xd fs))) (fun _ _ _ => False) := by
  refine ⟨(show 2 ≤ 1000 by decide), fun a ha => ⟨a, c, p, rfl, upd_same, fun H' d hd h1 h2 kp => ⟨rfl, d, _, h1, h2, ?_, h d _ upd_same ?_⟩⟩⟩
  · by_cases e : d = a
    · rw [e]; exact ha
    · rw [upd_ne e] at hd; exact hd
  · intro b o hb
    have hba : b ≠ a := ne_of_none hb ha
    have hbd : b ≠ d := by
      rintro rfl
      rw [upd_ne hba, hb] at hd; cases hd
    rw [upd_ne hbd, del_ne hba]
    exact kp b o (by rw [upd_ne hba]; exact hb) (by simpa using hba)
/-- a token's tuple -/
def TokAt (K : PySem.W.Frag) (H : Hp) (t : Addr) (x : VapcmBase.PTok) : Prop := ∃ u, SqT K H t [.str (bx u), .int (x.place : Int)] ∧ TokW x.tok u ∧ PlainB u ∧ u.length ≤ 4096
theorem TokAt.same {H H' : Hp} {t : Addr} {x : VapcmBase.PTok} (h : TokAt K H t x) (s : Same H H') : TokAt K H' t x := by
  obtain ⟨u, h1, h2⟩ := h
  exact ⟨u, same_seqT s h1, h2⟩
/-- only the last token is the end -/
def Ending (l : VapcmBase.Toks) : Prop := ∃ l' p, l = l' ++ [⟨p, .last⟩] ∧ ∀ t ∈ l', t.tok ≠ .last
def sp_tokens_of (T : Top K mg) : Sp := fun vs H Q E => ∃ (a : Addr) (bs : List UInt8),
  vs = [.ref a] ∧ SqL K H a (bs.map fun b => V.int ((b.toNat : Nat) : Int)) ∧ bs.length ≤ 4096 ∧
  (∀ toks, LX 0 bs = .ok toks → ∀ (D : Addr) (ts : List Addr) (H' : Hp), Same H H' → H' D = some (.lst (ts.map V.ref)) → Paired (TokAt K H') ts toks → Ending toks → ts.length ≤ 5000 → H D = none → Q (.ref D) H') ∧
  (∀ f, LX 0 bs = .error f → FaultIs E T.C_Fault H (f.code : Int) (f.place : Int))
theorem cut_TX {bs : List UInt8} {p q : Nat} (h : p ≤ q) (hq : q ≤ bs.length) : cutS (TX bs) (some (p : Int)) (some (q : Int)) = TX ((bs.drop p).take (q - p)) := by
  unfold cutS
  rw [HT.sIx_nat, HT.sIx_nat, TX_len, Nat.min_eq_left (Nat.le_trans h hq), Nat.min_eq_left hq, TX_codes]
  unfold TX sgs
  rw [List.map_take, List.map_drop]
theorem ok_tokens_of (T : Top K mg) (TF : FaultT K T.C_Fault) : FnOk P w K mg base (L2.CX P w) 3 T.d_tokens_of.f T.d_tokens_of.fd P_tokens_of (sp_tokens_of T) := by
  refine T.d_tokens_of.F.okX sc_tokens_of (fun vs H Q E h => by obtain ⟨_, _, rfl, _⟩ := h; rfl) (fun cdv A outer s H vs Q E hr h => ?_)
  refine ⟨_, (pss_cons (ps_set (i := 1) sc_tokens_of.nd rfl (Or.inl rfl) (pe_call (ok_as_signs T) (hr.mono (by decide)) rfl T.d_as_signs.mg T.d_as_signs.F.kp T.d_as_signs.b .nil pass0 (pa_cons (pv 0) pa_nil)))
    (pss_cons (ps_set (i := 2) sc_tokens_of.nd rfl (Or.inl rfl) (pe_lst pa_nil))
    (pss_cons (ps_set (i := 3) sc_tokens_of.nd rfl (Or.inl rfl) (pe_call (ok_token_place T) (hr.mono (by decide)) rfl T.d_token_place.mg T.d_token_place.F.kp T.d_token_place.b .nil pass0 (pa_cons (pv 1) (pa_cons pe_int pa_nil))))
    (pss_cons (ps_while (passes_of rfl) (pt_cmpR op_lt (pv 3) (pe_callB call_len_str (by rfl) T.b_len PySem.boot_len (pa_cons (pv 1) pa_nil)) (nomark _)) (pss_cons (ps_set (i := 4) sc_tokens_of.nd rfl (Or.inl rfl) (pe_call (ok_token_end T) (hr.mono (by decide)) rfl T.d_token_end.mg T.d_token_end.F.kp T.d_token_end.b .nil pass0 (pa_cons (pv 1) (pa_cons (pv 3) pa_nil))))
      (pss_cons (ps_set (i := 5) sc_tokens_of.nd rfl (Or.inl rfl) (pe_slice sl_str (pv 1) (po_some (pv 3)) (po_some (pv 4))))
      (pss_cons (ps_if (pt_not (pt_val (pe_call (ok_is_token T) (hr.mono (by decide)) rfl T.d_is_token.mg T.d_is_token.F.kp T.d_is_token.b .nil pass0 (pa_cons (pv 5) pa_nil)))) (pss_one (ps_raise rfl (takes_of rfl rfl rfl rfl) (pmk_eown TF.own TF.iC TF.tI (ok_Fault___init__ T TF) (hr.mono (by decide)) TF.b .nil pass0 rfl T.mg_Fault (pa_cons (pe_glob rfl T.c_NO_TOKEN.choose_spec relI) (pa_cons (pv 3) pa_nil))))) pss_nil)
      (pss_cons (ps_expr (pe_bm PySem.F.plainAttrs_list PySem.F.slot_list_append PySem.F.type_list_append mt_append (pv 2) (pa_cons (pe_tup (pa_cons (pv 5) (pa_cons (pv 3) pa_nil))) pa_nil)))
      (pss_one (ps_set (i := 3) sc_tokens_of.nd rfl (Or.inl rfl) (pe_call (ok_token_place T) (hr.mono (by decide)) rfl T.d_token_place.mg T.d_token_place.F.kp T.d_token_place.b .nil pass0 (pa_cons (pv 1) (pa_cons (pv 4) pa_nil))))))))))
    (pss_cons (ps_expr (pe_bm PySem.F.plainAttrs_list PySem.F.slot_list_append PySem.F.type_list_append mt_append (pv 2) (pa_cons (pe_tup (pa_cons (pe_glob rfl T.c_END.choose_spec relS) (pa_cons (pe_callB call_len_str (by rfl) T.b_len PySem.boot_len (pa_cons (pv 1) pa_nil)) pa_nil))) pa_nil)))
    (pss_one (ps_ret (pv 2)))))))), ?_⟩
  obtain ⟨a, bs, rfl, ha, hz, kO, kE⟩ := h
  refine ⟨_, rfl, a, bs, rfl, ha, hz, fun H1 s1 => ?_⟩
  refine ⟨Nat.zero_le _, fun D hD => ?_⟩
  have nD : H D = none := s1.free hD
  refine ⟨_, rfl, bs, 0, rfl, hz, Nat.zero_le _, fun q0 hq0 hq1 hq2 hq3 => ?_⟩
  rw [List.drop_zero] at hq2
  refine ⟨fun m σ H' => ∃ (q : Nat) (pre : VapcmBase.Toks) (ts : List Addr) (v4 v5 : Option V), m = bs.length - q ∧
    σ = [some (.ref a), some (.str (TX bs)), some (.ref D), some (.int (q : Int)), v4, v5] ∧ Same H H' ∧ H' D = some (.lst (ts.map V.ref)) ∧ Paired (TokAt K H') ts pre ∧ (∀ t ∈ pre, t.tok ≠ .last) ∧
    q ≤ bs.length ∧ ts.length ≤ q ∧ (∀ x, bs[q]? = some x → VapcmBase.isBlank x = false ∧ x ≠ 35) ∧ LX 0 bs = (LX q (bs.drop q)).map (fun l => pre ++ l), ⟨_, q0, [], [], none, none, rfl, rfl, s1.trans (same_new hD), upd_same, .nil, by simp, hq1, Nat.zero_le _, hq3, ?_⟩, ?_⟩
  · rw [hq2]
    cases LX q0 (bs.drop q0) <;> rfl
  rintro m σ H' ⟨q, pre, ts, v4, v5, rfl, rfl, sm, hl, hp, hnl, hqz, htz, hnb, hlx⟩
  refine ⟨_, rfl, _, rfl, _, rfl, TX_small hz, _, _, rfl, rfl, _, rfl, ?_⟩
  rw [TX_len]
  by_cases c : q < bs.length
  · refine iteT (by simp; exact c) ?_
    refine ⟨_, fun _ _ h => h, ?_⟩
    obtain ⟨b, hb⟩ : ∃ b, bs[q]? = some b := ⟨bs[q], List.getElem?_eq_getElem c⟩
    obtain ⟨nb, nr⟩ := hnb b hb
    refine ⟨_, rfl, _, rfl, bs, q, b, rfl, hz, hb, fun r hE => ?_⟩
    have hqr := hE.lt
    have hrz := hE.le
    obtain ⟨lt1, lt2⟩ := lx_tok hb nb nr hE
    have hpl := tok_plain hb hE
    have hw : (bs.drop q).take (r - q) = b :: (bs.drop (q + 1)).take (r - (q + 1)) := by
      rw [drop_cons hb, show r - q = (r - (q + 1)) + 1 by omega, List.take_succ_cons]
    have hwl : ((bs.drop q).take (r - q)).length ≤ 4096 := by rw [List.length_take, List.length_drop]; omega
    refine ⟨_, rfl, _, rfl, _, rfl, _, rfl, _, rfl, _, rfl, TX_small hz, ?_⟩
    rw [cut_TX (by omega) hrz]
    have hdig : VapcmBase.isLetter b = false → VapcmBase.isDigit b = true → ∀ x ∈ (bs.drop q).take (r - q), VapcmBase.isDigit x = true := fun cl cd x hx => by
      obtain ⟨i, hi⟩ := List.mem_iff_getElem?.mp hx
      have hlt : i < r - q := by
        have := (List.getElem?_eq_some_iff.mp hi).1
        rw [List.length_take] at this; omega
      rw [List.getElem?_take_of_lt hlt, List.getElem?_drop] at hi
      exact (hE.d cl cd).1 (q + i) x (by omega) (by omega) hi
    have hone : VapcmBase.isLetter b = false → VapcmBase.isDigit b = false → (bs.drop (q + 1)).take (r - (q + 1)) = [] := fun cl cd => by
      have := hE.o cl cd
      subst this
      simp
    refine ⟨_, rfl, b, _, by rw [hw]; rfl, by rw [← hw]; exact hwl, fun cl cd => by rw [← hw]; exact hdig cl cd, hone, ?_⟩
    rw [← hw]
    refine ⟨_, rfl, ?_⟩
    cases hok : okTok ((bs.drop q).take (r - q)) with
    | false =>
      refine iteT rfl ?_
      refine ⟨_, rfl, raise_fault ?_⟩
      rw [lt2 hok] at hlx
      exact (kE _ hlx).same sm
    | true =>
      refine iteF rfl ?_
      obtain ⟨tk, htk, hlq⟩ := lt1 hok
      refine ⟨_, rfl, tyL hl, _, rfl, _, rfl, (show 2 ≤ sizeLine by decide), fun t ht => ?_⟩
      have hl2 := same_new (o := .tup [.str (TX ((bs.drop q).take (r - q))), .int (q : Int)]) ht _ _ hl
      refine ⟨D, _, _, rfl, rfl, hl2, small_lt (m := 10000) (by rw [List.length_map]; omega), ?_⟩
      refine ⟨_, rfl, _, rfl, bs, r, rfl, hz, hrz, fun q2 h1 h2 h3 h4 => ?_⟩
      have sm2 : Same H (upd (upd H' t (.tup [.str (TX ((bs.drop q).take (r - q))), .int (q : Int)])) D (.lst (ts.map V.ref ++ [.ref t]))) := same_old (same_newer sm ht) nD
      have ntD : t ≠ D := fun e => by rw [e] at ht; rw [hl] at ht; cases ht
      refine ⟨_, by omega, q2, pre ++ [⟨q, tk⟩], ts ++ [t], _, _, rfl, rfl, sm2, ?_, ?_, ?_, h2, ?_, h4, ?_⟩
      · rw [upd_same]; simp
      · have keep : ∀ (x : Addr) (y : VapcmBase.PTok), TokAt K H' x y → TokAt K (upd (upd H' t (.tup [.str (TX ((bs.drop q).take (r - q))), .int (q : Int)])) D (.lst (ts.map V.ref ++ [.ref t]))) x y := fun x y h => by
          obtain ⟨u, z1, z2⟩ := h.same (same_new ht)
          exact ⟨u, seqT_upd hl2 (by intro _ z; cases z) z1, z2⟩
        refine paired_snoc ?_ (paired_mono keep hp)
        refine ⟨(bs.drop q).take (r - q), SqT.of ?_, htk, hpl hok, hwl⟩
        rw [upd_ne ntD, upd_same, TX_plain (hpl hok)]
      · intro x hx
        rcases List.mem_append.mp hx with hx | hx
        · exact hnl x hx
        · simp only [List.mem_singleton] at hx
          subst hx
          rintro rfl
          have : (bs.drop q).take (r - q) = [] := htk
          rw [hw] at this; cases this
      · rw [List.length_append, List.length_singleton]; omega
      · rw [hlx, hlq, h3]
        cases LX q2 (bs.drop q2) with
        | error f => rfl
        | ok l => show Except.ok (pre ++ (⟨q, tk⟩ :: l)) = Except.ok (pre ++ [⟨q, tk⟩] ++ l); simp
  · refine iteF (by simp; omega) ?_
    obtain rfl : q = bs.length := by omega
    rw [List.drop_length, lx_nil] at hlx
    have hlx' : LX 0 bs = .ok (pre ++ [⟨bs.length, .last⟩]) := hlx
    refine ⟨_, rfl, tyL hl, _, rfl, _, rfl, TX_small hz, (show 2 ≤ sizeLine by decide), fun t ht => ?_⟩
    have hl2 := same_new (o := .tup [.str (Str.ofString ""), .int (((TX bs).length : Nat) : Int)]) ht _ _ hl
    refine ⟨D, _, _, rfl, rfl, hl2, small_lt (m := 10000) (by rw [List.length_map]; omega), ?_⟩
    refine ⟨_, rfl, ?_⟩
    have ntD : t ≠ D := fun e => by rw [e] at ht; rw [hl] at ht; cases ht
    refine kO _ hlx' D (ts ++ [t]) _ (same_old (same_newer sm ht) nD) ?_ ?_ ⟨pre, bs.length, rfl, hnl⟩ ?_ nD
    · rw [upd_same]; simp
    · have keep : ∀ (x : Addr) (y : VapcmBase.PTok), TokAt K H' x y → TokAt K (upd (upd H' t (.tup [.str (Str.ofString ""), .int (((TX bs).length : Nat) : Int)])) D (.lst (ts.map V.ref ++ [.ref t]))) x y := fun x y h => by
        obtain ⟨u, z1, z2⟩ := h.same (same_new ht)
        exact ⟨u, seqT_upd hl2 (by intro _ z; cases z) z1, z2⟩
      refine paired_snoc ⟨[], SqT.of ?_, rfl, (fun x hx => nomatch hx), by simp⟩ (paired_mono keep hp)
      rw [upd_ne ntD, upd_same, TX_len]; rfl
    · rw [List.length_append, List.length_singleton]; omega
end
end Shp
end
section
namespace Shp
open Vapcma

/-- put formulas for unknowns -/
def sub (s : Nat → Form) : Form → Form
  | .var v => s v
  | .imp a b => .imp (sub s a) (sub s b)
  | .neg a => .neg (sub s a)

theorem sub_id (f : Form) : sub Form.var f = f := by
  induction f with
  | var v => rfl
  | imp a b iha ihb => simp only [sub, iha, ihb]
  | neg a iha => simp only [sub, iha]
theorem sub_sub (s t : Nat → Form) (f : Form) : sub t (sub s f) = sub (fun v => sub t (s v)) f := by
  induction f with
  | var v => rfl
  | imp a b iha ihb => simp only [sub, iha, ihb]
  | neg a iha => simp only [sub, iha]
theorem sub_congr {s t : Nat → Form} {f : Form} (h : ∀ v ∈ vars f, s v = t v) : sub s f = sub t f := by
  induction f with
  | var v => exact h v (by simp [vars])
  | imp a b iha ihb =>
    simp only [sub]
    rw [iha fun v hv => h v (by simp [vars, hv]), ihb fun v hv => h v (by simp [vars, hv])]
  | neg a iha =>
    simp only [sub]
    rw [iha fun v hv => h v (by simp [vars, hv])]
theorem sub_inj {s t : Nat → Form} {f : Form} (h : sub s f = sub t f) : ∀ v ∈ vars f, s v = t v := by
  induction f with
  | var v => intro u hu; simp [vars] at hu; subst hu; exact h
  | imp a b iha ihb =>
    simp only [sub, Form.imp.injEq] at h
    intro u hu
    simp only [vars, List.mem_append] at hu
    rcases hu with hu | hu
    · exact iha h.1 u hu
    · exact ihb h.2 u hu
  | neg a iha =>
    simp only [sub, Form.neg.injEq] at h
    intro u hu
    exact iha h u (by simpa [vars] using hu)
theorem rename_sub (r : Nat → Nat) (f : Form) : rename r f = sub (fun v => .var (r v)) f := by
  induction f with
  | var v => rfl
  | imp a b iha ihb => simp only [sub, rename, iha, ihb]
  | neg a iha => simp only [sub, rename, iha]
theorem replace_sub (v : Nat) (t f : Form) : replace v t f = sub (fun x => if x = v then t else .var x) f := by
  induction f with
  | var x => rfl
  | imp a b iha ihb => simp only [sub, replace, iha, ihb]
  | neg a iha => simp only [sub, replace, iha]
theorem size_pos (f : Form) : 0 < size f := by cases f <;> simp [size]
theorem size_le_sub (s : Nat → Form) (f : Form) : size f ≤ size (sub s f) := by
  induction f with
  | var v => exact size_pos (s v)
  | imp a b iha ihb => simp only [sub, size]; omega
  | neg a iha => simp only [sub, size]; omega
theorem size_var_le {s : Nat → Form} {f : Form} {v : Nat} (h : v ∈ vars f) : size (s v) ≤ size (sub s f) := by
  induction f with
  | var x => simp [vars] at h; subst h; exact Nat.le_refl _
  | imp a b iha ihb =>
    simp only [vars, List.mem_append] at h
    simp only [sub, size]
    rcases h with h | h
    · have := iha h; omega
    · have := ihb h; omega
  | neg a iha =>
    have := iha (by simpa [vars] using h)
    simp only [sub, size]; omega
theorem occurs {s : Nat → Form} {t : Form} {v : Nat} (h : v ∈ vars t) (ne : t ≠ .var v) : s v ≠ sub s t := by
  intro e
  cases t with
  | var x => simp [vars] at h; subst h; exact ne rfl
  | imp a b =>
    simp only [vars, List.mem_append] at h
    have e2 := congrArg size e
    simp only [sub, size] at e2
    rcases h with h | h
    · have := size_var_le (s := s) h; omega
    · have := size_var_le (s := s) h; omega
  | neg a =>
    have e2 := congrArg size e
    simp only [sub, size] at e2
    have := size_var_le (s := s) (show v ∈ vars a by simpa [vars] using h); omega

/-! what differ says -/
theorem differ_same {f g : Form} (h : differ f g = .same) : f = g := by
  induction f generalizing g with
  | var x =>
    cases g with
    | var y => simp only [differ] at h; split at h; · simp_all
               · cases h
    | imp a b => simp [differ] at h
    | neg a => simp [differ] at h
  | imp a b iha ihb =>
    cases g with
    | var y => simp [differ] at h
    | imp c d =>
      simp only [differ] at h
      cases e : differ a c with
      | same => rw [e] at h; rw [iha e, ihb h]
      | at_ v t => rw [e] at h; cases h
      | clash => rw [e] at h; cases h
    | neg a => simp [differ] at h
  | neg a iha =>
    cases g with
    | var y => simp [differ] at h
    | imp c d => simp [differ] at h
    | neg c => simp only [differ] at h; rw [iha h]
theorem differ_self (f : Form) : differ f f = .same := by
  induction f with
  | var x => simp [differ]
  | imp a b iha ihb => simp only [differ, iha, ihb]
  | neg a iha => simp only [differ, iha]
theorem differ_clash {f g : Form} (h : differ f g = .clash) (s : Nat → Form) : sub s f ≠ sub s g := by
  induction f generalizing g with
  | var x =>
    cases g with
    | var y => simp only [differ] at h; split at h <;> cases h
    | imp a b => simp [differ] at h
    | neg a => simp [differ] at h
  | imp a b iha ihb =>
    cases g with
    | var y => simp [differ] at h
    | imp c d =>
      simp only [differ] at h
      intro q
      simp only [sub, Form.imp.injEq] at q
      cases e : differ a c with
      | same => rw [e] at h; exact ihb h q.2
      | at_ v t => rw [e] at h; cases h
      | clash => exact iha e q.1
    | neg a => intro q; simp [sub] at q
  | neg a iha =>
    cases g with
    | var y => simp [differ] at h
    | imp c d => intro q; simp [sub] at q
    | neg c =>
      simp only [differ] at h
      intro q
      simp only [sub, Form.neg.injEq] at q
      exact iha h q
theorem differ_at {f g t : Form} {v : Nat} (h : differ f g = .at_ v t) :
    (∀ s, sub s f = sub s g → s v = sub s t) ∧ t ≠ .var v ∧ (v ∈ vars f ∨ v ∈ vars g) ∧ (∀ x ∈ vars t, x ∈ vars f ∨ x ∈ vars g) := by
  induction f generalizing g with
  | var x =>
    cases g with
    | var y =>
      simp only [differ] at h
      split at h
      · cases h
      · rename_i ne
        cases h
        refine ⟨fun s q => q, fun q => ne (Form.var.inj q).symm, by simp [vars], by simp [vars]⟩
    | imp a b =>
      simp only [differ, Differ.at_.injEq] at h
      obtain ⟨rfl, rfl⟩ := h
      exact ⟨fun s q => q, fun q => (nomatch q), by simp [vars], fun x hx => .inr hx⟩
    | neg a =>
      simp only [differ, Differ.at_.injEq] at h
      obtain ⟨rfl, rfl⟩ := h
      exact ⟨fun s q => q, fun q => (nomatch q), by simp [vars], fun x hx => .inr hx⟩
  | imp a b iha ihb =>
    cases g with
    | var y =>
      simp only [differ, Differ.at_.injEq] at h
      obtain ⟨rfl, rfl⟩ := h
      exact ⟨fun s q => q.symm, fun q => (nomatch q), by simp [vars], fun x hx => .inl hx⟩
    | imp c d =>
      simp only [differ] at h
      simp only [sub, Form.imp.injEq, vars, List.mem_append]
      cases e : differ a c with
      | same =>
        rw [e] at h
        obtain ⟨h1, h2, h3, h4⟩ := ihb h
        refine ⟨fun s q => h1 s q.2, h2, ?_, fun x hx => ?_⟩
        · rcases h3 with h3 | h3 <;> simp [h3]
        · rcases h4 x hx with h3 | h3 <;> simp [h3]
      | at_ u w =>
        rw [e] at h
        cases h
        obtain ⟨h1, h2, h3, h4⟩ := iha e
        refine ⟨fun s q => h1 s q.1, h2, ?_, fun x hx => ?_⟩
        · rcases h3 with h3 | h3 <;> simp [h3]
        · rcases h4 x hx with h3 | h3 <;> simp [h3]
      | clash => rw [e] at h; cases h
    | neg a => simp [differ] at h
  | neg a iha =>
    cases g with
    | var y =>
      simp only [differ, Differ.at_.injEq] at h
      obtain ⟨rfl, rfl⟩ := h
      exact ⟨fun s q => q.symm, fun q => (nomatch q), by simp [vars], fun x hx => .inl hx⟩
    | imp c d => simp [differ] at h
    | neg c =>
      simp only [differ] at h
      obtain ⟨h1, h2, h3, h4⟩ := iha h
      simp only [sub, Form.neg.injEq, vars]
      exact ⟨h1, h2, h3, h4⟩

/-! most general -/
structure Mgu (s : Nat → Form) (f g : Form) : Prop where
  eq : sub s f = sub s g
  most : ∀ t, sub t f = sub t g → ∀ v, t v = sub t (s v)

theorem nodup_eraseDups : ∀ (n : Nat) (l : List Nat), l.length ≤ n → l.eraseDups.Nodup
  | 0, [], _ => by simp
  | n + 1, [], _ => by simp
  | n + 1, a :: r, h => by
    rw [List.eraseDups_cons, List.nodup_cons]
    refine ⟨?_, nodup_eraseDups n _ ?_⟩
    · rw [List.mem_eraseDups, List.mem_filter]; simp
    · have := List.length_filter_le (fun b => !(b == a)) r
      simp only [List.length_cons] at h
      omega
/-- how many unknowns two have -/
def many (f g : Form) : Nat := (vars f ++ vars g).eraseDups.length
theorem vars_replace {v : Nat} {t f : Form} (ht : v ∉ vars t) {x : Nat} (h : x ∈ vars (replace v t f)) : x ≠ v ∧ (x ∈ vars t ∨ x ∈ vars f) := by
  induction f with
  | var y =>
    simp only [replace] at h
    split at h
    · exact ⟨fun e => ht (e ▸ h), .inl h⟩
    · rename_i ne
      simp only [vars, List.mem_singleton] at h
      subst h
      exact ⟨ne, .inr (by simp [vars])⟩
  | imp a b iha ihb =>
    simp only [replace, vars, List.mem_append] at h ⊢
    rcases h with h | h
    · have := iha h; grind
    · have := ihb h; grind
  | neg a iha =>
    simp only [replace, vars] at h ⊢
    exact iha h
theorem many_replace {f g t : Form} {v : Nat} (hv : v ∈ vars f ∨ v ∈ vars g) (ht : v ∉ vars t) (hs : ∀ x ∈ vars t, x ∈ vars f ∨ x ∈ vars g) :
    many (replace v t f) (replace v t g) < many f g := by
  unfold many
  have hm : v ∈ (vars f ++ vars g).eraseDups := by rw [List.mem_eraseDups, List.mem_append]; exact hv
  have nd := nodup_eraseDups _ (vars f ++ vars g) (Nat.le_refl _)
  have nd1 := nodup_eraseDups _ (vars (replace v t f) ++ vars (replace v t g)) (Nat.le_refl _)
  have le := nd1.length_le_of_subset (l₂ := (vars f ++ vars g).eraseDups.erase v) (fun x hx => by
    rw [List.mem_eraseDups, List.mem_append] at hx
    rw [nd.mem_erase_iff, List.mem_eraseDups, List.mem_append]
    rcases hx with hx | hx
    · obtain ⟨h1, h2⟩ := vars_replace ht hx
      exact ⟨h1, h2.elim (hs x) .inl⟩
    · obtain ⟨h1, h2⟩ := vars_replace ht hx
      exact ⟨h1, h2.elim (hs x) .inr⟩)
  rw [List.length_erase_of_mem hm] at le
  have := List.length_pos_of_mem hm
  omega

/-- what fitBy is worth -/
theorem fitBy_spec : ∀ (n : Nat) (f g h : Form), many f g < n → match fitBy n f g h with
    | .so r => ∃ s, Mgu s f g ∧ r = sub s h ∧ (size f ≤ FITS → size (sub s f) ≤ FITS)
    | .large => ∀ t, sub t f = sub t g → FITS < size (sub t f)
    | .no => ∀ t, sub t f ≠ sub t g
  | 0, f, g, h, q => absurd q (Nat.not_lt_zero _)
  | n + 1, f, g, h, q => by
    rw [fitBy]
    cases e : differ f g with
    | same =>
      obtain rfl := differ_same e
      exact ⟨Form.var, ⟨rfl, fun t _ v => rfl⟩, (sub_id h).symm, fun z => by rw [sub_id]; exact z⟩
    | clash => exact differ_clash e
    | at_ v t =>
      obtain ⟨h1, h2, h3, h4⟩ := differ_at e
      dsimp only
      by_cases c : (vars t).contains v = true
      · rw [if_pos c]
        have c' : v ∈ vars t := by simpa using c
        intro s z
        exact occurs c' h2 (h1 s z)
      · rw [if_neg c]
        have c' : v ∉ vars t := by simpa using c
        have key : ∀ (s : Nat → Form), s v = sub s t → ∀ x : Form, sub s (replace v t x) = sub s x := by
          intro s z x
          rw [replace_sub, sub_sub]
          refine sub_congr fun y _ => ?_
          by_cases c2 : y = v
          · subst c2; simp only [if_pos]; exact z.symm
          · simp only [if_neg c2]; rfl
        by_cases c3 : FITS < size (replace v t f)
        · rw [if_pos c3]
          intro s z
          have e1 := key s (h1 s z) f
          have e2 := size_le_sub s (replace v t f)
          rw [e1] at e2
          omega
        · rw [if_neg c3]
          have ih := fitBy_spec n (replace v t f) (replace v t g) (replace v t h) (by have := many_replace h3 c' h4; omega)
          revert ih
          cases fitBy n (replace v t f) (replace v t g) (replace v t h) with
          | so r =>
            rintro ⟨s, m, rfl, hz⟩
            refine ⟨fun x => sub s (if x = v then t else .var x), ⟨?_, fun u z x => ?_⟩, ?_, fun _ => ?_⟩
            · rw [← sub_sub, ← sub_sub, ← replace_sub, ← replace_sub]; exact m.eq
            · have hu := h1 u z
              have mu := m.most u (by rw [key u hu, key u hu]; exact z)
              rw [sub_sub]
              by_cases c2 : x = v
              · subst c2
                rw [if_pos rfl, hu]
                exact sub_congr fun y _ => mu y
              · rw [if_neg c2]; exact mu x
            · rw [replace_sub, sub_sub]
            · rw [← sub_sub, ← replace_sub]; exact hz (by omega)
          | large =>
            intro ih s z
            have := ih s (by rw [key s (h1 s z), key s (h1 s z)]; exact z)
            rw [key s (h1 s z)] at this
            exact this
          | no =>
            intro ih s z
            exact ih s (by rw [key s (h1 s z), key s (h1 s z)]; exact z)

/-- what fit is worth -/
theorem fit_some {f g h r : Form} (q : fit f g h = some r) (hz : size f ≤ FITS) : ∃ s, Mgu s f g ∧ r = sub s h ∧ size (sub s f) ≤ FITS := by
  have a := fitBy_spec (((vars f) ++ vars g).eraseDups.length + 1) f g h (Nat.lt_succ_self _)
  unfold fit at q
  revert a q
  cases fitBy (((vars f) ++ vars g).eraseDups.length + 1) f g h with
  | so r' =>
    intro q a
    obtain ⟨s, m, e, z⟩ := a
    cases q
    exact ⟨s, m, e, z hz⟩
  | large => intro q; cases q
  | no => intro q; cases q
theorem fit_none {f g h : Form} (q : fit f g h = none) : ∀ t, sub t f = sub t g → FITS < size (sub t f) := by
  have a := fitBy_spec (((vars f) ++ vars g).eraseDups.length + 1) f g h (Nat.lt_succ_self _)
  unfold fit at q
  revert a q
  cases fitBy (((vars f) ++ vars g).eraseDups.length + 1) f g h with
  | so r' => intro q; cases q
  | large => exact fun _ a => a
  | no => exact fun _ a t z => absurd z (a t)
end Shp
end
section
namespace Shp
open Vapcma

theorem vars_rename (r : Nat → Nat) (f : Form) : vars (rename r f) = (vars f).map r := by
  induction f with
  | var v => rfl
  | imp a b iha ihb => simp only [rename, vars, iha, ihb, List.map_append]
  | neg a iha => simp only [rename, vars, iha]
theorem rename_rename (r s : Nat → Nat) (f : Form) : rename s (rename r f) = rename (fun v => s (r v)) f := by
  induction f with
  | var v => rfl
  | imp a b iha ihb => simp only [rename, iha, ihb]
  | neg a iha => simp only [rename, iha]
theorem rename_congr {r s : Nat → Nat} {f : Form} (h : ∀ v ∈ vars f, r v = s v) : rename r f = rename s f := by
  rw [rename_sub, rename_sub]
  exact sub_congr fun v hv => by rw [h v hv]
theorem size_rename (r : Nat → Nat) (f : Form) : size (rename r f) = size f := by
  induction f with
  | var v => rfl
  | imp a b iha ihb => simp only [rename, size, iha, ihb]
  | neg a iha => simp only [rename, size, iha]
theorem map_eraseDups {r : Nat → Nat} : ∀ (n : Nat) (l : List Nat), l.length ≤ n → (∀ x ∈ l, ∀ y ∈ l, r x = r y → x = y) → (l.map r).eraseDups = l.eraseDups.map r
  | _, [], _, _ => by simp
  | n + 1, a :: l, h, inj => by
    rw [List.map_cons, List.eraseDups_cons, List.eraseDups_cons, List.map_cons, List.filter_map]
    have e : l.filter ((fun b => !b == r a) ∘ r) = l.filter (fun b => !b == a) := by
      refine List.filter_congr fun x hx => ?_
      simp only [Function.comp]
      have : (r x == r a) = (x == a) := by
        rw [Bool.eq_iff_iff, beq_iff_eq, beq_iff_eq]
        exact ⟨fun q => inj x (by simp [hx]) a (by simp) q, fun q => by rw [q]⟩
      rw [this]
    rw [e, map_eraseDups n]
    · have := List.length_filter_le (fun b => !b == a) l
      simp only [List.length_cons] at h
      omega
    · intro x hx y hy
      rw [List.mem_filter] at hx hy
      exact inj x (by simp [hx.1]) y (by simp [hy.1])
theorem findIdx_map {r : Nat → Nat} {v : Nat} : ∀ (l : List Nat), (∀ x ∈ l, r x = r v → x = v) → (l.map r).findIdx (fun x => x == r v) = l.findIdx (fun x => x == v)
  | [], _ => rfl
  | a :: l, inj => by
    rw [List.map_cons, List.findIdx_cons, List.findIdx_cons]
    have : (r a == r v) = (a == v) := by
      rw [Bool.eq_iff_iff, beq_iff_eq, beq_iff_eq]
      exact ⟨fun q => inj a (by simp) q, fun q => by rw [q]⟩
    rw [this, findIdx_map l fun x hx => inj x (by simp [hx])]
theorem normal_rename {r : Nat → Nat} {f : Form} (inj : ∀ x ∈ vars f, ∀ y ∈ vars f, r x = r y → x = y) : normal (rename r f) = normal f := by
  unfold normal
  dsimp only
  rw [rename_rename, vars_rename, map_eraseDups _ _ (Nat.le_refl _) inj]
  refine rename_congr fun v hv => ?_
  exact findIdx_map _ fun x hx => inj x (by rwa [List.mem_eraseDups] at hx) v hv
/-- two that are instances of one another are the same by numbers -/
theorem normal_both {f g : Form} {s t : Nat → Form} (h1 : sub s f = g) (h2 : sub t g = f) : normal f = normal g := by
  subst h1
  rw [sub_sub] at h2
  have e := sub_inj (h2.trans (sub_id f).symm)
  have hv : ∀ v ∈ vars f, ∃ u, s v = .var u ∧ t u = .var v := by
    intro v hv
    have q := e v hv
    cases c : s v with
    | var u => rw [c] at q; exact ⟨u, rfl, q⟩
    | imp a b => rw [c] at q; cases q
    | neg a => rw [c] at q; cases q
  let r : Nat → Nat := fun v => match s v with
    | .var u => u
    | _ => 0
  have hr : ∀ v ∈ vars f, s v = .var (r v) ∧ t (r v) = .var v := by
    intro v h
    obtain ⟨u, h1, h2⟩ := hv v h
    have : r v = u := by simp only [r, h1]
    rw [this]
    exact ⟨h1, h2⟩
  have : sub s f = rename r f := by
    rw [rename_sub]
    exact sub_congr fun v h => (hr v h).1
  rw [this]
  refine (normal_rename fun x hx y hy q => ?_).symm
  have := (hr x hx).2
  rw [q, (hr y hy).2] at this
  exact (Form.var.inj this).symm
theorem size_both {f g : Form} {s t : Nat → Form} (h1 : sub s f = g) (h2 : sub t g = f) : size f = size g := by
  have a := size_le_sub s f
  have b := size_le_sub t g
  rw [h1] at a
  rw [h2] at b
  omega

/-! the rule -/
theorem lt_fold : ∀ (l : List Nat) (m v : Nat), (v ∈ l ∨ v < m) → v < l.foldl (fun m v => Nat.max m (v + 1)) m
  | [], m, v, h => by simpa using h
  | a :: l, m, v, h => by
    rw [List.foldl_cons]
    refine lt_fold l _ v ?_
    have e : Nat.max m (a + 1) = max m (a + 1) := rfl
    rw [e]
    rcases h with h | h
    · simp only [List.mem_cons] at h
      rcases h with h | h
      · right; omega
      · exact .inl h
    · right; omega
theorem lt_top {f : Form} {v : Nat} (h : v ∈ vars f) : v < top f := lt_fold _ _ _ (.inl h)
/-- the two formulas' own unknowns side by side -/
def both (k : Nat) (A B : Nat → Form) : Nat → Form := fun x => if x < k then A x else B (x - k)
theorem both_low {k : Nat} {A B : Nat → Form} {f : Form} (h : ∀ v ∈ vars f, v < k) : sub (both k A B) f = sub A f :=
  sub_congr fun v hv => if_pos (h v hv)
theorem both_high {k : Nat} {A B : Nat → Form} {g : Form} : sub (both k A B) (rename (fun v => v + k) g) = sub B g := by
  rw [rename_sub, sub_sub]
  refine sub_congr fun v _ => ?_
  show (if v + k < k then A (v + k) else B (v + k - k)) = B v
  rw [if_neg (by omega), Nat.add_sub_cancel]
theorem detach_no {a b g : Form} (h : ∀ A B, sub A a = sub B g → FITS < size (sub A a)) (hz : size a ≤ FITS) : detach (.imp a b) g = none := by
  unfold detach
  dsimp only
  cases e : fit a (rename (fun v => v + top (.imp a b)) g) b with
  | none => rfl
  | some r =>
    exfalso
    obtain ⟨s, m, _, z⟩ := fit_some e hz
    have q := m.eq
    rw [rename_sub, sub_sub] at q
    have := h s _ q
    omega
theorem detach_is {a b g : Form} {A B : Nat → Form} (hz : size a ≤ FITS) (heq : sub A a = sub B g)
    (most : ∀ A' B', sub A' a = sub B' g → ∃ u, ∀ v, v ∈ vars a ∨ v ∈ vars b → A' v = sub u (A v)) :
    detach (.imp a b) g = if FITS < size (sub A a) ∨ SIZE < size (sub A b) then none else some (normal (sub A b)) := by
  have la : ∀ v ∈ vars a, v < top (.imp a b) := fun v hv => lt_top (by simp [vars, hv])
  have lb : ∀ v ∈ vars b, v < top (.imp a b) := fun v hv => lt_top (by simp [vars, hv])
  unfold detach
  dsimp only
  have un : sub (both (top (.imp a b)) A B) a = sub (both (top (.imp a b)) A B) (rename (fun v => v + top (.imp a b)) g) := by
    rw [both_low la, both_high]; exact heq
  cases e : fit a (rename (fun v => v + top (.imp a b)) g) b with
  | none =>
    have q := fit_none e _ un
    rw [both_low la] at q
    rw [if_pos (.inl q)]
    rfl
  | some r =>
    obtain ⟨s, m, rfl, z⟩ := fit_some e hz
    have q := m.eq
    rw [rename_sub, sub_sub] at q
    obtain ⟨u, hu⟩ := most s _ q
    have mo := m.most _ un
    have A1 : ∀ x : Form, (∀ v ∈ vars x, v < top (.imp a b)) → sub (both (top (.imp a b)) A B) (sub s x) = sub A x := by
      intro x hx
      rw [sub_sub]
      refine (sub_congr fun v hv => ?_).trans (both_low (B := B) hx)
      exact (mo v).symm
    have A2 : ∀ x : Form, (∀ v ∈ vars x, v ∈ vars a ∨ v ∈ vars b) → sub u (sub A x) = sub s x := by
      intro x hx
      rw [sub_sub]
      exact sub_congr fun v hv => (hu v (hx v hv)).symm
    have sa := size_both (A1 a la) (A2 a fun v hv => .inl hv)
    have sb := size_both (A1 b lb) (A2 b fun v hv => .inr hv)
    have nb := normal_both (A1 b lb) (A2 b fun v hv => .inr hv)
    show (if SIZE < size (sub s b) then none else some (normal (sub s b))) = _
    rw [sb, nb]
    by_cases c : SIZE < size (sub A b)
    · rw [if_pos c, if_pos (.inr c)]
    · rw [if_neg c, if_neg (by rintro (q | q); · omega
                               · exact c q)]
end Shp
end
section
namespace Shp
open Vapcma

/-! nodes: signs k, parts pt; parts come ahead -/
def WFn (k : Nat → Nat) (pt : Nat → List Nat) (n : Nat) : Prop :=
  ∀ i, i < n → (k i = 2 ∧ pt i = []) ∨ (k i = 0 ∧ ∃ a b, pt i = [a, b] ∧ a < i ∧ b < i) ∨ (k i = 1 ∧ ∃ a, pt i = [a] ∧ a < i)
def shape (k : Nat → Nat) (pt : Nat → List Nat) : Nat → Nat → Form
  | 0, i => .var i
  | m + 1, i => if k i = 0 then (match pt i with
      | [a, b] => .imp (shape k pt m a) (shape k pt m b)
      | _ => .var i) else if k i = 1 then (match pt i with
      | [a] => .neg (shape k pt m a)
      | _ => .var i) else .var i
/-- what a node is as a formula of nodes -/
def fo (k : Nat → Nat) (pt : Nat → List Nat) (i : Nat) : Form := shape k pt (i + 1) i
section
variable {k : Nat → Nat} {pt : Nat → List Nat} {n : Nat}
theorem shape_more (wf : WFn k pt n) : ∀ (m i : Nat), i < m → i < n → shape k pt m i = fo k pt i
  | 0, i, h, _ => absurd h (Nat.not_lt_zero _)
  | m + 1, i, h, hn => by
    unfold fo
    rcases wf i hn with ⟨h0, h1⟩ | ⟨h0, a, b, h1, ha, hb⟩ | ⟨h0, a, h1, ha⟩
    · simp only [shape, h0]; rfl
    · simp only [shape, h0, h1, if_pos]
      rw [shape_more wf m a (by omega) (by omega), shape_more wf m b (by omega) (by omega), shape_more wf i a ha (by omega), shape_more wf i b hb (by omega)]
    · have z : ¬ k i = 0 := by omega
      simp only [shape]
      rw [if_neg z, if_pos h0, h1, if_neg z, if_pos h0]
      show Form.neg (shape k pt m a) = Form.neg (shape k pt i a)
      rw [shape_more wf m a (by omega) (by omega), shape_more wf i a ha (by omega)]
theorem fo_var {i : Nat} (h : k i = 2) : fo k pt i = .var i := by
  unfold fo
  simp [shape, h]
theorem fo_imp (wf : WFn k pt n) {i a b : Nat} (hn : i < n) (h : k i = 0) (hp : pt i = [a, b]) : fo k pt i = .imp (fo k pt a) (fo k pt b) := by
  rcases wf i hn with ⟨h0, h1⟩ | ⟨h0, a', b', h1, ha, hb⟩ | ⟨h0, a', h1, ha⟩
  · omega
  · rw [hp] at h1
    cases h1
    show shape k pt (i + 1) i = _
    simp only [shape, h, hp, if_pos]
    rw [shape_more wf i a ha (by omega), shape_more wf i b hb (by omega)]
  · omega
theorem fo_neg (wf : WFn k pt n) {i a : Nat} (hn : i < n) (h : k i = 1) (hp : pt i = [a]) : fo k pt i = .neg (fo k pt a) := by
  rcases wf i hn with ⟨h0, h1⟩ | ⟨h0, a', b', h1, ha, hb⟩ | ⟨h0, a', h1, ha⟩
  · omega
  · omega
  · rw [hp] at h1
    cases h1
    have z : ¬ k i = 0 := by omega
    show shape k pt (i + 1) i = _
    simp only [shape]
    rw [if_neg z, if_pos h, hp]
    show Form.neg (shape k pt i a) = _
    rw [shape_more wf i a ha (by omega)]
/-- a way to read the nodes -/
structure Sol (k : Nat → Nat) (pt : Nat → List Nat) (n : Nat) (th : Nat → Form) : Prop where
  imp : ∀ {i a b}, i < n → k i = 0 → pt i = [a, b] → th i = .imp (th a) (th b)
  neg : ∀ {i a}, i < n → k i = 1 → pt i = [a] → th i = .neg (th a)
theorem sol_of (wf : WFn k pt n) (s : Nat → Form) : Sol k pt n (fun i => sub s (fo k pt i)) where
  imp hn h hp := by rw [fo_imp wf hn h hp]; rfl
  neg hn h hp := by rw [fo_neg wf hn h hp]; rfl
theorem sol_fo (wf : WFn k pt n) {th : Nat → Form} (S : Sol k pt n th) : ∀ (m i : Nat), i < m → i < n → th i = sub th (fo k pt i)
  | 0, i, h, _ => absurd h (Nat.not_lt_zero _)
  | m + 1, i, h, hn => by
    rcases wf i hn with ⟨h0, h1⟩ | ⟨h0, a, b, h1, ha, hb⟩ | ⟨h0, a, h1, ha⟩
    · rw [fo_var h0]; rfl
    · rw [fo_imp wf hn h0 h1, S.imp hn h0 h1]
      simp only [sub]
      rw [← sol_fo wf S m a (by omega) (by omega), ← sol_fo wf S m b (by omega) (by omega)]
    · rw [fo_neg wf hn h0 h1, S.neg hn h0 h1]
      simp only [sub]
      rw [← sol_fo wf S m a (by omega) (by omega)]

/-! who leads -/
inductive Lead (J : Nat → Nat) : Nat → Nat → Prop
  | here {i : Nat} (h : J i = i) : Lead J i i
  | step {i l : Nat} (h : J i ≠ i) (t : Lead J (J i) l) : Lead J i l
theorem Lead.fix {J : Nat → Nat} {i l : Nat} (h : Lead J i l) : J l = l := by induction h with
  | here h => exact h
  | step _ _ ih => exact ih
theorem Lead.same {J : Nat → Nat} {i l m : Nat} (h : Lead J i l) (h' : Lead J i m) : l = m := by
  induction h with
  | here h => cases h' with
    | here _ => rfl
    | step n _ => exact absurd h n
  | step n _ ih => cases h' with
    | here h => exact absurd h n
    | step _ t => exact ih t
theorem Lead.lt {J : Nat → Nat} {n i l : Nat} (b : ∀ i, i < n → J i < n) (h : Lead J i l) (hi : i < n) : l < n := by
  induction h with
  | here _ => exact hi
  | step _ _ ih => exact ih (b _ hi)
theorem Lead.val {J : Nat → Nat} {th : Nat → Form} {i l : Nat} (b : ∀ i, i < n → J i < n) (r : ∀ i, i < n → th i = th (J i)) (h : Lead J i l) (hi : i < n) : th i = th l := by
  induction h with
  | here _ => rfl
  | step _ _ ih => exact (r _ hi).trans (ih (b _ hi))
/-- one joined to another -/
def join (J : Nat → Nat) (a b : Nat) : Nat → Nat := fun i => if i = a then b else J i
theorem Lead.join {J : Nat → Nat} {a b i l : Nat} (ha : J a = a) (hb : J b = b) (ne : a ≠ b) (h : Lead J i l) : Lead (join J a b) i (if l = a then b else l) := by
  induction h with
  | @here i h =>
    by_cases c : i = a
    · subst c
      rw [if_pos rfl]
      refine .step (by simp only [Shp.join, if_pos]; exact fun z => ne z.symm) ?_
      simp only [Shp.join, if_pos]
      exact .here (by simp only [Shp.join]; rw [if_neg (fun z => ne z.symm)]; exact hb)
    · rw [if_neg c]
      exact .here (by simp only [Shp.join]; rw [if_neg c]; exact h)
  | @step i l n _ ih =>
    have c : i ≠ a := fun z => n (by rw [z]; exact ha)
    refine .step (by simp only [Shp.join]; rw [if_neg c]; exact n) ?_
    have e : Shp.join J a b i = J i := by simp only [Shp.join]; rw [if_neg c]
    rw [e]
    exact ih

/-! what is made the same -/
inductive Cl (J : Nat → Nat) (W : List (Nat × Nat)) : Nat → Nat → Prop
  | refl (i : Nat) : Cl J W i i
  | symm {i j : Nat} (h : Cl J W i j) : Cl J W j i
  | trans {i j l : Nat} (h : Cl J W i j) (h' : Cl J W j l) : Cl J W i l
  | j (i : Nat) : Cl J W i (J i)
  | w {p q : Nat} (h : (p, q) ∈ W) : Cl J W p q
theorem Cl.lead {J : Nat → Nat} {W : List (Nat × Nat)} {i l : Nat} (h : Lead J i l) : Cl J W i l := by
  induction h with
  | here _ => exact .refl _
  | step _ _ ih => exact .trans (.j _) ih
theorem Cl.mono {J J' : Nat → Nat} {W W' : List (Nat × Nat)} (hj : ∀ i, Cl J' W' i (J i)) (hw : ∀ p q, (p, q) ∈ W → Cl J' W' p q) {x y : Nat} (h : Cl J W x y) : Cl J' W' x y := by
  induction h with
  | refl i => exact .refl i
  | symm _ ih => exact .symm ih
  | trans _ _ ih ih' => exact .trans ih ih'
  | j i => exact hj i
  | w h => exact hw _ _ h
theorem Cl.to_lead {J : Nat → Nat} {x y l : Nat} (h : Cl J [] x y) : Lead J x l ↔ Lead J y l := by
  induction h generalizing l with
  | refl i => exact Iff.rfl
  | symm _ ih => exact ih.symm
  | trans _ _ ih ih' => exact ih.trans ih'
  | j i =>
    constructor
    · intro q
      cases q with
      | here h => rw [h]; exact .here h
      | step _ t => exact t
    · intro q
      by_cases c : J i = i
      · rw [c] at q; exact q
      · exact .step c q
  | w h => cases h

structure UInv (k : Nat → Nat) (pt : Nat → List Nat) (n r1 r2 : Nat) (J : Nat → Nat) (W : List (Nat × Nat)) : Prop where
  bj : ∀ i, i < n → J i < n
  bo : ∀ i, n ≤ i → J i = i
  bw : ∀ p q, (p, q) ∈ W → p < n ∧ q < n
  ld : ∀ i, ∃ l, Lead J i l
  cl : Cl J W r1 r2
  so : ∀ th, Sol k pt n th → th r1 = th r2 → (∀ i, i < n → th i = th (J i)) ∧ ∀ p q, (p, q) ∈ W → th p = th q
  cg : ∀ x, x < n → k x ≠ 2 → ∀ l, Lead J x l → k l = k x ∧ ∀ (i a b : Nat), (pt x)[i]? = some a → (pt l)[i]? = some b → Cl J W a b
theorem UInv.start {r1 r2 : Nat} (h1 : r1 < n) (h2 : r2 < n) : UInv k pt n r1 r2 (fun i => i) [(r1, r2)] where
  bj _ h := h
  bo _ _ := rfl
  bw p q h := by simp only [List.mem_singleton, Prod.mk.injEq] at h; rw [h.1, h.2]; exact ⟨h1, h2⟩
  ld i := ⟨i, .here rfl⟩
  cl := .w (by simp)
  so th _ h := ⟨fun _ _ => rfl, fun p q e => by simp only [List.mem_singleton, Prod.mk.injEq] at e; rw [e.1, e.2]; exact h⟩
  cg x _ _ l h := by
    obtain rfl : l = x := h.same (.here rfl) 
    refine ⟨rfl, fun i a b e1 e2 => ?_⟩
    rw [e1] at e2
    cases e2
    exact .refl _
variable {r1 r2 : Nat} {J : Nat → Nat} {W : List (Nat × Nat)} {p q a b : Nat}
theorem UInv.same (I : UInv k pt n r1 r2 J (W ++ [(p, q)])) (h1 : Lead J p a) (h2 : Lead J q a) : UInv k pt n r1 r2 J W := by
  have mo : ∀ {x y : Nat}, Cl J (W ++ [(p, q)]) x y → Cl J W x y := fun h => h.mono .j fun x y e => by
    rw [List.mem_append, List.mem_singleton] at e
    rcases e with e | e
    · exact .w e
    · cases e; exact .trans (.lead h1) (.symm (.lead h2))
  exact {
    bj := I.bj, bo := I.bo, ld := I.ld
    bw := fun x y h => I.bw x y (by rw [List.mem_append]; exact .inl h)
    cl := mo I.cl
    so := fun th S e => ⟨(I.so th S e).1, fun x y h => (I.so th S e).2 x y (by rw [List.mem_append]; exact .inl h)⟩
    cg := fun x hx hk l hl => ⟨(I.cg x hx hk l hl).1, fun i u v e1 e2 => mo ((I.cg x hx hk l hl).2 i u v e1 e2)⟩ }
/-- the pair's leaders are read alike -/
theorem UInv.val (I : UInv k pt n r1 r2 J (W ++ [(p, q)])) (h1 : Lead J p a) (h2 : Lead J q b) {th : Nat → Form} (S : Sol k pt n th) (e : th r1 = th r2) : th a = th b := by
  obtain ⟨x1, x2⟩ := I.so th S e
  have m : (p, q) ∈ W ++ [(p, q)] := by simp
  obtain ⟨b1, b2⟩ := I.bw p q m
  rw [← h1.val I.bj x1 b1, ← h2.val I.bj x1 b2]
  exact x2 p q m
/-- a joined to b, new pairs W' that follow from it -/
theorem UInv.joined (wf : WFn k pt n) (I : UInv k pt n r1 r2 J (W ++ [(p, q)])) (h1 : Lead J p a) (h2 : Lead J q b) (ne : a ≠ b) {W' : List (Nat × Nat)}
    (hb : ∀ x y, (x, y) ∈ W' → x < n ∧ y < n)
    (hs : ∀ th, Sol k pt n th → th a = th b → ∀ x y, (x, y) ∈ W' → th x = th y)
    (hc : k a ≠ 2 → k b = k a ∧ ∀ (i u v : Nat), (pt a)[i]? = some u → (pt b)[i]? = some v → (u, v) ∈ W') :
    UInv k pt n r1 r2 (join J a b) (W ++ W') := by
  have m : (p, q) ∈ W ++ [(p, q)] := by simp
  obtain ⟨b1, b2⟩ := I.bw p q m
  have fa := h1.fix
  have fb := h2.fix
  have la := h1.lt I.bj b1
  have lb := h2.lt I.bj b2
  have ab : Cl (join J a b) (W ++ W') a b := by
    have := Cl.j (J := join J a b) (W := W ++ W') a
    simp only [join, if_pos] at this
    exact this
  have jj : ∀ i, Cl (join J a b) (W ++ W') i (J i) := fun i => by
    by_cases c : i = a
    · subst c; rw [fa]; exact .refl _
    · have := Cl.j (J := join J a b) (W := W ++ W') i
      simp only [join, if_neg c] at this
      exact this
  have cj : ∀ {x l : Nat}, Lead J x l → Cl (join J a b) (W ++ W') x l := fun h => by
    induction h with
    | here _ => exact .refl _
    | step _ _ ih => exact .trans (jj _) ih
  have mo : ∀ {x y : Nat}, Cl J (W ++ [(p, q)]) x y → Cl (join J a b) (W ++ W') x y := fun h => h.mono jj fun x y e => by
    rw [List.mem_append, List.mem_singleton] at e
    rcases e with e | e
    · exact .w (by rw [List.mem_append]; exact .inl e)
    · cases e; exact .trans (cj h1) (.trans ab (.symm (cj h2)))
  exact {
    bj := fun i hi => by
      simp only [join]
      by_cases c : i = a
      · rw [if_pos c]; exact lb
      · rw [if_neg c]; exact I.bj i hi
    bo := fun i hi => by
      simp only [join]
      rw [if_neg (by omega)]
      exact I.bo i hi
    bw := fun x y h => by
      rw [List.mem_append] at h
      rcases h with h | h
      · exact I.bw x y (by rw [List.mem_append]; exact .inl h)
      · exact hb x y h
    ld := fun i => by
      obtain ⟨l, hl⟩ := I.ld i
      exact ⟨_, hl.join fa fb ne⟩
    cl := mo I.cl
    so := fun th S e => by
      obtain ⟨x1, x2⟩ := I.so th S e
      have v := I.val h1 h2 S e
      refine ⟨fun i hi => ?_, fun x y h => ?_⟩
      · simp only [join]
        by_cases c : i = a
        · rw [if_pos c, c]; exact v
        · rw [if_neg c]; exact x1 i hi
      · rw [List.mem_append] at h
        rcases h with h | h
        · exact x2 x y (by rw [List.mem_append]; exact .inl h)
        · exact hs th S v x y h
    cg := fun x hx hk l hl => by
      obtain ⟨l0, hl0⟩ := I.ld x
      have e := (hl0.join fa fb ne).same hl
      obtain ⟨c1, c2⟩ := I.cg x hx hk l0 hl0
      by_cases c : l0 = a
      · rw [if_pos c] at e
        subst e
        subst c
        obtain ⟨d1, d2⟩ := hc (by omega)
        refine ⟨by omega, fun i u v e1 e2 => ?_⟩
        cases e3 : (pt l0)[i]? with
        | none =>
          exfalso
          -- both have as many parts
          have e4 := List.getElem?_eq_none_iff.mp e3
          have e5 := (List.getElem?_eq_some_iff.mp e2).1
          rcases wf l0 la with ⟨g0, g1⟩ | ⟨g0, a', b', g1, _, _⟩ | ⟨g0, a', g1, _⟩ <;>
          rcases wf b lb with ⟨g2, g3⟩ | ⟨g2, a'', b'', g3, _, _⟩ | ⟨g2, a'', g3, _⟩ <;>
          (rw [g1] at e4; rw [g3] at e5; simp only [List.length_cons, List.length_nil] at e4 e5; omega)
        | some z => exact .trans (mo (c2 i u z e1 e3)) (.w (by rw [List.mem_append]; exact .inr (d2 i z v e3 e2)))
      · rw [if_neg c] at e
        subst e
        exact ⟨c1, fun i u v e1 e2 => mo (c2 i u v e1 e2)⟩ }
end
end Shp
end
section
namespace Shp
open Vapcma
section
variable {k : Nat → Nat} {pt : Nat → List Nat} {n r1 r2 : Nat} {J : Nat → Nat}
/-- what a node has become -/
inductive Tr (k : Nat → Nat) (pt : Nat → List Nat) (J : Nat → Nat) : Nat → Form → Prop
  | var {i l : Nat} (h : Lead J i l) (hk : k l = 2) : Tr k pt J i (.var l)
  | imp {i l a b : Nat} {f g : Form} (h : Lead J i l) (hk : k l = 0) (hp : pt l = [a, b]) (ta : Tr k pt J a f) (tb : Tr k pt J b g) : Tr k pt J i (.imp f g)
  | neg {i l a : Nat} {f : Form} (h : Lead J i l) (hk : k l = 1) (hp : pt l = [a]) (ta : Tr k pt J a f) : Tr k pt J i (.neg f)
theorem Tr.same {i : Nat} {f g : Form} (h : Tr k pt J i f) (h' : Tr k pt J i g) : f = g := by
  induction h generalizing g with
  | var h hk => cases h' with
    | var h2 hk2 => rw [h.same h2]
    | imp h2 hk2 _ _ _ => rw [h.same h2] at hk; omega
    | neg h2 hk2 _ _ => rw [h.same h2] at hk; omega
  | imp h hk hp _ _ iha ihb => cases h' with
    | var h2 hk2 => rw [h.same h2] at hk; omega
    | imp h2 hk2 hp2 ta tb =>
      rw [h.same h2, hp2] at hp
      cases hp
      rw [iha ta, ihb tb]
    | neg h2 hk2 _ _ => rw [h.same h2] at hk; omega
  | neg h hk hp _ iha => cases h' with
    | var h2 hk2 => rw [h.same h2] at hk; omega
    | imp h2 hk2 _ _ _ => rw [h.same h2] at hk; omega
    | neg h2 hk2 hp2 ta =>
      rw [h.same h2, hp2] at hp
      cases hp
      rw [iha ta]
/-- it hangs on the leader alone -/
theorem Tr.lead {i j l : Nat} {f : Form} (h : Tr k pt J i f) (hi : Lead J i l) (hj : Lead J j l) : Tr k pt J j f := by
  cases h with
  | var h hk => obtain rfl := h.same hi; exact .var hj hk
  | imp h hk hp ta tb => obtain rfl := h.same hi; exact .imp hj hk hp ta tb
  | neg h hk hp ta => obtain rfl := h.same hi; exact .neg hj hk hp ta
theorem Tr.val {th : Nat → Form} {i : Nat} {f : Form} (wf : WFn k pt n) (bj : ∀ i, i < n → J i < n) (S : Sol k pt n th) (r : ∀ i, i < n → th i = th (J i))
    (h : Tr k pt J i f) (hi : i < n) : th i = sub th f := by
  induction h with
  | var h hk => exact h.val bj r hi
  | @imp i l a b f g h hk hp _ _ iha ihb =>
    have ln := h.lt bj hi
    rw [h.val bj r hi, S.imp ln hk hp]
    rcases wf l ln with ⟨h0, h1⟩ | ⟨h0, a', b', h1, ha, hb⟩ | ⟨h0, a', h1, ha⟩
    · omega
    · rw [hp] at h1
      cases h1
      rw [iha (by omega), ihb (by omega)]
      rfl
    · omega
  | @neg i l a f h hk hp _ iha =>
    have ln := h.lt bj hi
    rw [h.val bj r hi, S.neg ln hk hp]
    rcases wf l ln with ⟨h0, h1⟩ | ⟨h0, a', b', h1, ha, hb⟩ | ⟨h0, a', h1, ha⟩
    · omega
    · omega
    · rw [hp] at h1
      cases h1
      rw [iha (by omega)]
      rfl
/-- read somehow, every node has become something -/
theorem Tr.of_sol {th : Nat → Form} (wf : WFn k pt n) (ld : ∀ i, ∃ l, Lead J i l) (bj : ∀ i, i < n → J i < n) (S : Sol k pt n th) (r : ∀ i, i < n → th i = th (J i)) :
    ∀ (m i : Nat), size (th i) < m → i < n → ∃ f, Tr k pt J i f
  | 0, i, h, _ => absurd h (Nat.not_lt_zero _)
  | m + 1, i, h, hi => by
    obtain ⟨l, hl⟩ := ld i
    have ln := hl.lt bj hi
    have e := hl.val bj r hi
    rcases wf l ln with ⟨h0, h1⟩ | ⟨h0, a, b, h1, ha, hb⟩ | ⟨h0, a, h1, ha⟩
    · exact ⟨_, .var hl h0⟩
    · rw [e, S.imp ln h0 h1] at h
      simp only [size] at h
      obtain ⟨f, hf⟩ := Tr.of_sol wf ld bj S r m a (by omega) (by omega)
      obtain ⟨g, hg⟩ := Tr.of_sol wf ld bj S r m b (by omega) (by omega)
      exact ⟨_, .imp hl h0 h1 hf hg⟩
    · rw [e, S.neg ln h0 h1] at h
      simp only [size] at h
      obtain ⟨f, hf⟩ := Tr.of_sol wf ld bj S r m a (by omega) (by omega)
      exact ⟨_, .neg hl h0 h1 hf⟩
/-- the parts of what has become something -/
theorem Tr.parts (wf : WFn k pt n) (I : UInv k pt n r1 r2 J []) {x : Nat} {f : Form} (h : Tr k pt J x f) (hx : x < n) :
    (∀ a b, k x = 0 → pt x = [a, b] → ∃ fa fb, f = .imp fa fb ∧ Tr k pt J a fa ∧ Tr k pt J b fb) ∧ (∀ a, k x = 1 → pt x = [a] → ∃ fa, f = .neg fa ∧ Tr k pt J a fa) := by
  have go : ∀ {u v : Nat} {e : Form}, Cl J [] u v → Tr k pt J v e → Tr k pt J u e := fun c t => by
    rename_i u v e
    obtain ⟨l, hl⟩ := I.ld v
    exact t.lead hl (c.to_lead.mpr hl)
  constructor
  · intro a b h0 h1
    cases h with
    | @var i l h hk => have := (I.cg x hx (by omega) l h).1; omega
    | @imp i l a' b' fa fb h hk hp ta tb =>
      have c := (I.cg x hx (by omega) l h).2
      refine ⟨fa, fb, rfl, go (c 0 a a' (by rw [h1]; rfl) (by rw [hp]; rfl)) ta, go (c 1 b b' (by rw [h1]; rfl) (by rw [hp]; rfl)) tb⟩
    | @neg i l a' fa h hk hp ta => have := (I.cg x hx (by omega) l h).1; omega
  · intro a h0 h1
    cases h with
    | @var i l h hk => have := (I.cg x hx (by omega) l h).1; omega
    | @imp i l a' b' fa fb h hk hp ta tb => have := (I.cg x hx (by omega) l h).1; omega
    | @neg i l a' fa h hk hp ta =>
      have c := (I.cg x hx (by omega) l h).2
      exact ⟨fa, rfl, go (c 0 a a' (by rw [h1]; rfl) (by rw [hp]; rfl)) ta⟩
open Classical in
/-- what a node has become, if anything -/
noncomputable def become (k : Nat → Nat) (pt : Nat → List Nat) (J : Nat → Nat) (i : Nat) : Form := if h : ∃ f, Tr k pt J i f then h.choose else .var i
theorem become_is {i : Nat} {f : Form} (h : Tr k pt J i f) : become k pt J i = f := by
  unfold become
  have e : ∃ f, Tr k pt J i f := ⟨f, h⟩
  rw [dif_pos e]
  exact e.choose_spec.same h
/-- what has become something is what its formula of nodes says -/
theorem Tr.fo (wf : WFn k pt n) (I : UInv k pt n r1 r2 J []) : ∀ (m x : Nat) (f : Form), x < m → x < n → Tr k pt J x f → f = sub (become k pt J) (fo k pt x)
  | 0, x, f, h, _, _ => absurd h (Nat.not_lt_zero _)
  | m + 1, x, f, h, hx, t => by
    rcases wf x hx with ⟨h0, h1⟩ | ⟨h0, a, b, h1, ha, hb⟩ | ⟨h0, a, h1, ha⟩
    · rw [fo_var h0]
      exact (become_is t).symm
    · obtain ⟨fa, fb, rfl, ta, tb⟩ := (t.parts wf I hx).1 a b h0 h1
      rw [fo_imp wf hx h0 h1, Tr.fo wf I m a fa (by omega) (by omega) ta, Tr.fo wf I m b fb (by omega) (by omega) tb]
      rfl
    · obtain ⟨fa, rfl, ta⟩ := (t.parts wf I hx).2 a h0 h1
      rw [fo_neg wf hx h0 h1, Tr.fo wf I m a fa (by omega) (by omega) ta]
      rfl
/-- both are made the same: at the end what one has become the other has -/
theorem UInv.roots (I : UInv k pt n r1 r2 J []) {f : Form} (t : Tr k pt J r1 f) : Tr k pt J r2 f := by
  obtain ⟨l, hl⟩ := I.ld r1
  exact t.lead hl (I.cl.to_lead.mp hl)
/-- **the end, where the first one has become something**: everything has, it is a way to read the nodes, and all others are instances -/
theorem UInv.yes (wf : WFn k pt n) (I : UInv k pt n r1 r2 J []) (b1 : r1 < n) (b2 : r2 < n) {f : Form} (t : Tr k pt J r1 f) :
    (∀ i, i < n → Tr k pt J i (become k pt J i)) ∧ (∀ i, i < n → become k pt J i = sub (become k pt J) (fo k pt i)) ∧ become k pt J r1 = become k pt J r2 ∧
    ∀ th, Sol k pt n th → th r1 = th r2 → ∀ i, i < n → th i = sub th (become k pt J i) := by
  have S := sol_of (k := k) (pt := pt) wf (become k pt J)
  have e : (fun i => sub (become k pt J) (Shp.fo k pt i)) r1 = (fun i => sub (become k pt J) (Shp.fo k pt i)) r2 :=
    (t.fo wf I (r1 + 1) r1 f (Nat.lt_succ_self _) b1).symm.trans ((I.roots t).fo wf I (r2 + 1) r2 f (Nat.lt_succ_self _) b2)
  obtain ⟨r, _⟩ := I.so _ S e
  have all : ∀ i, i < n → Tr k pt J i (become k pt J i) := fun i hi => by
    obtain ⟨g, hg⟩ := Tr.of_sol wf I.ld I.bj S r _ i (Nat.lt_succ_self _) hi
    rw [become_is hg]
    exact hg
  refine ⟨all, fun i hi => (all i hi).fo wf I (i + 1) i _ (Nat.lt_succ_self _) hi, ?_, fun th S' e' i hi => ?_⟩
  · rw [become_is t, become_is (I.roots t)]
  · exact (all i hi).val wf I.bj S' (I.so th S' e').1 hi
/-- **the end, where it has become nothing**: there is no way to read the nodes with both alike -/
theorem UInv.no (wf : WFn k pt n) (I : UInv k pt n r1 r2 J []) (b1 : r1 < n) (t : ∀ f, ¬ Tr k pt J r1 f) (th : Nat → Form) (S : Sol k pt n th) : th r1 ≠ th r2 := fun e => by
  obtain ⟨f, hf⟩ := Tr.of_sol wf I.ld I.bj S (I.so th S e).1 _ r1 (Nat.lt_succ_self _) b1
  exact t f hf

/-- a formula's unknowns put to nodes, each its own -/
structure Laid (k : Nat → Nat) (pt : Nat → List Nat) (r : Nat) (f : Form) (ro : Nat → Nat) : Prop where
  fo : Shp.fo k pt r = rename ro f
  inj : ∀ x ∈ vars f, ∀ y ∈ vars f, ro x = ro y → x = y
end
end Shp
end
section
namespace Shp
open Vapcma
section
variable {k : Nat → Nat} {pt : Nat → List Nat} {n ra rb r2 : Nat} {J : Nat → Nat} {a b g : Form} {ro rp : Nat → Nat}
/-- the implication's two parts and the other formula as nodes, each formula's unknowns their own -/
structure Apart (k : Nat → Nat) (pt : Nat → List Nat) (n ra rb r2 : Nat) (a b g : Form) (ro rp : Nat → Nat) : Prop where
  wf : WFn k pt n
  la : ra < n
  lb : rb < n
  l2 : r2 < n
  fa : fo k pt ra = rename ro a
  fb : fo k pt rb = rename ro b
  f2 : fo k pt r2 = rename rp g
  io : ∀ x y, (x ∈ vars a ∨ x ∈ vars b) → (y ∈ vars a ∨ y ∈ vars b) → ro x = ro y → x = y
  ip : ∀ x y, x ∈ vars g → y ∈ vars g → rp x = rp y → x = y
  ne : ∀ x y, (x ∈ vars a ∨ x ∈ vars b) → y ∈ vars g → ro x ≠ rp y
open Classical in
/-- formulas put for the unknowns of both, as formulas put for nodes -/
noncomputable def nodeSub (a b g : Form) (ro rp : Nat → Nat) (A B : Nat → Form) : Nat → Form := fun i =>
  if h : ∃ x, (x ∈ vars a ∨ x ∈ vars b) ∧ ro x = i then A h.choose else if h : ∃ y, y ∈ vars g ∧ rp y = i then B h.choose else .var i
theorem nodeSub_o (Z : Apart k pt n ra rb r2 a b g ro rp) (A B : Nat → Form) {x : Nat} (h : x ∈ vars a ∨ x ∈ vars b) : nodeSub a b g ro rp A B (ro x) = A x := by
  unfold nodeSub
  have e : ∃ y, (y ∈ vars a ∨ y ∈ vars b) ∧ ro y = ro x := ⟨x, h, rfl⟩
  rw [dif_pos e, Z.io _ _ e.choose_spec.1 h e.choose_spec.2]
theorem nodeSub_p (Z : Apart k pt n ra rb r2 a b g ro rp) (A B : Nat → Form) {y : Nat} (h : y ∈ vars g) : nodeSub a b g ro rp A B (rp y) = B y := by
  unfold nodeSub
  have e0 : ¬ ∃ x, (x ∈ vars a ∨ x ∈ vars b) ∧ ro x = rp y := fun ⟨x, h1, h2⟩ => Z.ne x y h1 h h2
  have e : ∃ z, z ∈ vars g ∧ rp z = rp y := ⟨y, h, rfl⟩
  rw [dif_neg e0, dif_pos e, Z.ip _ _ e.choose_spec.1 h e.choose_spec.2]
theorem sub_rename {r : Nat → Nat} {s A : Nat → Form} {f : Form} (h : ∀ v ∈ vars f, s (r v) = A v) : sub s (rename r f) = sub A f := by
  rw [rename_sub, sub_sub]
  exact sub_congr h
/-- a way to put formulas so that both are alike reads the nodes -/
theorem Apart.sol (Z : Apart k pt n ra rb r2 a b g ro rp) {A B : Nat → Form} (e : sub A a = sub B g) :
    ∃ th, Sol k pt n th ∧ th ra = th r2 ∧ (∀ x, (x ∈ vars a ∨ x ∈ vars b) → ∀ i, fo k pt i = .var (ro x) → th i = A x) ∧ th ra = sub A a := by
  refine ⟨fun i => sub (nodeSub a b g ro rp A B) (fo k pt i), sol_of Z.wf _, ?_, ?_, ?_⟩
  · show sub _ _ = sub _ _
    rw [Z.fa, Z.f2, sub_rename (A := A) fun v hv => nodeSub_o Z A B (.inl hv), sub_rename (A := B) fun v hv => nodeSub_p Z A B hv]
    exact e
  · intro x hx i hi
    show sub _ _ = _
    rw [hi]
    exact nodeSub_o Z A B hx
  · show sub _ _ = _
    rw [Z.fa]
    exact sub_rename fun v hv => nodeSub_o Z A B (.inl hv)
theorem Apart.clash (Z : Apart k pt n ra rb r2 a b g ro rp) (hz : size a ≤ FITS) (h : ∀ th, Sol k pt n th → th ra ≠ th r2) : detach (.imp a b) g = none :=
  detach_no (fun A B e => by
    obtain ⟨th, S, e1, _, _⟩ := Z.sol e
    exact absurd e1 (h th S)) hz
theorem Apart.no (Z : Apart k pt n ra rb r2 a b g ro rp) (hz : size a ≤ FITS) (I : UInv k pt n ra r2 J []) (t : ∀ f, ¬ Tr k pt J ra f) : detach (.imp a b) g = none :=
  Z.clash hz fun th S => I.no Z.wf Z.la t th S
/-- an unknown's node below a node -/
theorem fo_mem (wf : WFn k pt n) : ∀ (m i v : Nat), i < m → i < n → v ∈ vars (fo k pt i) → v < n ∧ fo k pt v = .var v
  | 0, i, v, h, _, _ => absurd h (Nat.not_lt_zero _)
  | m + 1, i, v, h, hi, hv => by
    rcases wf i hi with ⟨h0, h1⟩ | ⟨h0, a, b, h1, ha, hb⟩ | ⟨h0, a, h1, ha⟩
    · rw [fo_var h0] at hv
      simp only [vars, List.mem_singleton] at hv
      subst hv
      exact ⟨hi, fo_var h0⟩
    · rw [fo_imp wf hi h0 h1] at hv
      simp only [vars, List.mem_append] at hv
      rcases hv with hv | hv
      · exact fo_mem wf m a v (by omega) (by omega) hv
      · exact fo_mem wf m b v (by omega) (by omega) hv
    · rw [fo_neg wf hi h0 h1] at hv
      simp only [vars] at hv
      exact fo_mem wf m a v (by omega) (by omega) hv
theorem Apart.yes (Z : Apart k pt n ra rb r2 a b g ro rp) (hz : size a ≤ FITS) (I : UInv k pt n ra r2 J []) {f h : Form} (t : Tr k pt J ra f) (tb : Tr k pt J rb h) :
    detach (.imp a b) g = if FITS < size f ∨ SIZE < size h then none else some (normal h) := by
  obtain ⟨all, eqs, er, most⟩ := I.yes Z.wf Z.la Z.l2 t
  have ea : sub (fun v => become k pt J (ro v)) a = f := by
    have := eqs ra Z.la
    rw [become_is t, Z.fa, rename_sub, sub_sub] at this
    exact this.symm
  have eb : sub (fun v => become k pt J (ro v)) b = h := by
    have := eqs rb Z.lb
    rw [become_is tb, Z.fb, rename_sub, sub_sub] at this
    exact this.symm
  have e2 : sub (fun v => become k pt J (rp v)) g = f := by
    have := eqs r2 Z.l2
    rw [← er, become_is t, Z.f2, rename_sub, sub_sub] at this
    exact this.symm
  have := detach_is (a := a) (b := b) (g := g) (A := fun v => become k pt J (ro v)) (B := fun v => become k pt J (rp v)) hz (ea.trans e2.symm) fun A' B' e' => by
    obtain ⟨th, S, e1, hv, _⟩ := Z.sol e'
    refine ⟨th, fun v h => ?_⟩
    have mem : ro v < n ∧ fo k pt (ro v) = .var (ro v) := by
      rcases h with h | h
      · exact fo_mem Z.wf _ ra (ro v) (Nat.lt_succ_self _) Z.la (by rw [Z.fa, vars_rename]; exact List.mem_map_of_mem h)
      · exact fo_mem Z.wf _ rb (ro v) (Nat.lt_succ_self _) Z.lb (by rw [Z.fb, vars_rename]; exact List.mem_map_of_mem h)
    rw [← most th S e1 (ro v) mem.1]
    exact (hv v h _ mem.2).symm
  rw [this, ea, eb]
/-- where the first part has become something, all has -/
theorem Apart.rest (Z : Apart k pt n ra rb r2 a b g ro rp) (I : UInv k pt n ra r2 J []) {f : Form} (t : Tr k pt J ra f) : ∃ h, Tr k pt J rb h :=
  ⟨_, (I.yes Z.wf Z.la Z.l2 t).1 rb Z.lb⟩
end
end Shp
end
section
namespace Shp
open Vapcma
/-- the nodes: signs, parts, to which each was joined -/
structure Nd where
  s : List Nat
  p : List (List Nat)
  j : List Nat
def Nd.k (nd : Nd) (i : Nat) : Nat := nd.s.getD i 0
def Nd.pt (nd : Nd) (i : Nat) : List Nat := nd.p.getD i []
def Nd.J (nd : Nd) (i : Nat) : Nat := nd.j.getD i i
def Nd.n (nd : Nd) : Nat := nd.s.length
structure Nd.Ok (nd : Nd) : Prop where
  lp : nd.p.length = nd.n
  lj : nd.j.length = nd.n
  wf : WFn nd.k nd.pt nd.n
def Nd.empty : Nd := ⟨[], [], []⟩
def Nd.add (nd : Nd) (k : Nat) (l : List Nat) : Nd := ⟨nd.s ++ [k], nd.p ++ [l], nd.j ++ [nd.j.length]⟩
theorem Nd.ok_empty : Nd.empty.Ok := ⟨rfl, rfl, fun i h => absurd h (Nat.not_lt_zero _)⟩
/-- the same nodes, and some behind them -/
structure Nd.Ext (nd nd' : Nd) : Prop where
  le : nd.n ≤ nd'.n
  k : ∀ i, i < nd.n → nd'.k i = nd.k i
  pt : ∀ i, i < nd.n → nd'.pt i = nd.pt i
  j : ∀ i, i < nd.n → nd'.J i = nd.J i
theorem Nd.Ext.refl (nd : Nd) : nd.Ext nd := ⟨Nat.le_refl _, fun _ _ => rfl, fun _ _ => rfl, fun _ _ => rfl⟩
theorem Nd.Ext.trans {a b c : Nd} (x : a.Ext b) (y : b.Ext c) : a.Ext c :=
  ⟨Nat.le_trans x.le y.le, fun i h => (y.k i (Nat.lt_of_lt_of_le h x.le)).trans (x.k i h), fun i h => (y.pt i (Nat.lt_of_lt_of_le h x.le)).trans (x.pt i h), fun i h => (y.j i (Nat.lt_of_lt_of_le h x.le)).trans (x.j i h)⟩
theorem getD_app_lt {α : Type} {l r : List α} {i : Nat} {d : α} (h : i < l.length) : (l ++ r).getD i d = l.getD i d := by
  simp [List.getD_eq_getElem?_getD, List.getElem?_append_left h]
theorem getD_app_eq {α : Type} {l : List α} {x d : α} {i : Nat} (h : i = l.length) : (l ++ [x]).getD i d = x := by
  subst h; simp [List.getD_eq_getElem?_getD]
theorem Nd.Ok.ext_add {nd : Nd} (o : nd.Ok) (k : Nat) (l : List Nat) : nd.Ext (nd.add k l) where
  le := by simp [Nd.add, Nd.n]
  k i h := getD_app_lt h
  pt i h := getD_app_lt (by rw [o.lp]; exact h)
  j i h := getD_app_lt (by rw [o.lj]; exact h)
theorem Nd.add_n (nd : Nd) (k : Nat) (l : List Nat) : (nd.add k l).n = nd.n + 1 := by simp [Nd.add, Nd.n]
theorem Nd.add_k (nd : Nd) (k : Nat) (l : List Nat) : (nd.add k l).k nd.n = k := getD_app_eq rfl
theorem Nd.Ok.add_pt {nd : Nd} (o : nd.Ok) (k : Nat) (l : List Nat) : (nd.add k l).pt nd.n = l := getD_app_eq o.lp.symm
theorem Nd.Ok.add_J {nd : Nd} (o : nd.Ok) (k : Nat) (l : List Nat) : (nd.add k l).J nd.n = nd.n := by
  have : (nd.add k l).J nd.n = nd.j.length := getD_app_eq o.lj.symm
  rw [this, o.lj]
theorem Nd.Ok.add {nd : Nd} (o : nd.Ok) {k : Nat} {l : List Nat} (h : (k = 2 ∧ l = []) ∨ (k = 0 ∧ ∃ a b, l = [a, b] ∧ a < nd.n ∧ b < nd.n) ∨ (k = 1 ∧ ∃ a, l = [a] ∧ a < nd.n)) : (nd.add k l).Ok where
  lp := by simp [Nd.add, Nd.n]; exact o.lp
  lj := by simp [Nd.add, Nd.n]; exact o.lj
  wf i hi := by
    rw [Nd.add_n] at hi
    by_cases c : i < nd.n
    · rw [(o.ext_add k l).k i c, (o.ext_add k l).pt i c]
      exact o.wf i c
    · obtain rfl : i = nd.n := by omega
      rw [Nd.add_k, o.add_pt]
      exact h
/-- a node is the same formula with more nodes behind -/
theorem fo_ext {nd nd' : Nd} (o : nd.Ok) (o' : nd'.Ok) (e : nd.Ext nd') : ∀ (m i : Nat), i < m → i < nd.n → fo nd'.k nd'.pt i = fo nd.k nd.pt i
  | 0, i, h, _ => absurd h (Nat.not_lt_zero _)
  | m + 1, i, h, hi => by
    have hi' : i < nd'.n := Nat.lt_of_lt_of_le hi e.le
    rcases o.wf i hi with ⟨h0, h1⟩ | ⟨h0, a, b, h1, ha, hb⟩ | ⟨h0, a, h1, ha⟩
    · rw [fo_var h0, fo_var ((e.k i hi).trans h0)]
    · rw [fo_imp o.wf hi h0 h1, fo_imp o'.wf hi' ((e.k i hi).trans h0) ((e.pt i hi).trans h1), fo_ext o o' e m a (by omega) (by omega), fo_ext o o' e m b (by omega) (by omega)]
    · rw [fo_neg o.wf hi h0 h1, fo_neg o'.wf hi' ((e.k i hi).trans h0) ((e.pt i hi).trans h1), fo_ext o o' e m a (by omega) (by omega)]
/-- a formula's nodes put behind those that are there, its unknowns kept beside -/
def addF : Form → Nd × List (Nat × Nat) → (Nd × List (Nat × Nat)) × Nat
  | .var v, st => match st.2.lookup v with
    | some i => (st, i)
    | none => ((st.1.add 2 [], st.2 ++ [(v, st.1.n)]), st.1.n)
  | .imp a b, st => let x := addF b st; let y := addF a x.1; ((y.1.1.add 0 [y.2, x.2], y.1.2), y.1.1.n)
  | .neg a, st => let x := addF a st; ((x.1.1.add 1 [x.2], x.1.2), x.1.1.n)
structure USt (n0 : Nat) (st : Nd × List (Nat × Nat)) : Prop where
  ok : st.1.Ok
  fr : ∀ i, st.1.J i = i
  ge : n0 ≤ st.1.n
  un : ∀ x ∈ st.2, n0 ≤ x.2 ∧ x.2 < st.1.n ∧ st.1.k x.2 = 2
  ik : (st.2.map Prod.fst).Nodup
  iv : (st.2.map Prod.snd).Nodup
def look (un : List (Nat × Nat)) (v : Nat) : Nat := (un.lookup v).getD 0
theorem lookup_mem : ∀ {un : List (Nat × Nat)} {v i : Nat}, un.lookup v = some i → (v, i) ∈ un
  | (a, b) :: un, v, i, h => by
    rw [List.lookup_cons] at h
    by_cases c : v = a
    · subst c; simp at h; subst h; simp
    · have : (v == a) = false := by simpa using c
      rw [this] at h
      exact List.mem_cons_of_mem _ (lookup_mem h)
theorem lookup_none {un : List (Nat × Nat)} {v : Nat} (h : un.lookup v = none) : v ∉ un.map Prod.fst := by
  intro m
  obtain ⟨x, hx, rfl⟩ := List.mem_map.mp m
  have := List.lookup_eq_none_iff.mp h x hx
  simp at this
theorem lookup_app {un ex : List (Nat × Nat)} {v i : Nat} (h : un.lookup v = some i) : (un ++ ex).lookup v = some i := by
  rw [List.lookup_append, h]; rfl
theorem USt.add {n0 : Nat} {st : Nd × List (Nat × Nat)} (u : USt n0 st) {k : Nat} {l : List Nat} (h : (k = 2 ∧ l = []) ∨ (k = 0 ∧ ∃ a b, l = [a, b] ∧ a < st.1.n ∧ b < st.1.n) ∨ (k = 1 ∧ ∃ a, l = [a] ∧ a < st.1.n)) :
    USt n0 (st.1.add k l, st.2) where
  ok := u.ok.add h
  fr i := by
    by_cases c : i < st.1.n
    · exact ((u.ok.ext_add k l).j i c).trans (u.fr i)
    · by_cases c2 : i = st.1.n
      · subst c2; exact u.ok.add_J k l
      · have : (st.1.add k l).j.length = st.1.n + 1 := by simp [Nd.add]; exact u.ok.lj
        show (st.1.add k l).j.getD i i = i
        rw [List.getD_eq_getElem?_getD, List.getElem?_eq_none (by omega)]; rfl
  ge := by have := u.ge; show n0 ≤ (st.1.add k l).n; rw [Nd.add_n]; omega
  un x hx := by
    obtain ⟨h1, h2, h3⟩ := u.un x hx
    refine ⟨h1, ?_, ((u.ok.ext_add k l).k _ h2).trans h3⟩
    show _ < (st.1.add k l).n
    rw [Nd.add_n]; omega
  ik := u.ik
  iv := u.iv
theorem addF_ok {n0 : Nat} : ∀ (f : Form) (st : Nd × List (Nat × Nat)), USt n0 st →
    USt n0 (addF f st).1 ∧ st.1.Ext (addF f st).1.1 ∧ (∃ ex, (addF f st).1.2 = st.2 ++ ex) ∧ (addF f st).2 < (addF f st).1.1.n ∧
    (∀ v ∈ vars f, ∃ i, (addF f st).1.2.lookup v = some i) ∧ fo (addF f st).1.1.k (addF f st).1.1.pt (addF f st).2 = rename (look (addF f st).1.2) f ∧ (addF f st).1.1.n ≤ st.1.n + size f := by
  intro f
  induction f with
  | var v =>
    intro st u
    cases e : st.2.lookup v with
    | some i =>
      have q : addF (.var v) st = (st, i) := by simp only [addF, e]
      rw [q]
      obtain ⟨h1, h2, h3⟩ := u.un _ (lookup_mem e)
      refine ⟨u, .refl _, ⟨[], by simp⟩, h2, fun x hx => ?_, ?_, by simp⟩
      · simp [vars] at hx; subst hx; exact ⟨i, e⟩
      · show fo st.1.k st.1.pt i = .var (look st.2 v)
        rw [fo_var h3, look, e]; rfl
    | none =>
      have q : addF (.var v) st = ((st.1.add 2 [], st.2 ++ [(v, st.1.n)]), st.1.n) := by simp only [addF, e]
      rw [q]
      have ua := u.add (k := 2) (l := []) (.inl ⟨rfl, rfl⟩)
      have lk : (st.2 ++ [(v, st.1.n)]).lookup v = some st.1.n := by rw [List.lookup_append, e]; simp
      refine ⟨⟨ua.ok, ua.fr, ua.ge, fun x hx => ?_, ?_, ?_⟩, u.ok.ext_add _ _, ⟨_, rfl⟩, ?_, fun x hx => ?_, ?_, ?_⟩
      · rcases List.mem_append.mp hx with hx | hx
        · exact ua.un x hx
        · simp at hx; subst hx
          exact ⟨u.ge, by show st.1.n < (st.1.add 2 []).n; rw [Nd.add_n]; omega, Nd.add_k _ _ _⟩
      · show ((st.2 ++ [(v, st.1.n)]).map Prod.fst).Nodup
        rw [List.map_append, List.nodup_append]
        refine ⟨u.ik, by simp, fun a ha b hb => ?_⟩
        simp at hb; subst hb
        rintro rfl
        exact lookup_none e ha
      · show ((st.2 ++ [(v, st.1.n)]).map Prod.snd).Nodup
        rw [List.map_append, List.nodup_append]
        refine ⟨u.iv, by simp, fun a ha b hb => ?_⟩
        simp at hb; subst hb
        rintro rfl
        obtain ⟨x, hx, hx2⟩ := List.mem_map.mp ha
        have := (u.un x hx).2.1
        omega
      · show st.1.n < (st.1.add 2 []).n; rw [Nd.add_n]; omega
      · simp [vars] at hx; subst hx; exact ⟨_, lk⟩
      · show fo (st.1.add 2 []).k (st.1.add 2 []).pt st.1.n = .var (look (st.2 ++ [(v, st.1.n)]) v)
        rw [fo_var (Nd.add_k _ _ _), look, lk]; rfl
      · show (st.1.add 2 []).n ≤ _; rw [Nd.add_n]; simp [size]
  | imp a b iha ihb =>
    intro st u
    obtain ⟨b1, b2, ⟨eb, b3⟩, b4, b5, b6, b7⟩ := ihb st u
    obtain ⟨a1, a2, ⟨ea, a3⟩, a4, a5, a6, a7⟩ := iha (addF b st).1 b1
    generalize hx : addF b st = x at *
    generalize hy : addF a x.1 = y at *
    have q : addF (.imp a b) st = ((y.1.1.add 0 [y.2, x.2], y.1.2), y.1.1.n) := by simp only [addF, hx, hy]
    rw [q]
    have hb' : x.2 < y.1.1.n := Nat.lt_of_lt_of_le b4 a2.le
    have hw : (0 = 2 ∧ [y.2, x.2] = []) ∨ (0 = 0 ∧ ∃ a b, [y.2, x.2] = [a, b] ∧ a < y.1.1.n ∧ b < y.1.1.n) ∨ (0 = 1 ∧ ∃ a, [y.2, x.2] = [a] ∧ a < y.1.1.n) := .inr (.inl ⟨rfl, _, _, rfl, a4, hb'⟩)
    have ua := a1.add hw
    have ext := a1.ok.ext_add 0 [y.2, x.2]
    refine ⟨ua, (b2.trans a2).trans ext, ⟨eb ++ ea, by show y.1.2 = _; rw [a3, b3, List.append_assoc]⟩, ?_, fun v hv => ?_, ?_, ?_⟩
    · show y.1.1.n < (y.1.1.add 0 [y.2, x.2]).n; rw [Nd.add_n]; omega
    · simp only [vars, List.mem_append] at hv
      rcases hv with hv | hv
      · exact a5 v hv
      · obtain ⟨i, hi⟩ := b5 v hv
        exact ⟨i, by show y.1.2.lookup v = _; rw [a3]; exact lookup_app hi⟩
    · show fo (y.1.1.add 0 [y.2, x.2]).k (y.1.1.add 0 [y.2, x.2]).pt y.1.1.n = .imp (rename (look y.1.2) a) (rename (look y.1.2) b)
      rw [fo_imp ua.ok.wf (by show y.1.1.n < (y.1.1.add 0 [y.2, x.2]).n; rw [Nd.add_n]; omega) (Nd.add_k _ _ _) (a1.ok.add_pt _ _)]
      rw [fo_ext a1.ok ua.ok ext _ _ (Nat.lt_succ_self _) a4, fo_ext a1.ok ua.ok ext _ _ (Nat.lt_succ_self _) hb', a6, fo_ext b1.ok a1.ok a2 _ _ (Nat.lt_succ_self _) b4, b6]
      congr 1
      refine rename_congr fun v hv => ?_
      obtain ⟨i, hi⟩ := b5 v hv
      unfold look
      rw [hi, a3, lookup_app hi]
    · show (y.1.1.add 0 [y.2, x.2]).n ≤ _; rw [Nd.add_n]; simp only [size]; omega
  | neg a iha =>
    intro st u
    obtain ⟨a1, a2, ⟨ea, a3⟩, a4, a5, a6, a7⟩ := iha st u
    generalize hy : addF a st = y at *
    have q : addF (.neg a) st = ((y.1.1.add 1 [y.2], y.1.2), y.1.1.n) := by simp only [addF, hy]
    rw [q]
    have hw : (1 = 2 ∧ [y.2] = []) ∨ (1 = 0 ∧ ∃ a b, [y.2] = [a, b] ∧ a < y.1.1.n ∧ b < y.1.1.n) ∨ (1 = 1 ∧ ∃ a, [y.2] = [a] ∧ a < y.1.1.n) := .inr (.inr ⟨rfl, _, rfl, a4⟩)
    have ua := a1.add hw
    have ext := a1.ok.ext_add 1 [y.2]
    refine ⟨ua, a2.trans ext, ⟨ea, a3⟩, ?_, fun v hv => a5 v (by simpa [vars] using hv), ?_, ?_⟩
    · show y.1.1.n < (y.1.1.add 1 [y.2]).n; rw [Nd.add_n]; omega
    · show fo (y.1.1.add 1 [y.2]).k (y.1.1.add 1 [y.2]).pt y.1.1.n = .neg (rename (look y.1.2) a)
      rw [fo_neg ua.ok.wf (by show y.1.1.n < (y.1.1.add 1 [y.2]).n; rw [Nd.add_n]; omega) (Nd.add_k _ _ _) (a1.ok.add_pt _ _)]
      rw [fo_ext a1.ok ua.ok ext _ _ (Nat.lt_succ_self _) a4, a6]
    · show (y.1.1.add 1 [y.2]).n ≤ _; rw [Nd.add_n]; simp only [size]; omega
end Shp
namespace Shp
open Vapcma
/-- formulas one behind another put in, the last one first -/
def stk (gs : List Form) (st : Nd × List (Nat × Nat)) : (Nd × List (Nat × Nat)) × List Nat :=
  gs.foldr (fun g x => ((addF g x.1).1, (addF g x.1).2 :: x.2)) (st, [])
theorem stk_cons (g : Form) (gs : List Form) (st : Nd × List (Nat × Nat)) : stk (g :: gs) st = ((addF g (stk gs st).1).1, (addF g (stk gs st).1).2 :: (stk gs st).2) := rfl
theorem stk_imp (a b : Form) (r : List Form) (st : Nd × List (Nat × Nat)) {nd : Nd} {un : List (Nat × Nat)} {x y : Nat} {l : List Nat} (h : stk (a :: b :: r) st = ((nd, un), x :: y :: l)) :
    stk (.imp a b :: r) st = ((nd.add 0 [x, y], un), nd.n :: l) := by
  rw [stk_cons, stk_cons] at h
  rw [stk_cons]
  simp only [Prod.mk.injEq, List.cons.injEq] at h
  obtain ⟨h1, h2, h3, h4⟩ := h
  simp only [addF]
  rw [h1, h2, h3, h4]
theorem stk_neg (a : Form) (r : List Form) (st : Nd × List (Nat × Nat)) {nd : Nd} {un : List (Nat × Nat)} {x : Nat} {l : List Nat} (h : stk (a :: r) st = ((nd, un), x :: l)) :
    stk (.neg a :: r) st = ((nd.add 1 [x], un), nd.n :: l) := by
  rw [stk_cons] at h
  rw [stk_cons]
  simp only [Prod.mk.injEq, List.cons.injEq] at h
  obtain ⟨h1, h2, h3⟩ := h
  simp only [addF]
  rw [h1, h2, h3]
theorem stk_var (v : Nat) (r : List Form) (st : Nd × List (Nat × Nat)) {nd : Nd} {un : List (Nat × Nat)} {l : List Nat} (h : stk r st = ((nd, un), l)) :
    (∀ i, un.lookup v = some i → stk (.var v :: r) st = ((nd, un), i :: l)) ∧ (un.lookup v = none → stk (.var v :: r) st = ((nd.add 2 [], un ++ [(v, nd.n)]), nd.n :: l)) := by
  rw [stk_cons, h]
  constructor
  · intro i hi; simp only [addF, hi]
  · intro hi; simp only [addF, hi]
theorem stk_ok {n0 : Nat} (st : Nd × List (Nat × Nat)) (u : USt n0 st) : ∀ gs : List Form, USt n0 (stk gs st).1 ∧ (stk gs st).1.1.n ≤ st.1.n + (gs.map size).sum ∧ (∀ x ∈ (stk gs st).2, x < (stk gs st).1.1.n) ∧ (stk gs st).2.length = gs.length
  | [] => ⟨u, by simp [stk], by simp [stk], rfl⟩
  | g :: gs => by
    obtain ⟨h1, h2, h3, h4⟩ := stk_ok st u gs
    obtain ⟨a1, a2, _, a4, _, _, a7⟩ := addF_ok g _ h1
    rw [stk_cons]
    refine ⟨a1, ?_, fun x hx => ?_, by simp [h4]⟩
    · simp only [List.map_cons, List.sum_cons]
      omega
    · rcases List.mem_cons.mp hx with rfl | hx
      · exact a4
      · exact Nat.lt_of_lt_of_le (h3 x hx) a2.le
end Shp
end
section
set_option maxRecDepth 100000
set_option maxHeartbeats 4000000
namespace Shp
open PySem PySem.Spec PyProof.Rows L2
open Vapcma (Form)
section
variable {P : Program} {w : World} {K : PySem.W.Frag} {mg : Str → Option Value} {base : Heap}
def nF (sa pa ja : Addr) : List (Str × V) := [("signs", .ref sa), ("parts", .ref pa), ("joined", .ref ja)]
theorem nF_signs (sa pa ja : Addr) : (nF sa pa ja).lookup ("signs" : Str) = some (.ref sa) := lkH
theorem nF_parts (sa pa ja : Addr) : (nF sa pa ja).lookup ("parts" : Str) = some (.ref pa) := (lkP (by decide +kernel)).trans lkH
theorem nF_joined (sa pa ja : Addr) : (nF sa pa ja).lookup ("joined" : Str) = some (.ref ja) := (lkP (by decide +kernel)).trans ((lkP (by decide +kernel)).trans lkH)
theorem nF_no {m : Str} (h1 : (m == ("signs" : Str)) = false) (h2 : (m == ("parts" : Str)) = false) (h3 : (m == ("joined" : Str)) = false) (sa pa ja : Addr) : (nF sa pa ja).lookup m = none :=
  (lkP h1).trans ((lkP h2).trans ((lkP h3).trans rfl))
/-- the nodes' object -/
structure NAt (K : PySem.W.Frag) (C : Addr) (H : Hp) (a dx sa pa ja : Addr) (nd : Nd) : Prop where
  o : H a = some (.ins C dx (nF sa pa ja))
  s : H sa = some (.lst (nvs nd.s))
  p : ∃ ps : List Addr, H pa = some (.lst (ps.map V.ref)) ∧ Paired (fun q l => SqT K H q (nvs l)) ps nd.p
  j : H ja = some (.lst (nvs nd.j))
  d1 : sa ≠ pa
  d2 : sa ≠ ja
  d3 : pa ≠ ja
def sp_Nodes___init__ (T : Top K mg) : Sp := fun vs H Q _ => ∃ (p dx : Addr),
  vs = [.ref p] ∧ H p = some (.ins T.C_Nodes dx []) ∧
  ∀ (H' : Hp) (sa pa ja : Addr), NAt K T.C_Nodes H' p dx sa pa ja Nd.empty → H sa = none → H pa = none → H ja = none → Keep [p] H H' → Q .non H'
theorem ok_Nodes___init__ (T : Top K mg) : FnOk P w K mg base CX0 1 T.m_Nodes___init__.f T.m_Nodes___init__.fd P_Nodes___init__ (sp_Nodes___init__ T) := by
  refine T.m_Nodes___init__.F.ok sc_Nodes___init__ (fun vs H Q E h => by obtain ⟨_, _, rfl, _⟩ := h; rfl) (fun cdv A outer s H vs Q E hr h => ?_)
  refine ⟨_, (pss_cons (ps_fld (pv 0) (pe_lst pa_nil) rfl)
    (pss_cons (ps_fld (pv 0) (pe_lst pa_nil) rfl)
    (pss_one (ps_fld (pv 0) (pe_lst pa_nil) rfl)))), ?_⟩
  obtain ⟨p, dx, rfl, hp, k⟩ := h
  refine ⟨Nat.zero_le _, fun l1 n1 => ?_⟩
  have p1 : p ≠ l1 := ne_of_none hp n1
  refine ⟨_, rfl, p, T.C_Nodes, dx, _, rfl, (by rw [upd_ne p1]; exact hp), T.cl_Nodes, T.n_Nodes_signs, (by show 0 < 1000; decide), ?_⟩
  refine ⟨Nat.zero_le _, fun l2 n2 => ?_⟩
  have p2 : p ≠ l2 := ne_of_none (upd_same) n2
  have e12 : l1 ≠ l2 := by
    rintro rfl
    rw [upd_ne (Ne.symm p1), upd_same] at n2; cases n2
  refine ⟨_, rfl, p, T.C_Nodes, dx, _, rfl, (by rw [upd_ne p2, upd_same]), T.cl_Nodes, T.n_Nodes_parts, (by show 1 < 1000; decide), ?_⟩
  refine ⟨Nat.zero_le _, fun l3 n3 => ?_⟩
  have p3 : p ≠ l3 := ne_of_none (upd_same) n3
  have e23 : l2 ≠ l3 := by
    rintro rfl
    rw [upd_ne (Ne.symm p2), upd_same] at n3; cases n3
  have e13 : l1 ≠ l3 := by
    rintro rfl
    rw [upd_ne (Ne.symm p1), upd_ne e12, upd_ne (Ne.symm p1), upd_same] at n3; cases n3
  refine ⟨_, rfl, p, T.C_Nodes, dx, _, rfl, (by rw [upd_ne p3, upd_same]), T.cl_Nodes, T.n_Nodes_joined, (by show 2 < 1000; decide), ?_⟩
  have z2 : H l2 = none := by rw [upd_ne (Ne.symm p2), upd_ne (Ne.symm e12)] at n2; exact n2
  have z3 : H l3 = none := by rw [upd_ne (Ne.symm p3), upd_ne (Ne.symm e23), upd_ne (Ne.symm p3), upd_ne (Ne.symm e13)] at n3; exact n3
  refine k _ l1 l2 l3 ⟨?_, ?_, ⟨[], ?_, .nil⟩, ?_, e12, e13, e23⟩ n1 z2 z3 ?_
  · rw [upd_same]
    congr 2
  · rw [upd_ne (Ne.symm p1), upd_ne e13, upd_ne (Ne.symm p1), upd_ne e12, upd_ne (Ne.symm p1), upd_same]; rfl
  · rw [upd_ne (Ne.symm p2), upd_ne e23, upd_ne (Ne.symm p2), upd_same]; rfl
  · rw [upd_ne (Ne.symm p3), upd_same]; rfl
  · intro b o hb hn
    have hbp : b ≠ p := by simpa using hn
    rw [upd_ne hbp, upd_ne (ne_of_none hb z3), upd_ne hbp, upd_ne (ne_of_none hb z2), upd_ne hbp, upd_ne (ne_of_none hb n1)]
    exact hb
/-- the lists' places: neither tuples nor locked -/
theorem NAt.own {C : Addr} {H : Hp} {a dx sa pa ja : Addr} {nd : Nd} (h : NAt K C H a dx sa pa ja nd) : ∀ x ∈ [sa, pa, ja], ∃ o, H x = some o ∧ (∀ xs, o ≠ .tup xs) ∧ ∀ q u, o ≠ .frz q u := by
  obtain ⟨ps, h2, _⟩ := h.p
  intro x hx
  simp only [List.mem_cons, List.not_mem_nil, or_false] at hx
  rcases hx with rfl | rfl | rfl
  · exact ⟨_, h.s, (by intro _ z; cases z), (by intro _ _ z; cases z)⟩
  · exact ⟨_, h2, (by intro _ z; cases z), (by intro _ _ z; cases z)⟩
  · exact ⟨_, h.j, (by intro _ z; cases z), (by intro _ _ z; cases z)⟩
theorem NAt.ne_a {C : Addr} {H : Hp} {a dx sa pa ja : Addr} {nd : Nd} (h : NAt K C H a dx sa pa ja nd) : a ≠ sa ∧ a ≠ pa ∧ a ≠ ja := by
  obtain ⟨ps, h2, _⟩ := h.p
  exact ⟨ne_of h.o h.s (by intro z; cases z), ne_of h.o h2 (by intro z; cases z), ne_of h.o h.j (by intro z; cases z)⟩
theorem NAt.same {C : Addr} {H H' : Hp} {a dx sa pa ja : Addr} {nd : Nd} (h : NAt K C H a dx sa pa ja nd) (e : Same H H') : NAt K C H' a dx sa pa ja nd := by
  obtain ⟨ps, h2, h3⟩ := h.p
  exact ⟨e _ _ h.o, e _ _ h.s, ⟨ps, e _ _ h2, paired_mono (fun _ _ q => same_seqT e q) h3⟩, e _ _ h.j, h.d1, h.d2, h.d3⟩
def sp_Nodes_add_node (T : Top K mg) : Sp := fun vs H Q _ => ∃ (a dx sa pa ja q : Addr) (nd : Nd) (k : Nat) (l : List Nat),
  vs = [.ref a, .int (k : Int), .ref q] ∧ NAt K T.C_Nodes H a dx sa pa ja nd ∧ nd.Ok ∧ nd.n ≤ 10000 ∧ SqT K H q (nvs l) ∧
  ∀ H', NAt K T.C_Nodes H' a dx sa pa ja (nd.add k l) → Keep [sa, pa, ja] H H' → Q (.int (nd.n : Int)) H'
theorem ok_Nodes_add_node (T : Top K mg) : FnOk P w K mg base CX0 1 T.m_Nodes_add_node.f T.m_Nodes_add_node.fd P_Nodes_add_node (sp_Nodes_add_node T) := by
  refine T.m_Nodes_add_node.F.ok sc_Nodes_add_node (fun vs H Q E h => by obtain ⟨_, _, _, _, _, _, _, _, _, rfl, _⟩ := h; rfl) (fun cdv A outer s H vs Q E hr h => ?_)
  refine ⟨_, (pss_cons (ps_expr (pe_bm PySem.F.plainAttrs_list PySem.F.slot_list_append PySem.F.type_list_append mt_append (pe_fld (pv 0) rfl) (pa_cons (pv 1) pa_nil)))
    (pss_cons (ps_expr (pe_bm PySem.F.plainAttrs_list PySem.F.slot_list_append PySem.F.type_list_append mt_append (pe_fld (pv 0) rfl) (pa_cons (pv 2) pa_nil)))
    (pss_cons (ps_expr (pe_bm PySem.F.plainAttrs_list PySem.F.slot_list_append PySem.F.type_list_append mt_append (pe_fld (pv 0) rfl) (pa_cons (pe_callB call_len (by rfl) T.b_len PySem.boot_len (pa_cons (pe_fld (pv 0) rfl) pa_nil)) pa_nil)))
    (pss_one (ps_ret (pe_op op_sub (pe_callB call_len (by rfl) T.b_len PySem.boot_len (pa_cons (pe_fld (pv 0) rfl) pa_nil)) pe_int)))))), ?_⟩
  obtain ⟨a, dx, sa, pa, ja, q, nd, k, l, rfl, hN, hok, hz, hq, hk⟩ := h
  obtain ⟨n1, n2, n3⟩ := hN.ne_a
  obtain ⟨ps, hp1, hp2⟩ := hN.p
  have lz : ∀ m, m ≤ 10000 → m < sizeLine := fun m h => small_lt h
  refine ⟨_, rfl, a, _, dx, _, _, rfl, hN.o, T.cl_Nodes, T.n_Nodes_signs, nF_signs _ _ _, tyL hN.s, ?_⟩
  refine ⟨_, rfl, sa, _, _, rfl, rfl, hN.s, lz _ (by rw [nvs_len]; exact hz), ?_⟩
  have o1 : (upd H sa (.lst (nvs nd.s ++ [.int (k : Int)]))) a = some (.ins T.C_Nodes dx (nF sa pa ja)) := by rw [upd_ne n1]; exact hN.o
  have hp3 : (upd H sa (.lst (nvs nd.s ++ [.int (k : Int)]))) pa = some (.lst (ps.map V.ref)) := by rw [upd_ne (Ne.symm hN.d1)]; exact hp1
  refine ⟨_, rfl, a, _, dx, _, _, rfl, o1, T.cl_Nodes, T.n_Nodes_parts, nF_parts _ _ _, tyL hp3, ?_⟩
  have hpl : ps.length = nd.n := hp2.length.trans hok.lp
  refine ⟨_, rfl, pa, _, _, rfl, rfl, hp3, lz _ (by rw [List.length_map, hpl]; exact hz), ?_⟩
  have o2 : (upd (upd H sa (.lst (nvs nd.s ++ [.int (k : Int)]))) pa (.lst (ps.map V.ref ++ [.ref q]))) a = some (.ins T.C_Nodes dx (nF sa pa ja)) := by rw [upd_ne n2]; exact o1
  have hj2 : (upd (upd H sa (.lst (nvs nd.s ++ [.int (k : Int)]))) pa (.lst (ps.map V.ref ++ [.ref q]))) ja = some (.lst (nvs nd.j)) := by rw [upd_ne (Ne.symm hN.d3), upd_ne (Ne.symm hN.d2)]; exact hN.j
  refine ⟨_, rfl, a, _, dx, _, _, rfl, o2, T.cl_Nodes, T.n_Nodes_joined, nF_joined _ _ _, tyL hj2, ?_⟩
  refine ⟨_, rfl, a, _, dx, _, _, rfl, o2, T.cl_Nodes, T.n_Nodes_joined, nF_joined _ _ _, _, _, rfl, .inl ⟨_, SqL.of hj2, rfl⟩, ?_⟩
  refine ⟨ja, _, _, rfl, rfl, hj2, lz _ (by rw [nvs_len, hok.lj]; exact hz), ?_⟩
  have o3 : (upd (upd (upd H sa (.lst (nvs nd.s ++ [.int (k : Int)]))) pa (.lst (ps.map V.ref ++ [.ref q]))) ja (.lst (nvs nd.j ++ [.int ((nvs nd.j).length : Nat)]))) a = some (.ins T.C_Nodes dx (nF sa pa ja)) := by rw [upd_ne n3]; exact o2
  refine ⟨_, rfl, a, _, dx, _, _, rfl, o3, T.cl_Nodes, T.n_Nodes_joined, nF_joined _ _ _, _, _, rfl, .inl ⟨_, SqL.of upd_same, rfl⟩, ?_⟩
  refine ⟨_, _, rfl, rfl, ?_⟩
  have keep : Keep [sa, pa, ja] H (upd (upd (upd H sa (.lst (nvs nd.s ++ [.int (k : Int)]))) pa (.lst (ps.map V.ref ++ [.ref q]))) ja (.lst (nvs nd.j ++ [.int ((nvs nd.j).length : Nat)]))) :=
    ((Keep.upd (by simp)).trans (Keep.upd (by simp))).trans (Keep.upd (by simp))
  have hv : (((nvs nd.j ++ [V.int ((nvs nd.j).length : Nat)]).length : Nat) : Int) - 1 = (nd.n : Int) := by
    rw [List.length_append, nvs_len, hok.lj]; simp
  show Q (.int ((((nvs nd.j ++ [V.int ((nvs nd.j).length : Nat)]).length : Nat) : Int) - 1)) _
  rw [hv]
  refine hk _ ⟨o3, ?_, ⟨ps ++ [q], ?_, ?_⟩, ?_, hN.d1, hN.d2, hN.d3⟩ keep
  · rw [upd_ne hN.d2, upd_ne hN.d1, upd_same]
    simp [Nd.add, nvs_app, nvs]
  · rw [upd_ne hN.d3, upd_same]
    simp
  · exact paired_snoc (R := fun (q : Addr) (l : List Nat) => SqT K _ q (nvs l)) (keep.seqT hN.own hq) (paired_mono (fun (_ : Addr) (_ : List Nat) z => keep.seqT hN.own z) hp2)
  · rw [upd_same]
    simp [Nd.add, nvs_app, nvs]
end
end Shp
end
section
set_option maxRecDepth 100000
set_option maxHeartbeats 4000000
namespace Shp
open PySem PySem.Spec PyProof.Rows L2
open Vapcma (Form)
section
variable {P : Program} {w : World} {K : PySem.W.Frag} {mg : Str → Option Value} {base : Heap}
def sp_Nodes_add_formula (T : Top K mg) : Sp := fun vs H Q _ => ∃ (a dx sa pa ja q : Addr) (nd : Nd) (f : Form),
  vs = [.ref a, .ref q] ∧ NAt K T.C_Nodes H a dx sa pa ja nd ∧ USt nd.n (nd, []) ∧ SqT K H q (ivs (enc f)) ∧ nd.n + Vapcma.size f ≤ 10000 ∧
  ∀ H', NAt K T.C_Nodes H' a dx sa pa ja (addF f (nd, [])).1.1 → Keep [sa, pa, ja] H H' → Q (.int (((addF f (nd, [])).2 : Nat) : Int)) H'
theorem NAt.upd {C : Addr} {H : Hp} {a dx sa pa ja L : Addr} {nd : Nd} {o' : HO} (h : NAt K C H a dx sa pa ja nd) (n : L ∉ [a, sa, pa, ja]) (hL : ∀ xs, SqT K (L2.upd H L o') L xs → False) (ht : ∀ q xs, SqT K H q xs → SqT K (L2.upd H L o') q xs) : NAt K C (L2.upd H L o') a dx sa pa ja nd := by
  simp only [List.mem_cons, List.not_mem_nil, or_false, not_or] at n
  obtain ⟨n1, n2, n3, n4⟩ := n
  obtain ⟨ps, h2, h3⟩ := h.p
  exact ⟨by rw [upd_ne (Ne.symm n1)]; exact h.o, by rw [upd_ne (Ne.symm n2)]; exact h.s, ⟨ps, by rw [upd_ne (Ne.symm n3)]; exact h2, paired_mono (fun (_ : Addr) (_ : List Nat) z => ht _ _ z) h3⟩, by rw [upd_ne (Ne.symm n4)]; exact h.j, h.d1, h.d2, h.d3⟩
/-- the nodes stand where another list or dict is stored -/
theorem NAt.upd_lst {C : Addr} {H : Hp} {a dx sa pa ja L : Addr} {nd : Nd} {o o' : HO} (h : NAt K C H a dx sa pa ja nd) (hL : H L = some o) (ho : ∀ xs, o ≠ .tup xs) (hf : ∀ q u, o ≠ .frz q u) (hi : ∀ c d fs, o ≠ .ins c d fs) (n : L ∉ [sa, pa, ja]) : NAt K C (L2.upd H L o') a dx sa pa ja nd := by
  have ht : ∀ q xs, SqT K H q xs → SqT K (L2.upd H L o') q xs := fun q xs z => seqT_upd hL ho z hf
  have na : L ≠ a := fun e => by
    rw [e, h.o] at hL
    exact hi _ _ _ (Option.some.inj hL).symm
  simp only [List.mem_cons, List.not_mem_nil, or_false, not_or] at n
  obtain ⟨n2, n3, n4⟩ := n
  obtain ⟨ps, h2, h3⟩ := h.p
  exact ⟨by rw [upd_ne (Ne.symm na)]; exact h.o, by rw [upd_ne (Ne.symm n2)]; exact h.s, ⟨ps, by rw [upd_ne (Ne.symm n3)]; exact h2, paired_mono (fun (_ : Addr) (_ : List Nat) z => ht _ _ z) h3⟩, by rw [upd_ne (Ne.symm n4)]; exact h.j, h.d1, h.d2, h.d3⟩
/-- what is kept between two signs -/
structure AddSt (K : PySem.W.Frag) (C : Addr) (H0 H : Hp) (a dx sa pa ja d L : Addr) (x : (Nd × List (Nat × Nat)) × List Nat) : Prop where
  kp : Keep [sa, pa, ja] H0 H
  n : NAt K C H a dx sa pa ja x.1.1
  d : H d = some (.dK (ukv x.1.2))
  l : H L = some (.lst (nvs x.2.reverse))
theorem ok_Nodes_add_formula (T : Top K mg) : FnOk P w K mg base CX0 2 T.m_Nodes_add_formula.f T.m_Nodes_add_formula.fd P_Nodes_add_formula (sp_Nodes_add_formula T) := by
  refine T.m_Nodes_add_formula.F.ok sc_Nodes_add_formula (fun vs H Q E h => by obtain ⟨_, _, _, _, _, _, _, _, rfl, _⟩ := h; rfl) (fun cdv A outer s H vs Q E hr h => ?_)
  refine ⟨_, (pss_cons (ps_set (i := 2) sc_Nodes_add_formula.nd rfl (Or.inl rfl) pe_dnewK)
    (pss_cons (ps_set (i := 3) sc_Nodes_add_formula.nd rfl (Or.inl rfl) (pe_lst pa_nil))
    (pss_cons (ps_for PassesOwn.never rfl (RT.pi_revA (by rfl) T.b_reversed (pv 1)) (pg_name (i := 4) sc_Nodes_add_formula.nd rfl (Or.inl rfl))
      (pss_one (ps_if (pt_cmpR op_eq (pv 4) (pe_glob rfl T.c_IMPLIES.choose_spec relI) (nomark _)) (pss_cons (ps_set (i := 5) sc_Nodes_add_formula.nd rfl (Or.inl rfl) (pe_bm0 PySem.F.plainAttrs_list PySem.F.slot_list_pop PySem.F.type_list_pop mt_pop (pv 3)))
        (pss_cons (ps_set (i := 6) sc_Nodes_add_formula.nd rfl (Or.inl rfl) (pe_bm0 PySem.F.plainAttrs_list PySem.F.slot_list_pop PySem.F.type_list_pop mt_pop (pv 3)))
        (pss_one (ps_expr (pe_bm PySem.F.plainAttrs_list PySem.F.slot_list_append PySem.F.type_list_append mt_append (pv 3) (pa_cons (pe_meth (pv 0) T.cl_Nodes T.m_Nodes_add_node.m (ok_Nodes_add_node T) (hr.mono (by decide)) T.m_Nodes_add_node.b .nil pass0 (pa_cons (pe_glob rfl T.c_IMPLIES.choose_spec relI) (pa_cons (pe_tup (pa_cons (pv 5) (pa_cons (pv 6) pa_nil))) pa_nil))) pa_nil)))))) (pss_one (ps_if (pt_cmpR op_eq (pv 4) (pe_glob rfl T.c_DENIES.choose_spec relI) (nomark _)) (pss_one (ps_expr (pe_bm PySem.F.plainAttrs_list PySem.F.slot_list_append PySem.F.type_list_append mt_append (pv 3) (pa_cons (pe_meth (pv 0) T.cl_Nodes T.m_Nodes_add_node.m (ok_Nodes_add_node T) (hr.mono (by decide)) T.m_Nodes_add_node.b .nil pass0 (pa_cons (pe_glob rfl T.c_DENIES.choose_spec relI) (pa_cons (pe_tup (pa_cons (pe_bm0 PySem.F.plainAttrs_list PySem.F.slot_list_pop PySem.F.type_list_pop mt_pop (pv 3)) pa_nil)) pa_nil))) pa_nil)))) (pss_cons (ps_if (pt_cmp (pc_dnotin (hu_of hr) (pv 4) (pv 2))) (pss_one (ps_dput (hu_of hr) (pv 2) (pv 4) (pe_meth (pv 0) T.cl_Nodes T.m_Nodes_add_node.m (ok_Nodes_add_node T) (hr.mono (by decide)) T.m_Nodes_add_node.b .nil pass0 (pa_cons (pe_glob rfl T.c_FIRST_UNKNOWN.choose_spec relI) (pa_cons (pe_tup pa_nil) pa_nil))) rfl)) pss_nil)
          (pss_one (ps_expr (pe_bm PySem.F.plainAttrs_list PySem.F.slot_list_append PySem.F.type_list_append mt_append (pv 3) (pa_cons (pe_dget (hu_of hr) (pv 2) (pv 4) (fun _ _ => rfl)) pa_nil))))))))))
    (pss_one (ps_ret (pe_ix ix_list (pv 3) pe_int (fun _ _ => rfl))))))), ?_⟩
  obtain ⟨a, dx, sa, pa, ja, q, nd, f, rfl, hN, hU, hq, hz, hk⟩ := h
  intro d nd1'
  refine ⟨Nat.zero_le _, fun L nl1 => ?_⟩
  have nl : H L = none := (same_new nd1').free nl1
  have dL : d ≠ L := by
    rintro rfl
    rw [upd_same] at nl1; cases nl1
  have notin : ∀ x : Addr, H x = none → x ∉ [sa, pa, ja] := fun x hx m => by
    obtain ⟨o, h1, _⟩ := hN.own x m
    rw [hx] at h1; cases h1
  have dn := notin d nd1'
  have ln := notin L nl
  have hn : (ivs (enc f)).length = Vapcma.size f := by rw [ivs_len, enc_len]
  refine ⟨_, rfl, q, _, rfl, .inr ⟨same_seqT ((same_new nd1').trans (same_new nl1)) hq, RT.for_ItvT (K := K) (a := q) (xs := ivs (enc f)) (fun i σ H' => ∃ (gs : List Form) (v4 v5 v6 : Option V),
      σ = [some (.ref a), some (.ref q), some (.ref d), some (.ref L), v4, v5, v6] ∧ AddSt K T.C_Nodes H H' a dx sa pa ja d L (stk gs (nd, [])) ∧
      (enc f).drop (Vapcma.size f - i) = encs gs ∧ i ≤ Vapcma.size f ∧ gs.length ≤ i)
    ?_ (fun i σ H' ⟨_, _, _, _, _, s5, _⟩ => s5.kp.seqT hN.own hq) ?_ ?_⟩⟩
  · refine ⟨[], none, none, none, rfl, ⟨?_, ?_, ?_, ?_⟩, by rw [Nat.sub_zero, ← enc_len, List.drop_length]; rfl, Nat.zero_le _, Nat.le_refl _⟩
    · exact Keep.of_same ((same_new nd1').trans (same_new nl1))
    · exact hN.same ((same_new nd1').trans (same_new nl1))
    · show (L2.upd (L2.upd H d (.dK [])) L (.lst [])) d = some (.dK (ukv []))
      rw [upd_ne dL, upd_same]; rfl
    · show (L2.upd (L2.upd H d (.dK [])) L (.lst [])) L = some (.lst (nvs [].reverse))
      rw [upd_same]; rfl
  · rintro i y σ H' hlt hi ⟨gs, v4, v5, v6, rfl, S, hg, hi2, hgl⟩
    rw [hn] at hlt hi
    obtain ⟨z, rfl, hz1⟩ := ivs_back hi
    have hdr : (enc f).drop (Vapcma.size f - 1 - i) = z :: encs gs := by
      rw [← hg, List.drop_eq_getElem_cons (by rw [enc_len]; omega)]
      congr 1
      · exact (List.getElem?_eq_some_iff.mp hz1).2
      · congr 1; omega
    obtain ⟨gs', hgs'⟩ := enc_suffix f (Vapcma.size f - 1 - i) (by omega)
    have hidx : Vapcma.size f - (i + 1) = Vapcma.size f - 1 - i := by omega
    obtain ⟨u1, u2, u3, u4⟩ := stk_ok (nd, []) hU gs
    have szs : sizes gs ≤ Vapcma.size f := by
      have := congrArg List.length hg
      rw [List.length_drop, encs_len, enc_len] at this
      omega
    have u2' : (stk gs (nd, [])).1.1.n ≤ nd.n + sizes gs := u2
    have hlen := len_sizes gs
    -- a value put at the end of above
    have fin : ∀ (H2 : Hp) (x : (Nd × List (Nat × Nat)) × List Nat) (r : Nat) (l : List Nat) (z4 z5 z6 : Option V), NAt K T.C_Nodes H2 a dx sa pa ja x.1.1 → H2 d = some (.dK (ukv x.1.2)) → H2 L = some (.lst (nvs l.reverse)) → Keep [sa, pa, ja] H H2 → x.2 = r :: l → stk gs' (nd, []) = x → gs'.length ≤ i + 1 →
        ∃ (gs : List Form) (v4 v5 v6 : Option V),
      [some (.ref a), some (.ref q), some (.ref d), some (.ref L), z4, z5, z6] = [some (.ref a), some (.ref q), some (.ref d), some (.ref L), v4, v5, v6] ∧
      AddSt K T.C_Nodes H (L2.upd H2 L (.lst (nvs l.reverse ++ [.int (r : Int)]))) a dx sa pa ja d L (stk gs (nd, [])) ∧
      (enc f).drop (Vapcma.size f - (i + 1)) = encs gs ∧ i + 1 ≤ Vapcma.size f ∧ gs.length ≤ i + 1 := by
      intro H2 x r l z4 z5 z6 hN2 hd2 hL2 kp2 ex es hgl'
      refine ⟨gs', z4, z5, z6, rfl, ?_, by rw [hidx]; exact hgs', by omega, hgl'⟩
      rw [es]
      refine ⟨kp2.old nl, hN2.upd_lst hL2 (by intro _ z; cases z) (by intro _ _ z; cases z) (by intro _ _ _ z; cases z) ln, ?_, ?_⟩
      · rw [upd_ne dL]; exact hd2
      · rw [upd_same, ex, List.reverse_cons, nvs_app]; rfl
    refine ⟨_, rfl, rfl, _, rfl, ?_⟩
    rcases encs_push (hdr.symm.trans hgs') with ⟨rfl, ga, gb, r, rfl, rfl⟩ | ⟨rfl, ga, r, rfl, rfl⟩ | ⟨v, rfl, rfl⟩
    · refine iteT (by rfl) ?_
      generalize hst : stk (ga :: gb :: r) (nd, []) = st at *
      obtain ⟨⟨nd1, un1⟩, l⟩ := st
      match l, u4 with
      | x :: y :: l, u4 =>
      obtain ⟨S1, S2, S3, S4⟩ := S
      dsimp only at S2 S3 S4 u1 u2 u3 u2'
      have t1 := nvs_last x (y :: l)
      have t2 := nvs_last y l
      refine ⟨_, rfl, tyL S4, L, _, _, rfl, rfl, S4, t1.1, ?_⟩
      rw [t1.2]
      have hL1 : (L2.upd H' L (.lst (nvs (y :: l).reverse))) L = some (.lst (nvs (y :: l).reverse)) := upd_same
      refine ⟨_, rfl, tyL hL1, L, _, _, rfl, rfl, hL1, t2.1, ?_⟩
      rw [t2.2, upd_upd]
      have hL2 : (L2.upd H' L (.lst (nvs l.reverse))) L = some (.lst (nvs l.reverse)) := upd_same
      have hN2 : NAt K T.C_Nodes (L2.upd H' L (.lst (nvs l.reverse))) a dx sa pa ja nd1 := S2.upd_lst S4 (by intro _ z; cases z) (by intro _ _ z; cases z) (by intro _ _ _ z; cases z) ln
      refine ⟨_, rfl, tyL hL2, _, rfl, a, dx, _, rfl, hN2.o, nF_no (by decide +kernel) (by decide +kernel) (by decide +kernel) _ _ _, ?_⟩
      refine ⟨_, rfl, _, rfl, (show 2 ≤ sizeLine by decide), fun p hp => ?_⟩
      refine ⟨a, dx, sa, pa, ja, p, nd1, 0, [x, y], rfl, hN2.same (same_new hp), u1.ok, by omega, SqT.of upd_same, fun H3 hN3 kp3 => ?_⟩
      have hL3 : H3 L = some (.lst (nvs l.reverse)) := kp3 _ _ (same_new hp _ _ hL2) ln
      have hd3 : H3 d = some (.dK (ukv un1)) := kp3 _ _ (same_new hp _ _ (by rw [upd_ne dL]; exact S3)) dn
      refine ⟨L, _, _, rfl, rfl, hL3, small_lt (m := 10000) (by rw [nvs_len, List.length_reverse]; simp at u4; simp at hlen; omega), ?_⟩
      exact fin H3 ((nd1.add 0 [x, y], un1), nd1.n :: l) nd1.n l _ _ _ hN3 hd3 hL3 (((S1.old nl).trans (Keep.of_same (same_new hp))).trans kp3) rfl (stk_imp ga gb r (nd, []) hst) (by simp at hgl ⊢; omega)
    · refine iteF (by rfl) ?_
      refine ⟨_, rfl, rfl, _, rfl, ?_⟩
      refine iteT (by rfl) ?_
      generalize hst : stk (ga :: r) (nd, []) = st at *
      obtain ⟨⟨nd1, un1⟩, l⟩ := st
      match l, u4 with
      | x :: l, u4 =>
      obtain ⟨S1, S2, S3, S4⟩ := S
      dsimp only at S2 S3 S4 u1 u2 u3 u2'
      have t1 := nvs_last x l
      refine ⟨_, rfl, tyL S4, _, rfl, a, dx, _, rfl, S2.o, nF_no (by decide +kernel) (by decide +kernel) (by decide +kernel) _ _ _, ?_⟩
      refine ⟨_, rfl, tyL S4, L, _, _, rfl, rfl, S4, t1.1, ?_⟩
      rw [t1.2]
      have hL2 : (L2.upd H' L (.lst (nvs l.reverse))) L = some (.lst (nvs l.reverse)) := upd_same
      have hN2 : NAt K T.C_Nodes (L2.upd H' L (.lst (nvs l.reverse))) a dx sa pa ja nd1 := S2.upd_lst S4 (by intro _ z; cases z) (by intro _ _ z; cases z) (by intro _ _ _ z; cases z) ln
      refine ⟨(show 1 ≤ sizeLine by decide), fun p hp => ?_⟩
      refine ⟨a, dx, sa, pa, ja, p, nd1, 1, [x], rfl, hN2.same (same_new hp), u1.ok, by omega, SqT.of upd_same, fun H3 hN3 kp3 => ?_⟩
      have hL3 : H3 L = some (.lst (nvs l.reverse)) := kp3 _ _ (same_new hp _ _ hL2) ln
      have hd3 : H3 d = some (.dK (ukv un1)) := kp3 _ _ (same_new hp _ _ (by rw [upd_ne dL]; exact S3)) dn
      refine ⟨L, _, _, rfl, rfl, hL3, small_lt (m := 10000) (by rw [nvs_len, List.length_reverse]; simp at u4; simp at hlen; omega), ?_⟩
      exact fin H3 ((nd1.add 1 [x], un1), nd1.n :: l) nd1.n l _ _ _ hN3 hd3 hL3 (((S1.old nl).trans (Keep.of_same (same_new hp))).trans kp3) rfl (stk_neg ga r (nd, []) hst) (by simp at hgl ⊢; omega)
    · refine iteF (by simp; omega) ?_
      refine ⟨_, rfl, rfl, _, rfl, ?_⟩
      refine iteF (by simp; omega) ?_
      generalize hst : stk gs (nd, []) = st at *
      obtain ⟨⟨nd1, un1⟩, l⟩ := st
      obtain ⟨S1, S2, S3, S4⟩ := S
      dsimp only at S2 S3 S4 u1 u2 u3 u2' u4
      obtain ⟨v1, v2⟩ := stk_var v gs (nd, []) hst
      refine ⟨_, rfl, _, rfl, d, _, rfl, DGet.k (k := Sum.inl ((v : Int) + 2)) S3, _, rfl, ?_⟩
      rw [ukv_val]
      cases hlk : un1.lookup v with
      | some j =>
        refine iteF rfl ?_
        refine ⟨_, rfl, tyL S4, _, rfl, _, rfl, d, _, rfl, (by have := DGet.k (k := Sum.inl ((v : Int) + 2)) S3; rw [ukv_val, hlk] at this; exact this), ?_⟩
        refine ⟨L, _, _, rfl, rfl, S4, small_lt (m := 10000) (by rw [nvs_len, List.length_reverse]; omega), ?_⟩
        exact fin H' ((nd1, un1), j :: l) j l _ _ _ S2 S3 S4 S1 rfl (v1 j hlk) (by simp; omega)
      | none =>
        refine iteT rfl ?_
        have hzl : (ukv un1).length < sizeLine := by
          have e1 : un1.length ≤ nd1.n := by
            have h1 := u1.iv
            have h2 : ∀ x ∈ un1.map Prod.snd, x ∈ List.range nd1.n := fun x hx => by
              obtain ⟨y, hy, rfl⟩ := List.mem_map.mp hx
              exact List.mem_range.mpr (u1.un y hy).2.1
            have := h1.length_le_of_subset h2
            rwa [List.length_map, List.length_range] at this
          rw [ukv_len]
          exact small_lt (m := 10000) (by omega)
        refine ⟨_, rfl, a, dx, _, rfl, S2.o, nF_no (by decide +kernel) (by decide +kernel) (by decide +kernel) _ _ _, ?_⟩
        refine ⟨(show 0 ≤ sizeLine by decide), fun p hp => ?_⟩
        refine ⟨a, dx, sa, pa, ja, p, nd1, 2, [], rfl, S2.same (same_new hp), u1.ok, by omega, SqT.of upd_same, fun H3 hN3 kp3 => ?_⟩
        have hL3 : H3 L = some (.lst (nvs l.reverse)) := kp3 _ _ (same_new hp _ _ S4) ln
        have hd3 : H3 d = some (.dK (ukv un1)) := kp3 _ _ (same_new hp _ _ S3) dn
        refine ⟨_, rfl, _, rfl, d, _, rfl, DPut.k (k := Sum.inl ((v : Int) + 2)) hd3 hzl, ?_⟩
        have epk : putK (ukv un1) (Sum.inl ((v : Int) + 2)) (V.int (nd1.n : Int)) = ukv (un1 ++ [(v, nd1.n)]) := by
          rw [putK_none (by rw [ukv_val, hlk]; rfl)]
          simp [ukv]
        rw [epk]
        have hd4 : (L2.upd H3 d (.dK (ukv (un1 ++ [(v, nd1.n)])))) d = some (.dK (ukv (un1 ++ [(v, nd1.n)]))) := upd_same
        have hL4 : (L2.upd H3 d (.dK (ukv (un1 ++ [(v, nd1.n)])))) L = some (.lst (nvs l.reverse)) := by rw [upd_ne (Ne.symm dL)]; exact hL3
        refine ⟨_, rfl, tyL hL4, _, rfl, _, rfl, d, _, rfl, (by
          have := DGet.k (k := Sum.inl ((v : Int) + 2)) hd4
          rw [ukv_val, List.lookup_append, hlk] at this
          simp only [Option.none_or, List.lookup_cons, beq_self_eq_true, Option.map_some] at this
          exact this), ?_⟩
        refine ⟨L, _, _, rfl, rfl, hL4, small_lt (m := 10000) (by rw [nvs_len, List.length_reverse]; omega), ?_⟩
        have hN4 := hN3.upd_lst (o' := .dK (ukv (un1 ++ [(v, nd1.n)]))) hd3 (by intro _ z; cases z) (by intro _ _ z; cases z) (by intro _ _ _ z; cases z) dn
        exact fin _ ((nd1.add 2 [], un1 ++ [(v, nd1.n)]), nd1.n :: l) nd1.n l _ _ _ hN4 hd4 hL4 (((S1.trans (Keep.of_same (same_new hp))).trans kp3).old nd1') rfl (v2 hlk) (by simp; omega)
  · rintro σ H' ⟨gs, v4, v5, v6, rfl, S, hg, hi2, hgl⟩
    rw [hn, Nat.sub_self, List.drop_zero] at hg
    have e : gs = [f] := encs_inj (by rw [← hg]; simp [encs])
    subst e
    have hl := S.l
    have e0 : (nvs (stk [f] (nd, [])).2.reverse)[0]? = some (V.int (((addF f (nd, [])).2 : Nat) : Int)) := rfl
    refine ⟨_, rfl, _, _, _, _, rfl, rfl, SqL.of hl, atI_nat' (i := 0) e0, ?_⟩
    exact hk H' S.n S.kp
end
end Shp
end
section
set_option maxRecDepth 100000
set_option maxHeartbeats 4000000
namespace Shp
open PySem PySem.Spec PyProof.Rows L2
open Vapcma (Form)
section
variable {P : Program} {w : World} {K : PySem.W.Frag} {mg : Str → Option Value} {base : Heap}
/-- so many steps to the leader -/
inductive LeadK (J : Nat → Nat) : Nat → Nat → Nat → Prop
  | here {i : Nat} (h : J i = i) : LeadK J i i 0
  | step {i l m : Nat} (h : J i ≠ i) (t : LeadK J (J i) l m) : LeadK J i l (m + 1)
theorem leadK_of {J : Nat → Nat} {i l : Nat} (h : Lead J i l) : ∃ m, LeadK J i l m := by
  induction h with
  | here h => exact ⟨0, .here h⟩
  | step h _ ih => obtain ⟨m, q⟩ := ih; exact ⟨m + 1, .step h q⟩
/-- nodes whose joins stay among them and lead somewhere -/
structure Nd.Led (nd : Nd) : Prop where
  lp : nd.p.length = nd.n
  lj : nd.j.length = nd.n
  bj : ∀ i, i < nd.n → nd.J i < nd.n
  ld : ∀ i, ∃ l, Lead nd.J i l
theorem Nd.J_get {nd : Nd} (lj : nd.j.length = nd.n) {i : Nat} (h : i < nd.n) : nd.j[i]? = some (nd.J i) := by
  have : i < nd.j.length := by omega
  unfold Nd.J
  rw [List.getD_eq_getElem?_getD, List.getElem?_eq_getElem this]; rfl
theorem Nd.k_get {nd : Nd} {i : Nat} (h : i < nd.n) : nd.s[i]? = some (nd.k i) := by
  have : i < nd.s.length := h
  unfold Nd.k
  rw [List.getD_eq_getElem?_getD, List.getElem?_eq_getElem this]; rfl
theorem Nd.pt_get {nd : Nd} (lp : nd.p.length = nd.n) {i : Nat} (h : i < nd.n) : nd.p[i]? = some (nd.pt i) := by
  have : i < nd.p.length := by omega
  unfold Nd.pt
  rw [List.getD_eq_getElem?_getD, List.getElem?_eq_getElem this]; rfl
theorem paired_get {α β : Type} {R : α → β → Prop} : ∀ {xs : List α} {ys : List β} {i : Nat} {y : β}, Paired R xs ys → ys[i]? = some y → ∃ x, xs[i]? = some x ∧ R x y
  | _, _, _, _, .nil, h => by simp at h
  | _, _, 0, _, .cons a r, h => by simp at h; subst h; exact ⟨_, rfl, a⟩
  | _, _, i + 1, y, .cons a r, h => by
    obtain ⟨x, h1, h2⟩ := paired_get (i := i) (y := y) r (by simpa using h)
    exact ⟨x, by simpa using h1, h2⟩
theorem take_more' {α : Type} {l : List α} {i : Nat} {x : α} (h : l[i]? = some x) : l.take (i + 1) = l.take i ++ [x] := by
  rw [List.take_add_one, h]; rfl
def sp_Nodes_leader (T : Top K mg) : Sp := fun vs H Q _ => ∃ (a dx sa pa ja : Addr) (nd : Nd) (i l : Nat),
  vs = [.ref a, .int (i : Int)] ∧ NAt K T.C_Nodes H a dx sa pa ja nd ∧ nd.Led ∧ i < nd.n ∧ Lead nd.J i l ∧ Q (.int (l : Int)) H
theorem ok_Nodes_leader (T : Top K mg) : FnOk P w K mg base CX0 1 T.m_Nodes_leader.f T.m_Nodes_leader.fd P_Nodes_leader (sp_Nodes_leader T) := by
  refine T.m_Nodes_leader.F.ok sc_Nodes_leader (fun vs H Q E h => by obtain ⟨_, _, _, _, _, _, _, _, rfl, _⟩ := h; rfl) (fun cdv A outer s H vs Q E hr h => ?_)
  refine ⟨_, (pss_cons (ps_while PassesOwn.never (pt_cmpR op_ne (pe_ix ix_list (pe_fld (pv 0) rfl) (pv 1) (fun _ _ => rfl)) (pv 1) (nomark _)) (pss_one (ps_set (i := 1) sc_Nodes_leader.nd rfl (Or.inl rfl) (pe_ix ix_list (pe_fld (pv 0) rfl) (pv 1) (fun _ _ => rfl)))))
    (pss_one (ps_ret (pv 1)))), ?_⟩
  obtain ⟨a, dx, sa, pa, ja, nd, i, l, rfl, hN, hL, hi, hl, hq⟩ := h
  obtain ⟨m, hm⟩ := leadK_of hl
  refine ⟨fun m σ H' => H' = H ∧ ∃ i : Nat, i < nd.n ∧ σ = [some (.ref a), some (.int (i : Int))] ∧ LeadK nd.J i l m, ⟨m, rfl, i, hi, rfl, hm⟩, ?_⟩
  rintro m σ H' ⟨rfl, i, hi, rfl, hm⟩
  refine ⟨_, rfl, a, _, dx, _, _, rfl, hN.o, T.cl_Nodes, T.n_Nodes_joined, nF_joined _ _ _, _, rfl, _, _, _, _, rfl, rfl, SqL.of hN.j, atI_nat' (nvs_get (Nd.J_get hL.lj hi)), _, rfl, rfl, _, rfl, ?_⟩
  cases hm with
  | here e =>
    refine iteF (by rw [e]; simp) ?_
    exact ⟨_, rfl, hq⟩
  | @step _ _ m ne t =>
    refine iteT (by simp; omega) ?_
    refine ⟨fun σ' H2 => H2 = H' ∧ ∃ i : Nat, i < nd.n ∧ σ' = [some (.ref a), some (.int (i : Int))] ∧ LeadK nd.J i l m, fun σ' H2 h => ⟨m, Nat.lt_succ_self _, h⟩, ?_⟩
    refine ⟨_, rfl, a, _, dx, _, _, rfl, hN.o, T.cl_Nodes, T.n_Nodes_joined, nF_joined _ _ _, _, rfl, _, _, _, _, rfl, rfl, SqL.of hN.j, atI_nat' (nvs_get (Nd.J_get hL.lj hi)), ?_⟩
    exact ⟨rfl, nd.J i, hL.bj i hi, rfl, t⟩
/-- who leads -/
noncomputable def ldr (J : Nat → Nat) (i : Nat) : Nat := open Classical in if h : ∃ l, Lead J i l then h.choose else i
theorem ldr_is {J : Nat → Nat} {i : Nat} (h : ∃ l, Lead J i l) : Lead J i (ldr J i) := by
  unfold ldr
  rw [dif_pos h]
  exact h.choose_spec
theorem Nd.Led.ldr {nd : Nd} (h : nd.Led) (i : Nat) : Lead nd.J i (ldr nd.J i) := ldr_is (h.ld i)
theorem Nd.Led.ldr_lt {nd : Nd} (h : nd.Led) {i : Nat} (hi : i < nd.n) : Shp.ldr nd.J i < nd.n := (h.ldr i).lt h.bj hi
def sp_Nodes_part_leaders (T : Top K mg) : Sp := fun vs H Q _ => ∃ (a dx sa pa ja : Addr) (nd : Nd) (i : Nat),
  vs = [.ref a, .int (i : Int)] ∧ NAt K T.C_Nodes H a dx sa pa ja nd ∧ nd.Led ∧ i < nd.n ∧ (∀ x ∈ nd.pt i, x < nd.n) ∧ (nd.pt i).length ≤ 1000 ∧
  ∀ p, H p = none → Q (.ref p) (upd H p (.lst (nvs ((nd.pt i).map (ldr nd.J)))))
theorem ok_Nodes_part_leaders (T : Top K mg) : FnOk P w K mg base CX0 2 T.m_Nodes_part_leaders.f T.m_Nodes_part_leaders.fd P_Nodes_part_leaders (sp_Nodes_part_leaders T) := by
  refine T.m_Nodes_part_leaders.F.ok sc_Nodes_part_leaders (fun vs H Q E h => by obtain ⟨_, _, _, _, _, _, _, rfl, _⟩ := h; rfl) (fun cdv A outer s H vs Q E hr h => ?_)
  refine ⟨_, (pss_one (ps_ret (pe_lc (own := [("part", 2)]) rfl sc_Nodes_part_leaders.nd (pi_tup (pe_ix ix_list (pe_fld (pv 0) rfl) (pv 1) (fun _ _ => rfl))) (blkOk_by (N := N_Nodes_part_leaders) (sc := defScope s_Nodes_part_leaders) (by decide +kernel)) (fun _ _ _ _ _ => (pg_name (i := 2) sc_Nodes_part_leaders.nd rfl (Or.inl rfl))) (fun _ _ _ _ _ => pts_nil) (fun _ _ _ _ _ => (pe_meth (pv 0) T.cl_Nodes T.m_Nodes_leader.m (ok_Nodes_leader T) (hr.mono (by decide)) T.m_Nodes_leader.b .nil pass0 (pa_cons (pv 2) pa_nil)))))), ?_⟩
  obtain ⟨a, dx, sa, pa, ja, nd, i, rfl, hN, hL, hi, hpl, hpz, hk⟩ := h
  obtain ⟨ps, hp1, hp2⟩ := hN.p
  obtain ⟨q, hq1, hq2⟩ := paired_get hp2 (Nd.pt_get hL.lp hi)
  have hq1' : (ps.map V.ref)[i]? = some (.ref q) := by simp [hq1]
  refine ⟨_, rfl, a, _, dx, _, _, rfl, hN.o, T.cl_Nodes, T.n_Nodes_parts, nF_parts _ _ _, _, rfl, _, _, _, _, rfl, rfl, SqL.of hp1, atI_nat' hq1', _, rfl, ⟨_, hq2⟩, fun D hD => ?_⟩
  refine lc_tup (K := K) (a := q) (xs := nvs (nd.pt i)) (fun t H' => H' = upd H D (.lst (nvs (((nd.pt i).take t).map (Shp.ldr nd.J))))) (by simp [nvs]) (fun t H' _ e => by rw [e]; exact same_seqT (same_new hD) hq2) ?_ ?_
  · rintro t y H' hy rfl
    obtain ⟨x, hx, rfl⟩ : ∃ x, (nd.pt i)[t]? = some x ∧ y = V.int (x : Int) := by
      simp only [nvs, List.getElem?_map, Option.map_eq_some_iff] at hy
      obtain ⟨x, h1, h2⟩ := hy
      exact ⟨x, h1, h2.symm⟩
    have hN' := hN.same (same_new (o := .lst (nvs (((nd.pt i).take t).map (Shp.ldr nd.J)))) hD)
    have hx2 : x < nd.n := hpl x (List.mem_of_getElem? hx)
    have ht : t < (nd.pt i).length := (List.getElem?_eq_some_iff.mp hx).1
    refine ⟨rfl, ?_⟩
    refine ⟨_, rfl, a, dx, _, rfl, hN'.o, nF_no (by decide +kernel) (by decide +kernel) (by decide +kernel) _ _ _, _, rfl, ?_⟩
    refine ⟨a, dx, sa, pa, ja, nd, x, Shp.ldr nd.J x, rfl, hN', hL, hx2, hL.ldr x, ?_⟩
    refine ⟨_, upd_same, small_lt (m := 1000) (by rw [nvs_len, List.length_map, List.length_take]; omega), ?_⟩
    rw [upd_upd, take_more' hx, List.map_append, nvs_app]
    rfl
  · rintro H' rfl
    rw [nvs_len, List.take_length]
    exact hk D hD
end
end Shp
end
section
namespace Shp
open Vapcma
section
variable {k : Nat → Nat} {pt : Nat → List Nat} {n : Nat} {J : Nat → Nat} {ld : Nat → Nat}
/-- from a leader to its parts' leaders, one step and more -/
inductive Desc (pt : Nat → List Nat) (ld : Nat → Nat) : Nat → Nat → Prop
  | one {b p : Nat} (h : p ∈ pt b) : Desc pt ld b (ld p)
  | more {b x p : Nat} (h : Desc pt ld b x) (hp : p ∈ pt x) : Desc pt ld b (ld p)
theorem Desc.trans {a b c : Nat} (h : Desc pt ld a b) (h' : Desc pt ld b c) : Desc pt ld a c := by
  induction h' with
  | one hp => exact .more h hp
  | more _ hp ih => exact .more ih hp
theorem tr_part (wf : WFn k pt n) (hl : ∀ i, Lead J i (ld i)) {b p : Nat} {f : Form} (hb : J b = b) (hn : b < n) (hp : p ∈ pt b) (t : Tr k pt J b f) : ∃ g, Tr k pt J (ld p) g ∧ size g < size f := by
  have up : ∀ {q : Nat} {g : Form}, Tr k pt J q g → Tr k pt J (ld q) g := fun {q g} t => by
    have := hl q
    exact t.lead this (.here this.fix)
  cases t with
  | var h hk =>
    obtain rfl := h.same (.here hb)
    rcases wf _ hn with ⟨h0, h1⟩ | ⟨h0, a, c, h1, ha, hc⟩ | ⟨h0, a, h1, ha⟩
    · rw [h1] at hp; cases hp
    · omega
    · omega
  | @imp _ _ a c f g h hk hpt ta tb =>
    obtain rfl := h.same (.here hb)
    rw [hpt] at hp
    simp only [List.mem_cons, List.not_mem_nil, or_false] at hp
    rcases hp with rfl | rfl
    · exact ⟨f, up ta, by simp only [size]; omega⟩
    · exact ⟨g, up tb, by simp only [size]; omega⟩
  | @neg _ _ a f h hk hpt ta =>
    obtain rfl := h.same (.here hb)
    rw [hpt] at hp
    simp only [List.mem_cons, List.not_mem_nil, or_false] at hp
    subst hp
    exact ⟨f, up ta, by simp only [size]; omega⟩
theorem tr_desc (wf : WFn k pt n) (hl : ∀ i, Lead J i (ld i)) (bj : ∀ i, i < n → J i < n) {b x : Nat} (h : Desc pt ld b x) : ∀ {f : Form}, J b = b → b < n → Tr k pt J b f → ∃ g, Tr k pt J x g ∧ size g < size f ∧ J x = x ∧ x < n := by
  have part_lt : ∀ {b p : Nat}, b < n → p ∈ pt b → p < n := fun {b p} hn hp => by
    rcases wf b hn with ⟨h0, h1⟩ | ⟨h0, a, c, h1, ha, hc⟩ | ⟨h0, a, h1, ha⟩
    · rw [h1] at hp; cases hp
    · rw [h1] at hp; simp only [List.mem_cons, List.not_mem_nil, or_false] at hp; omega
    · rw [h1] at hp; simp only [List.mem_cons, List.not_mem_nil, or_false] at hp; omega
  induction h with
  | @one p hp =>
    intro f hb hn t
    obtain ⟨g, h1, h2⟩ := tr_part wf hl hb hn hp t
    exact ⟨g, h1, h2, (hl p).fix, (hl p).lt bj (part_lt hn hp)⟩
  | @more x p _ hp ih =>
    intro f hb hn t
    obtain ⟨g, h1, h2, h3, h4⟩ := ih hb hn t
    obtain ⟨g', h5, h6⟩ := tr_part wf hl h3 h4 hp h1
    exact ⟨g', h5, by omega, (hl p).fix, (hl p).lt bj (part_lt h4 hp)⟩
theorem no_cycle (wf : WFn k pt n) (hl : ∀ i, Lead J i (ld i)) (bj : ∀ i, i < n → J i < n) {b : Nat} (h : Desc pt ld b b) (hb : J b = b) (hn : b < n) {f : Form} (t : Tr k pt J b f) : False := by
  obtain ⟨g, h1, h2, _⟩ := tr_desc wf hl bj h hb hn t
  rw [t.same h1] at h2
  omega
/-- counting: what waits, what is counted, what is begun -/
structure CSt (k : Nat → Nat) (pt : Nat → List Nat) (n : Nat) (J : Nat → Nat) (ld : Nat → Nat) (top : Nat) (W : List Nat) (cf : Nat → Option Nat) (bf : Nat → Bool) : Prop where
  w : ∀ x ∈ W, x < n ∧ J x = x ∧ (x = top ∨ Desc pt ld top x)
  c : ∀ x c, cf x = some c → ∃ f, Tr k pt J x f ∧ c = size f
  cl : ∀ x c, cf x = some c → ∀ p ∈ pt x, (cf (ld p)).isSome
  t : top ∈ W ∨ (cf top).isSome
  b : ∀ b, bf b = true → b < n
  i : ∀ b, bf b = true → cf b = none → ∃ pre post, W = pre ++ b :: post ∧ (∀ p ∈ pt b, cf (ld p) = none → ld p ∈ post) ∧ ∀ x ∈ post, Desc pt ld b x
theorem CSt.start {top : Nat} (h : top < n) (hj : J top = top) : CSt k pt n J ld top [top] (fun _ => none) (fun _ => false) where
  w x hx := by simp only [List.mem_singleton] at hx; subst hx; exact ⟨h, hj, .inl rfl⟩
  c _ _ h := by cases h
  cl _ _ h := by cases h
  t := .inl (by simp)
  b _ h := by cases h
  i _ h := by cases h
variable {top here : Nat} {W : List Nat} {cf : Nat → Option Nat} {bf : Nat → Bool}
theorem part_lt (wf : WFn k pt n) {b p : Nat} (hn : b < n) (hp : p ∈ pt b) : p < n := by
  rcases wf b hn with ⟨h0, h1⟩ | ⟨h0, a, c, h1, ha, hc⟩ | ⟨h0, a, h1, ha⟩
  · rw [h1] at hp; cases hp
  · rw [h1] at hp; simp only [List.mem_cons, List.not_mem_nil, or_false] at hp; omega
  · rw [h1] at hp; simp only [List.mem_cons, List.not_mem_nil, or_false] at hp; omega
/-- all parts are counted: so is this one -/
theorem CSt.count (wf : WFn k pt n) (hl : ∀ i, Lead J i (ld i)) (S : CSt k pt n J ld top (W ++ [here]) cf bf) {vs : List Nat} (hv : (pt here).map (fun p => cf (ld p)) = vs.map some) :
    CSt k pt n J ld top W (fun x => if x = here then some (1 + vs.sum) else cf x) bf := by
  obtain ⟨hn, hj, _⟩ := S.w here (by simp)
  have down : ∀ {q : Nat} {g : Form}, Tr k pt J (ld q) g → Tr k pt J q g := fun {q g} t => by
    have := hl q
    exact t.lead (.here this.fix) this
  have val : ∃ f, Tr k pt J here f ∧ 1 + vs.sum = size f := by
    rcases wf here hn with ⟨h0, h1⟩ | ⟨h0, a, b, h1, ha, hb⟩ | ⟨h0, a, h1, ha⟩
    · rw [h1] at hv
      cases vs with
      | nil => exact ⟨_, .var (.here hj) h0, rfl⟩
      | cons v vs => cases hv
    · rw [h1] at hv
      obtain ⟨x, y, rfl⟩ : ∃ x y, vs = [x, y] := by rcases vs with _ | ⟨x, _ | ⟨y, _ | _⟩⟩ <;> simp_all
      simp only [List.map_cons, List.map_nil, List.cons.injEq, and_true] at hv
      obtain ⟨f, h2, h3⟩ := S.c _ _ hv.1
      obtain ⟨g, h4, h5⟩ := S.c _ _ hv.2
      refine ⟨_, .imp (.here hj) h0 h1 (down h2) (down h4), ?_⟩
      simp only [List.sum_cons, List.sum_nil, size]; omega
    · rw [h1] at hv
      obtain ⟨x, rfl⟩ : ∃ x, vs = [x] := by rcases vs with _ | ⟨x, _ | _⟩ <;> simp_all
      simp only [List.map_cons, List.map_nil, List.cons.injEq, and_true] at hv
      obtain ⟨f, h2, h3⟩ := S.c _ _ hv
      refine ⟨_, .neg (.here hj) h0 h1 (down h2), ?_⟩
      simp only [List.sum_cons, List.sum_nil, size]; omega
  have hp : ∀ p ∈ pt here, (cf (ld p)).isSome := fun p hp => by
    have : cf (ld p) ∈ (pt here).map (fun p => cf (ld p)) := List.mem_map_of_mem hp
    rw [hv] at this
    obtain ⟨v, _, e⟩ := List.mem_map.mp this
    rw [← e]; rfl
  have more : ∀ x, (cf x).isSome → ((fun x => if x = here then some (1 + vs.sum) else cf x) x).isSome := fun x h => by
    dsimp only
    split
    · rfl
    · exact h
  exact {
    w := fun x hx => S.w x (List.mem_append.mpr (.inl hx))
    c := fun x c h => by
      split at h
      · rename_i e
        cases h
        rw [e]
        exact val
      · exact S.c x c h
    cl := fun x c h p hp' => by
      refine more _ ?_
      split at h
      · rename_i e
        rw [e] at hp'
        exact hp p hp'
      · exact S.cl x c h p hp'
    t := by
      rcases S.t with h | h
      · rcases List.mem_append.mp h with h | h
        · exact .inl h
        · simp only [List.mem_singleton] at h
          refine .inr ?_
          simp [h]
      · exact .inr (more _ h)
    b := S.b
    i := fun b hb hc => by
      split at hc
      · cases hc
      · rename_i ne
        obtain ⟨pre, post, e, h1, h2⟩ := S.i b hb hc
        rcases List.eq_nil_or_concat post with rfl | ⟨post', y, rfl⟩
        · exfalso
          have := congrArg List.getLast? e
          simp at this
          exact ne this.symm
        · rw [List.concat_eq_append, ← List.cons_append, ← List.append_assoc] at e
          obtain ⟨e1, e2⟩ := List.append_inj' e rfl
          simp only [List.cons.injEq, and_true] at e2
          subst e2
          refine ⟨pre, post', e1, fun p hp' hn' => ?_, fun x hx => h2 x (by simp [hx])⟩
          split at hn'
          · cases hn'
          · rename_i ne2
            have := h1 p hp' hn'
            rw [List.concat_eq_append, List.mem_append, List.mem_singleton] at this
            exact this.elim id fun z => absurd z ne2 }
/-- begun: its parts that aren't counted wait above it -/
theorem CSt.begin (wf : WFn k pt n) (hl : ∀ i, Lead J i (ld i)) (bj : ∀ i, i < n → J i < n) (S : CSt k pt n J ld top (W ++ [here]) cf bf) (hb : bf here = false) :
    CSt k pt n J ld top (W ++ [here] ++ ((pt here).map ld).filter (fun x => (cf x).isNone)) cf (fun x => if x = here then true else bf x) := by
  obtain ⟨hn, hj, hd⟩ := S.w here (by simp)
  have dsc : ∀ x ∈ ((pt here).map ld).filter (fun x => (cf x).isNone), Desc pt ld here x ∧ x < n ∧ J x = x := fun x hx => by
    rw [List.mem_filter] at hx
    obtain ⟨p, hp, rfl⟩ := List.mem_map.mp hx.1
    exact ⟨.one hp, (hl p).lt bj (part_lt wf hn hp), (hl p).fix⟩
  exact {
    w := fun x hx => by
      rcases List.mem_append.mp hx with hx | hx
      · exact S.w x hx
      · obtain ⟨h1, h2, h3⟩ := dsc x hx
        refine ⟨h2, h3, .inr ?_⟩
        rcases hd with rfl | hd
        · exact h1
        · exact hd.trans h1
    c := S.c
    cl := S.cl
    t := by
      rcases S.t with h | h
      · exact .inl (List.mem_append.mpr (.inl h))
      · exact .inr h
    b := fun b h => by
      split at h
      · rename_i e; rw [e]; exact hn
      · exact S.b b h
    i := fun b h hc => by
      split at h
      · rename_i e
        subst e
        refine ⟨W, _, by rw [List.append_assoc]; rfl, fun p hp hc' => ?_, fun x hx => (dsc x hx).1⟩
        rw [List.mem_filter]
        exact ⟨List.mem_map_of_mem hp, by rw [hc']; rfl⟩
      · rename_i ne
        obtain ⟨pre, post, e, h1, h2⟩ := S.i b h hc
        have hm : here ∈ post := by
          rcases List.eq_nil_or_concat post with rfl | ⟨post', y, rfl⟩
          · exfalso
            have := congrArg List.getLast? e
            simp at this
            exact ne this.symm
          · rw [List.concat_eq_append, ← List.cons_append, ← List.append_assoc] at e
            obtain ⟨_, e2⟩ := List.append_inj' e rfl
            simp only [List.cons.injEq, and_true] at e2
            rw [e2, List.concat_eq_append]; simp
        refine ⟨pre, post ++ ((pt here).map ld).filter (fun x => (cf x).isNone), by rw [e]; simp, fun p hp hc' => List.mem_append.mpr (.inl (h1 p hp hc')), fun x hx => ?_⟩
        rcases List.mem_append.mp hx with hx | hx
        · exact h2 x hx
        · exact (h2 here hm).trans (dsc x hx).1 }
/-- met while begun, with parts that aren't counted: it stands within itself -/
theorem CSt.cyc (wf : WFn k pt n) (hl : ∀ i, Lead J i (ld i)) (bj : ∀ i, i < n → J i < n) (S : CSt k pt n J ld top (W ++ [here]) cf bf) (hb : bf here = true) {p : Nat} (hp : p ∈ pt here) (hc : cf (ld p) = none)
    (ht : J top = top) (hn : top < n) : ∀ f, ¬ Tr k pt J top f := by
  intro f t
  obtain ⟨hn', hj, hd⟩ := S.w here (by simp)
  have th : ∃ g, Tr k pt J here g := by
    rcases hd with rfl | hd
    · exact ⟨f, t⟩
    · obtain ⟨g, h1, _⟩ := tr_desc wf hl bj hd ht hn t
      exact ⟨g, h1⟩
  obtain ⟨g, hg⟩ := th
  have hcn : cf here = none := by
    cases e : cf here with
    | none => rfl
    | some c =>
      have := S.cl here c e p hp
      rw [hc] at this
      cases this
  obtain ⟨pre, post, e, h1, h2⟩ := S.i here hb hcn
  have hm := h1 p hp hc
  have : here ∈ post := by
    rcases List.eq_nil_or_concat post with rfl | ⟨post', y, rfl⟩
    · cases hm
    · rw [List.concat_eq_append, ← List.cons_append, ← List.append_assoc] at e
      obtain ⟨_, e2⟩ := List.append_inj' e rfl
      simp only [List.cons.injEq, and_true] at e2
      rw [e2, List.concat_eq_append]; simp
  exact no_cycle wf hl bj (h2 here this) hj hn' hg
theorem CSt.done (S : CSt k pt n J ld top [] cf bf) : ∃ f, Tr k pt J top f ∧ cf top = some (size f) := by
  rcases S.t with h | h
  · cases h
  · obtain ⟨c, e⟩ := Option.isSome_iff_exists.mp h
    obtain ⟨f, h1, h2⟩ := S.c _ _ e
    exact ⟨f, h1, by rw [e, h2]⟩
end
end Shp
end
section
set_option maxRecDepth 100000
set_option maxHeartbeats 4000000
namespace Shp
open PySem PySem.Spec PyProof.Rows L2
open Vapcma (Form)
section
variable {P : Program} {w : World} {K : PySem.W.Frag} {mg : Str → Option Value} {base : Heap}
theorem putK_le (c : List (Key × V)) (k : Key) (x : V) : (putK c k x).length ≤ c.length + 1 := by
  unfold putK
  split
  · rw [List.length_map]; omega
  · rw [List.length_append, List.length_singleton]; omega
def unbegun (bf : Nat → Bool) (n : Nat) : Nat := ((List.range n).filter fun i => !bf i).length
theorem filter_lt {α : Type} {p q : α → Bool} : ∀ {l : List α} {x : α}, x ∈ l → (∀ y, q y = true → p y = true) → p x = true → q x = false → (l.filter q).length < (l.filter p).length
  | y :: l, x, hx, h, hp, hq => by
    have le : ∀ l : List α, (l.filter q).length ≤ (l.filter p).length := fun l => by
      induction l with
      | nil => exact Nat.le_refl _
      | cons z l ih =>
        rw [List.filter_cons, List.filter_cons]
        by_cases c : q z = true
        · rw [if_pos c, if_pos (h z c)]; simp; omega
        · rw [if_neg c]; split <;> (try simp only [List.length_cons]) <;> omega
    rw [List.filter_cons, List.filter_cons]
    rcases List.mem_cons.mp hx with rfl | hx
    · rw [hq, hp, if_neg Bool.false_ne_true, if_pos rfl]
      have := le l; simp; omega
    · have ih := filter_lt hx h hp hq
      by_cases c : q y = true
      · rw [if_pos c, if_pos (h y c)]; simp; omega
      · rw [if_neg c]; split <;> (try simp only [List.length_cons]) <;> omega
theorem unbegun_lt {bf : Nat → Bool} {n here : Nat} (hb : bf here = false) (hn : here < n) : unbegun (fun x => if x = here then true else bf x) n < unbegun bf n := by
  refine filter_lt (x := here) (List.mem_range.mpr hn) (fun y h => ?_) (by simp [hb]) (by simp)
  by_cases c : y = here
  · subst c; simp [hb]
  · simpa [c] using h
theorem unbegun_all (n : Nat) : unbegun (fun _ => false) n = n := by
  unfold unbegun
  rw [List.filter_eq_self.mpr (by simp), List.length_range]
def sp_Nodes_sign_count (T : Top K mg) : Sp := fun vs H Q _ => ∃ (a dx sa pa ja : Addr) (nd : Nd) (i : Nat),
  vs = [.ref a, .int (i : Int)] ∧ NAt K T.C_Nodes H a dx sa pa ja nd ∧ nd.Led ∧ WFn nd.k nd.pt nd.n ∧ i < nd.n ∧ nd.n ≤ 10000 ∧
  (∀ f, Tr nd.k nd.pt nd.J i f → ∀ H', Same H H' → Q (.int (Vapcma.size f : Int)) H') ∧ ((∀ f, ¬ Tr nd.k nd.pt nd.J i f) → ∀ H', Same H H' → Q .non H')
/-- what is kept between two nodes -/
structure CountSt (nd : Nd) (H H' : Hp) (c bd L : Addr) (top m : Nat) (W : List Nat) (cf : Nat → Option Nat) (bf : Nat → Bool) (kvs kvb : List (Key × V)) : Prop where
  sm : Same H H'
  c : H' c = some (.dK kvs)
  b : H' bd = some (.dK kvb)
  l : H' L = some (.lst (nvs W))
  cv : ∀ x : Nat, valV kvs (.inl (x : Int)) = (cf x).map fun (z : Nat) => V.int (z : Int)
  bv : ∀ x : Nat, (valV kvb (.inl (x : Int))).isSome = bf x
  st : CSt nd.k nd.pt nd.n nd.J (ldr nd.J) top W cf bf
  me : m = 3 * unbegun bf nd.n + W.length
  kz : kvs.length + m ≤ 3 * nd.n + 1
  bz : kvb.length + m ≤ 3 * nd.n + 1
theorem ok_Nodes_sign_count (T : Top K mg) : FnOk P w K mg base CX0 3 T.m_Nodes_sign_count.f T.m_Nodes_sign_count.fd P_Nodes_sign_count (sp_Nodes_sign_count T) := by
  refine T.m_Nodes_sign_count.F.ok sc_Nodes_sign_count (fun vs H Q E h => by obtain ⟨_, _, _, _, _, _, _, rfl, _⟩ := h; rfl) (fun cdv A outer s H vs Q E hr h => ?_)
  refine ⟨_, (pss_cons (ps_set (i := 2) sc_Nodes_sign_count.nd rfl (Or.inl rfl) (pe_meth (pv 0) T.cl_Nodes T.m_Nodes_leader.m (ok_Nodes_leader T) (hr.mono (by decide)) T.m_Nodes_leader.b .nil pass0 (pa_cons (pv 1) pa_nil)))
    (pss_cons (ps_set (i := 3) sc_Nodes_sign_count.nd rfl (Or.inr rfl) pe_dnewK)
    (pss_cons (ps_set (i := 4) sc_Nodes_sign_count.nd rfl (Or.inl rfl) pe_dnewK)
    (pss_cons (ps_set (i := 5) sc_Nodes_sign_count.nd rfl (Or.inl rfl) (pe_lst (pa_cons (pv 2) pa_nil)))
    (pss_cons (ps_while PassesOwn.never (pt_cmpR op_gt (pe_callB call_len (by rfl) T.b_len PySem.boot_len (pa_cons (pv 5) pa_nil)) pe_int (nomark _)) (pss_cons (ps_set (i := 6) sc_Nodes_sign_count.nd rfl (Or.inl rfl) (pe_ix ix_list (pv 5) (pe_un un_neg pe_int) (fun _ _ => rfl)))
      (pss_cons (ps_set (i := 7) sc_Nodes_sign_count.nd rfl (Or.inl rfl) (pe_meth (pv 0) T.cl_Nodes T.m_Nodes_part_leaders.m (ok_Nodes_part_leaders T) (hr.mono (by decide)) T.m_Nodes_part_leaders.b .nil pass0 (pa_cons (pv 6) pa_nil)))
      (pss_cons (ps_setLc (i := 8) (own := [("part", 9)]) rfl sc_Nodes_sign_count.nd rfl rfl (sw_true rfl rfl rfl (by decide +kernel)) (pi_list (pv 7)) (blkOk_by (N := N_Nodes_sign_count) (sc := defScope s_Nodes_sign_count) (by decide +kernel)) (fun _ _ _ _ _ => (pg_name (i := 9) sc_Nodes_sign_count.nd rfl (Or.inl rfl))) (fun _ _ _ _ _ => (pts_one (pt_cmp (pc_dnotin (hu_of hr) (pv 9) (pv 3))))) (fun _ _ _ _ _ => (pv 9)))
      (pss_one (ps_if (pt_cmpR op_eq (pe_callB call_len (by rfl) T.b_len PySem.boot_len (pa_cons (pv 8) pa_nil)) pe_int (nomark _)) (pss_cons (ps_dput (hu_of hr) (pv 3) (pv 6) (pe_op op_add pe_int (pe_callB (cr_sum rfl) (by rfl) T.b_sum (by decide +kernel) (pa_cons (pe_lc (own := [("part", 9)]) rfl sc_Nodes_sign_count.nd (pi_list (pv 7)) (blkOk_by (N := N_Nodes_sign_count) (sc := defScope s_Nodes_sign_count) (by decide +kernel)) (fun _ _ _ _ _ => (pg_name (i := 9) sc_Nodes_sign_count.nd rfl (Or.inl rfl))) (fun _ _ _ _ _ => pts_nil) (fun _ _ _ _ _ => (pe_dget (hu_of hr) (pv 3) (pv 9) (fun _ _ => rfl)))) pa_nil))) rfl)
        (pss_one (ps_expr (pe_bm0 PySem.F.plainAttrs_list PySem.F.slot_list_pop PySem.F.type_list_pop mt_pop (pv 5))))) (pss_one (ps_if (pt_cmp (pc_din (hu_of hr) (pv 6) (pv 4))) (pss_one (ps_ret pe_non)) (pss_cons (ps_dput (hu_of hr) (pv 4) (pv 6) pe_bl rfl)
          (pss_one (ps_expr (pe_bm PySem.F.plainAttrs_list PySem.F.slot_list_extend PySem.F.type_list_extend mt_extend (pv 5) (pa_cons (pv 8) pa_nil)))))))))))))
    (pss_one (ps_ret (pe_dget (hu_of hr) (pv 3) (pv 2) (fun _ _ => rfl))))))))), ?_⟩
  obtain ⟨a, dx, sa, pa, ja, nd, i, rfl, hN, hL, wf, hi, hz, kS, kN⟩ := h
  have hled := hL.ldr i
  have htop : ldr nd.J i < nd.n := hL.ldr_lt hi
  have hfix : nd.J (ldr nd.J i) = ldr nd.J i := hled.fix
  generalize ht : ldr nd.J i = top at *
  have hms : ∀ m, m ≤ 40000 → m < sizeLine := fun m h => small_lt h
  refine ⟨_, rfl, a, dx, _, rfl, hN.o, nF_no (by decide +kernel) (by decide +kernel) (by decide +kernel) _ _ _, _, rfl, ?_⟩
  refine ⟨a, dx, sa, pa, ja, nd, i, top, rfl, hN, hL, hi, hled, ?_⟩
  intro c hc
  intro bd hbd
  refine ⟨_, rfl, (show 1 ≤ sizeLine by decide), fun L hL0 => ?_⟩
  have nbd : H bd = none := (same_new hc).free hbd
  have nL : H L = none := ((same_new hc).trans (same_new hbd)).free hL0
  have cb : c ≠ bd := by rintro rfl; rw [upd_same] at hbd; cases hbd
  have bL : bd ≠ L := by rintro rfl; rw [upd_same] at hL0; cases hL0
  have cL : c ≠ L := by rintro rfl; rw [upd_ne cb, upd_same] at hL0; cases hL0
  refine ⟨fun m σ H' => ∃ (W : List Nat) (cf : Nat → Option Nat) (bf : Nat → Bool) (kvs kvb : List (Key × V)) (v6 v7 v8 v9 : Option V),
    σ = [some (.ref a), some (.int (i : Int)), some (.int (top : Int)), some (.ref c), some (.ref bd), some (.ref L), v6, v7, v8, v9] ∧ CountSt nd H H' c bd L top m W cf bf kvs kvb,
    ⟨3 * unbegun (fun _ => false) nd.n + 1, [top], fun _ => none, fun _ => false, [], [], none, none, none, none, rfl, ?_⟩, ?_⟩
  · refine ⟨((same_new hc).trans (same_new hbd)).trans (same_new hL0), ?_, ?_, ?_, fun x => rfl, fun x => rfl, CSt.start htop hfix, rfl, ?_, ?_⟩
    · show (upd (upd (upd H c (.dK [])) bd (.dK [])) L _) c = _
      rw [upd_ne cL, upd_ne cb, upd_same]
    · show (upd (upd (upd H c (.dK [])) bd (.dK [])) L _) bd = _
      rw [upd_ne bL, upd_same]
    · show (upd (upd (upd H c (.dK [])) bd (.dK [])) L _) L = _
      rw [upd_same]; rfl
    · rw [unbegun_all]; simp
    · rw [unbegun_all]; simp
  rintro m σ H' ⟨W, cf, bf, kvs, kvb, v6, v7, v8, v9, rfl, S⟩
  have hW := S.l
  refine ⟨_, rfl, _, _, rfl, .inl ⟨_, SqL.of hW, rfl⟩, _, _, rfl, rfl, _, rfl, ?_⟩
  rcases List.eq_nil_or_concat W with rfl | ⟨W1, here, rfl⟩
  · refine iteF (by simp [nvs]) ?_
    obtain ⟨f, h1, h2⟩ := S.st.done
    have hg := DGet.k (k := Sum.inl (top : Int)) S.c
    rw [S.cv, h2] at hg
    refine ⟨_, rfl, _, rfl, c, _, rfl, hg, ?_⟩
    refine kS f ?_ H' S.sm
    exact h1.lead (.here hfix) hled
  · rw [List.concat_eq_append] at S hW
    refine iteT (by simp [nvs]) ?_
    refine ⟨_, fun _ _ h => h, ?_⟩
    have hlast : atI (nvs (W1 ++ [here])) (-1) = some (.int (here : Int)) := by rw [nvs_app]; exact atI_last _ _
    obtain ⟨hn, hj, _⟩ := S.st.w here (by simp)
    have hN' := hN.same S.sm
    have hme := S.me
    have hkz := S.kz
    have hbz := S.bz
    rw [List.length_append, List.length_singleton] at hme
    have hpn : ∀ x ∈ nd.pt here, x < nd.n := fun x hx => part_lt wf hn hx
    have hp3 : (nd.pt here).length ≤ 2 := by
      rcases wf here hn with ⟨h0, h1⟩ | ⟨h0, a', b', h1, _, _⟩ | ⟨h0, a', h1, _⟩ <;> rw [h1] <;> simp
    refine ⟨_, rfl, _, rfl, _, _, _, _, rfl, rfl, SqL.of hW, hlast, ?_⟩
    refine ⟨_, rfl, a, dx, _, rfl, hN'.o, nF_no (by decide +kernel) (by decide +kernel) (by decide +kernel) _ _ _, _, rfl, ?_⟩
    refine ⟨a, dx, sa, pa, ja, nd, here, rfl, hN', hL, hn, hpn, by omega, fun p hp => ?_⟩
    generalize hP : (nd.pt here).map (ldr nd.J) = Ps
    have hPz : Ps.length ≤ 2 := by rw [← hP, List.length_map]; exact hp3
    have sm1 : Same H' (upd H' p (.lst (nvs Ps))) := same_new hp
    have hc1 : (upd H' p (.lst (nvs Ps))) c = some (.dK kvs) := sm1 _ _ S.c
    refine ⟨_, rfl, p, rfl, ⟨_, SqL.of upd_same⟩, fun D hD => ?_⟩
    refine lc_list (K := K) (a := p) (xs := nvs Ps) (fun t H2 => H2 = upd (upd H' p (.lst (nvs Ps))) D (.lst (nvs ((Ps.take t).filter fun x => (cf x).isNone)))) (by simp [nvs]) (fun t H2 _ e => by rw [e]; exact same_seqL (same_new hD) (SqL.of upd_same)) ?_ ?_
    · rintro t y H2 hy rfl
      obtain ⟨x, hx, rfl⟩ : ∃ x, Ps[t]? = some x ∧ y = V.int (x : Int) := by
        simp only [nvs, List.getElem?_map, Option.map_eq_some_iff] at hy
        obtain ⟨x, h1, h2⟩ := hy
        exact ⟨x, h1, h2.symm⟩
      have sm2 := same_new (o := .lst (nvs ((Ps.take t).filter fun x => (cf x).isNone))) hD
      have hg := DGet.k (k := Sum.inl (x : Int)) (sm2 _ _ hc1)
      rw [S.cv] at hg
      refine ⟨rfl, _, rfl, _, rfl, c, _, rfl, hg, _, rfl, ?_⟩
      cases e : cf x with
      | none =>
        refine iteT rfl ?_
        refine ⟨_, rfl, _, upd_same, small_lt (m := 1000) ?_, ?_⟩
        · rw [nvs_len]
          have h1 := List.length_filter_le (fun x => (cf x).isNone) (Ps.take t)
          have h2 := List.length_take_le' t Ps
          omega
        · rw [upd_upd, take_more' hx, List.filter_append, nvs_app]
          simp [e, nvs]
      | some z =>
        refine iteF rfl ?_
        show upd _ _ _ = upd _ _ _
        rw [take_more' hx, List.filter_append]
        simp [e]
    · rintro H2 rfl
      rw [nvs_len, List.take_length]
      generalize hM : Ps.filter (fun x => (cf x).isNone) = Ms
      have hMz : Ms.length ≤ 2 := by rw [← hM]; have := List.length_filter_le (fun x => (cf x).isNone) Ps; omega
      have sm2 : Same H' (upd (upd H' p (.lst (nvs Ps))) D (.lst (nvs Ms))) := sm1.trans (same_new hD)
      have hD2 : (upd (upd H' p (.lst (nvs Ps))) D (.lst (nvs Ms))) D = some (.lst (nvs Ms)) := upd_same
      have hp2 : (upd (upd H' p (.lst (nvs Ps))) D (.lst (nvs Ms))) p = some (.lst (nvs Ps)) := same_new hD _ _ upd_same
      generalize hH2 : upd (upd H' p (.lst (nvs Ps))) D (.lst (nvs Ms)) = H2 at *
      refine ⟨_, rfl, _, _, rfl, .inl ⟨_, SqL.of hD2, rfl⟩, rfl, _, rfl, ?_⟩
      by_cases hM0 : Ms = []
      · refine iteT (by simp [hM0, nvs]) ?_
        subst hM0
        -- all parts are counted
        have hall : ∀ x ∈ Ps, ∃ v, cf x = some v := fun x hx => by
          cases e : cf x with
          | some v => exact ⟨v, rfl⟩
          | none =>
            have : x ∈ Ps.filter (fun x => (cf x).isNone) := List.mem_filter.mpr ⟨hx, by rw [e]; rfl⟩
            rw [hM] at this
            cases this
        have hvs : ∃ vs : List Nat, Ps.map cf = vs.map some := by
          clear hP hp2 hPz hM sm1 hH2 hc1 sm2 hD2 hD
          revert hall
          induction Ps with
          | nil => exact fun _ => ⟨[], rfl⟩
          | cons x r ih =>
            intro h
            obtain ⟨vs, e⟩ := ih fun y hy => h y (List.mem_cons_of_mem _ hy)
            obtain ⟨v, e2⟩ := h x (by simp)
            exact ⟨v :: vs, by simp [e, e2]⟩
        obtain ⟨vs, hvs⟩ := hvs
        have hvs' : (nd.pt here).map (fun p => cf (ldr nd.J p)) = vs.map some := by rw [← hvs, ← hP, List.map_map]; rfl
        have hc2 : H2 c = some (.dK kvs) := sm2 _ _ S.c
        refine ⟨_, rfl, p, rfl, ⟨_, SqL.of hp2⟩, fun D2 hD2' => ?_⟩
        refine lc_list (K := K) (a := p) (xs := nvs Ps) (fun t H3 => H3 = upd H2 D2 (.lst (nvs (vs.take t)))) (by simp [nvs]) (fun t H3 _ e => by rw [e]; exact same_seqL (same_new hD2') (SqL.of hp2)) ?_ ?_
        · rintro t y H3 hy rfl
          obtain ⟨x, hx, rfl⟩ : ∃ x, Ps[t]? = some x ∧ y = V.int (x : Int) := by
            simp only [nvs, List.getElem?_map, Option.map_eq_some_iff] at hy
            obtain ⟨x, h1, h2⟩ := hy
            exact ⟨x, h1, h2.symm⟩
          obtain ⟨v, hv1, hv2⟩ : ∃ v, cf x = some v ∧ vs[t]? = some v := by
            have := congrArg (fun l => l[t]?) hvs
            simp only [List.getElem?_map, hx, Option.map_some] at this
            cases e : vs[t]? with
            | none => rw [e] at this; cases this
            | some v => rw [e] at this; exact ⟨v, Option.some.inj this, rfl⟩
          have hg := DGet.k (k := Sum.inl (x : Int)) (same_new (o := .lst (nvs (vs.take t))) hD2' _ _ hc2)
          rw [S.cv, hv1] at hg
          refine ⟨rfl, _, rfl, _, rfl, c, _, rfl, hg, ?_⟩
          refine ⟨_, upd_same, small_lt (m := 1000) ?_, ?_⟩
          · rw [nvs_len]
            have h2 := List.length_take_le t vs
            have h3 := congrArg List.length hvs
            rw [List.length_map, List.length_map] at h3
            have h4 := List.length_take_le' t vs
            omega
          · rw [upd_upd, take_more' hv2, nvs_app]; rfl
        · rintro H3 rfl
          have hlen : vs.length = Ps.length := by
            have h3 := congrArg List.length hvs
            rw [List.length_map, List.length_map] at h3
            exact h3.symm
          rw [nvs_len, ← hlen, List.take_length]
          have hD3 : (upd H2 D2 (.lst (nvs vs))) D2 = some (.lst (nvs vs)) := upd_same
          have sm3 : Same H2 (upd H2 D2 (.lst (nvs vs))) := same_new hD2'
          generalize hH3 : upd H2 D2 (.lst (nvs vs)) = H3 at *
          have hD3' := hD3
          rw [nvs_ivs] at hD3'
          refine ⟨D2, vs.map Int.ofNat, rfl, SqL.of hD3', _, _, rfl, rfl, ?_⟩
          have hsum : (1 : Int) + (vs.map Int.ofNat).sum = ((1 + vs.sum : Nat) : Int) := by
            have : ∀ l : List Nat, (l.map Int.ofNat).sum = ((l.sum : Nat) : Int) := fun l => by
              induction l with
              | nil => rfl
              | cons x r ih => rw [List.map_cons, List.sum_cons, List.sum_cons, ih]; simp
            rw [this]; omega
          have hc3 : H3 c = some (.dK kvs) := sm3 _ _ hc2
          have hkl : kvs.length < sizeLine := hms _ (by omega)
          refine ⟨_, rfl, _, rfl, c, upd H3 c (.dK (putK kvs (Sum.inl (here : Int)) (.int ((1 + vs.sum : Nat) : Int)))), rfl, (by rw [← hsum]; exact DPut.k (k := Sum.inl (here : Int)) hc3 hkl), ?_⟩
          have sm4 : Same H H3 := S.sm.trans (sm2.trans sm3)
          have hL4 : (upd H3 c (.dK (putK kvs (Sum.inl (here : Int)) (.int ((1 + vs.sum : Nat) : Int))))) L = some (.lst (nvs (W1 ++ [here]))) := by
            rw [upd_ne (Ne.symm cL)]; exact sm3 _ _ (sm2 _ _ hW)
          have hb4 : (upd H3 c (.dK (putK kvs (Sum.inl (here : Int)) (.int ((1 + vs.sum : Nat) : Int))))) bd = some (.dK kvb) := by
            rw [upd_ne (Ne.symm cb)]; exact sm3 _ _ (sm2 _ _ S.b)
          have hlast2 : (nvs (W1 ++ [here]))[(nvs (W1 ++ [here])).length - 1]? = some (.int (here : Int)) := by simp [nvs]
          have hdrop : (nvs (W1 ++ [here])).dropLast = nvs W1 := by simp [nvs]
          refine ⟨_, rfl, tyL hL4, L, _, _, rfl, rfl, hL4, hlast2, ?_⟩
          rw [hdrop]
          refine ⟨m - 1, by omega, W1, _, bf, putK kvs (Sum.inl (here : Int)) (.int ((1 + vs.sum : Nat) : Int)), kvb, _, _, _, _, rfl, ⟨(same_old (same_old sm4 hc) nL), ?_, ?_, upd_same, ?_, S.bv, S.st.count wf (fun i => hL.ldr i) hvs', by omega, ?_, by omega⟩⟩
          · rw [upd_ne cL, upd_same]
          · rw [upd_ne bL]; exact hb4
          · intro x
            rw [valV_put]
            by_cases c1 : x = here
            · subst c1; simp
            · have : ¬ (Sum.inl (x : Int) : Key) = Sum.inl (here : Int) := fun q => c1 (by have := Sum.inl.inj q; omega)
              rw [if_neg this, if_neg c1]
              exact S.cv x
          · have := putK_le kvs (Sum.inl (here : Int)) (V.int ((1 + vs.sum : Nat) : Int))
            omega
      · refine iteF (by simp [nvs]; exact hM0) ?_
        obtain ⟨y, ys, rfl⟩ : ∃ y ys, Ms = y :: ys := by
          cases Ms with
          | nil => exact absurd rfl hM0
          | cons y ys => exact ⟨y, ys, rfl⟩
        have hg := DGet.k (k := Sum.inl (here : Int)) (sm2 _ _ S.b)
        refine ⟨_, rfl, _, rfl, bd, _, rfl, hg, _, rfl, ?_⟩
        rw [S.bv]
        have hym : y ∈ Ps.filter (fun x => (cf x).isNone) := by rw [hM]; simp
        rw [← hP, List.mem_filter] at hym
        obtain ⟨q, hq1, hq2⟩ := List.mem_map.mp hym.1
        have hq3 : cf (ldr nd.J q) = none := by rw [hq2]; simpa using hym.2
        cases hb : bf here with
        | true =>
          refine iteT rfl ?_
          refine kN (fun f t => ?_) H2 (S.sm.trans sm2)
          exact S.st.cyc wf (fun i => hL.ldr i) hL.bj hb hq1 hq3 hfix htop f (t.lead hled (.here hfix))
        | false =>
          refine iteF rfl ?_
          have hb2 : H2 bd = some (.dK kvb) := sm2 _ _ S.b
          refine ⟨_, rfl, _, rfl, bd, _, rfl, DPut.k (k := Sum.inl (here : Int)) hb2 (hms _ (by omega)), ?_⟩
          have hL4 : (upd H2 bd (.dK (putK kvb (Sum.inl (here : Int)) (.bl true)))) L = some (.lst (nvs (W1 ++ [here]))) := by
            rw [upd_ne (Ne.symm bL)]; exact sm2 _ _ hW
          have nD : D ≠ bd := ne_of hD2 hb2 (by intro z; cases z)
          have hD4 : (upd H2 bd (.dK (putK kvb (Sum.inl (here : Int)) (.bl true)))) D = some (.lst (nvs (y :: ys))) := by
            rw [upd_ne nD]; exact hD2
          refine ⟨_, rfl, tyL hL4, _, rfl, L, D, _, _, rfl, rfl, hL4, hD4, small_ok (m := 100000) ?_, ?_⟩
          · rw [nvs_len, nvs_len, List.length_append, List.length_singleton]; omega
          · have hub := unbegun_lt hb hn
            have hMe : ((nd.pt here).map (ldr nd.J)).filter (fun x => (cf x).isNone) = y :: ys := by rw [hP, hM]
            have hbeg := S.st.begin wf (fun i => hL.ldr i) hL.bj hb
            rw [hMe] at hbeg
            rw [← nvs_app]
            refine ⟨3 * unbegun (fun x => if x = here then true else bf x) nd.n + (W1 ++ [here] ++ (y :: ys)).length, ?_, W1 ++ [here] ++ (y :: ys), cf, _, kvs, putK kvb (Sum.inl (here : Int)) (.bl true), _, _, _, _, rfl, ⟨same_old (same_old (S.sm.trans sm2) nbd) nL, ?_, ?_, upd_same, S.cv, ?_, hbeg, rfl, ?_, ?_⟩⟩
            · simp only [List.length_append, List.length_singleton]; omega
            · rw [upd_ne cL, upd_ne cb]; exact sm2 _ _ S.c
            · rw [upd_ne bL, upd_same]
            · intro x
              rw [valV_put]
              by_cases c1 : x = here
              · subst c1; simp
              · have : ¬ (Sum.inl (x : Int) : Key) = Sum.inl (here : Int) := fun q => c1 (by have := Sum.inl.inj q; omega)
                rw [if_neg this, if_neg c1]
                exact S.bv x
            · simp only [List.length_append, List.length_singleton]; omega
            · have := putK_le kvb (Sum.inl (here : Int)) (V.bl true)
              simp only [List.length_append, List.length_singleton]; omega
end
end Shp
end
section
namespace Shp
open Vapcma
/-- where something stands in a list -/
def nf (vs : List Nat) (v : Nat) : Nat := vs.findIdx fun x => x == v
theorem nf_app {s r : List Nat} {l : Nat} (h : l ∈ s) : nf (s ++ r) l = nf s l := by
  unfold nf
  rw [List.findIdx_append, if_pos]
  exact List.findIdx_lt_length_of_exists ⟨l, h, by simp⟩
theorem nf_new {s r : List Nat} {l : Nat} (h : l ∉ s) : nf (s ++ l :: r) l = s.length := by
  unfold nf
  have e : s.findIdx (fun x => x == l) = s.length := by
    rw [List.findIdx_eq_length]
    intro x hx
    simp only [beq_eq_false_iff_ne, ne_eq]
    rintro rfl
    exact h hx
  rw [List.findIdx_append, e, if_neg (Nat.lt_irrefl _), List.findIdx_cons]
  simp
theorem dups_snoc (vs : List Nat) (l : Nat) : (vs ++ [l]).eraseDups = if l ∈ vs then vs.eraseDups else vs.eraseDups ++ [l] := by
  rw [List.eraseDups_append]
  by_cases c : l ∈ vs
  · rw [if_pos c]
    simp [List.removeAll, c]
  · rw [if_neg c]
    simp [List.removeAll, c, List.eraseDups_cons]
theorem dups_prefix (vs r : List Nat) : ∃ r', (vs ++ r).eraseDups = vs.eraseDups ++ r' := ⟨_, List.eraseDups_append⟩
/-- the number that comes next, where an unknown is met -/
theorem num_next {all vs r : List Nat} {l : Nat} (h : all = vs ++ l :: r) : nf all.eraseDups l = if l ∈ vs then nf vs.eraseDups l else vs.eraseDups.length := by
  subst h
  by_cases c : l ∈ vs
  · rw [if_pos c]
    obtain ⟨r', e⟩ := dups_prefix vs (l :: r)
    rw [e]
    exact nf_app (List.mem_eraseDups.mpr c)
  · rw [if_neg c]
    have : vs ++ l :: r = (vs ++ [l]) ++ r := by simp
    obtain ⟨r', e⟩ := dups_prefix (vs ++ [l]) r
    rw [this, e, dups_snoc, if_neg c, List.append_assoc, List.singleton_append]
    exact nf_new (fun h => c (List.mem_eraseDups.mp h))
/-- what waits as trees, from the top -/
theorem normal_nf (t : Form) : normal t = rename (nf (vars t).eraseDups) t := rfl
end Shp
end
section
set_option maxRecDepth 100000
set_option maxHeartbeats 4000000
namespace Shp
open PySem PySem.Spec PyProof.Rows L2
open Vapcma (Form)
section
variable {P : Program} {w : World} {K : PySem.W.Frag} {mg : Str → Option Value} {base : Heap}
/-- leaders and their numbers -/
def dkv : List Nat → Nat → List (Key × V)
  | [], _ => []
  | l :: r, i => (.inl (l : Int), .int (((2 + i : Nat)) : Int)) :: dkv r (i + 1)
theorem dkv_val {l : Nat} : ∀ (s : List Nat) (i : Nat), valV (dkv s i) (.inl (l : Int)) = if l ∈ s then some (.int ((2 + (i + nf s l) : Nat) : Int)) else none
  | [], i => rfl
  | x :: r, i => by
    by_cases c : x = l
    · subst c
      rw [dkv, valV_pos rfl, if_pos (by simp)]
      simp [nf, List.findIdx_cons]
    · have ne : ¬ ((Sum.inl (x : Int) : Key) = Sum.inl (l : Int)) := fun q => c (by have := Sum.inl.inj q; omega)
      rw [dkv, valV_neg (p := (Sum.inl (x : Int), _)) ne, dkv_val r (i + 1)]
      by_cases c2 : l ∈ r
      · rw [if_pos c2, if_pos (by simp [c2])]
        have : nf (x :: r) l = nf r l + 1 := by
          unfold nf
          rw [List.findIdx_cons]
          have : (x == l) = false := by simpa using c
          rw [this]; rfl
        rw [this]
        congr 3
        omega
      · rw [if_neg c2, if_neg (by simp [c2]; exact fun h => c h.symm)]
theorem dkv_len : ∀ (s : List Nat) (i : Nat), (dkv s i).length = s.length
  | [], _ => rfl
  | x :: r, i => by rw [dkv, List.length_cons, List.length_cons, dkv_len r (i + 1)]
theorem dkv_snoc {l : Nat} : ∀ (s : List Nat) (i : Nat), dkv (s ++ [l]) i = dkv s i ++ [(.inl (l : Int), .int ((2 + (i + s.length) : Nat) : Int))]
  | [], _ => rfl
  | x :: r, i => by
    have : i + 1 + r.length = i + (r.length + 1) := by omega
    rw [List.cons_append, dkv, dkv, dkv_snoc r (i + 1), List.cons_append, List.length_cons, this]
theorem upd_self' {H : Hp} {a : Addr} {o : HO} (h : H a = some o) : H = upd H a o := by
  funext b
  by_cases c : b = a
  · subst c; rw [upd_same, h]
  · rw [upd_ne c]
def sp_Nodes_written (T : Top K mg) : Sp := fun vs H Q _ => ∃ (a dx sa pa ja : Addr) (nd : Nd) (i : Nat) (t : Form),
  vs = [.ref a, .int (i : Int)] ∧ NAt K T.C_Nodes H a dx sa pa ja nd ∧ nd.Led ∧ WFn nd.k nd.pt nd.n ∧ i < nd.n ∧ Tr nd.k nd.pt nd.J i t ∧ Vapcma.size t ≤ 1000 ∧
  ∀ (p : Addr) (H' : Hp), Same H H' → SqT K H' p (ivs (enc (Vapcma.normal t))) → Q (.ref p) H'
/-- what is kept between two nodes -/
structure WritSt (nd : Nd) (H H' : Hp) (fo d L : Addr) (t : Form) (m : Nat) (out : List Int) (W : List Nat) (rs : List Form) (vs : List Nat) : Prop where
  sm : Same H H'
  f : H' fo = some (.lst (ivs out))
  d : H' d = some (.dK (dkv vs.eraseDups 0))
  l : H' L = some (.lst (nvs W))
  wn : ∀ x ∈ W, x < nd.n
  tr : Paired (fun x r => Tr nd.k nd.pt nd.J x r) W.reverse rs
  e : enc (Vapcma.normal t) = out ++ encs (rs.map (Vapcma.rename (nf (Vapcma.vars t).eraseDups)))
  v : Vapcma.vars t = vs ++ rs.flatMap Vapcma.vars
  m : m = sizes rs
theorem vars_len (t : Form) : (Vapcma.vars t).length ≤ Vapcma.size t := by
  induction t with
  | var v => simp [Vapcma.vars, Vapcma.size]
  | imp a b iha ihb => simp only [Vapcma.vars, Vapcma.size, List.length_append]; omega
  | neg a iha => simp only [Vapcma.vars, Vapcma.size]; omega
theorem sizes_rename (r : Nat → Nat) (rs : List Form) : sizes (rs.map (Vapcma.rename r)) = sizes rs := by
  induction rs with
  | nil => rfl
  | cons x r ih => rw [List.map_cons, sizes_cons, sizes_cons, ih, size_rename]
theorem tr_parts {k : Nat → Nat} {pt : Nat → List Nat} {J : Nat → Nat} {here : Nat} {r : Form} (h : Tr k pt J here r) (hj : J here = here) (ph : Nat → Nat) :
    (k here = 2 ∧ r = .var here) ∨ (k here ≠ 2 ∧ ∃ fs, Paired (fun x r => Tr k pt J x r) (pt here) fs ∧ enc (Vapcma.rename ph r) = (k here : Int) :: encs (fs.map (Vapcma.rename ph)) ∧ Vapcma.vars r = fs.flatMap Vapcma.vars ∧ sizes fs + 1 = Vapcma.size r) := by
  cases h with
  | var h hk =>
    obtain rfl := h.same (.here hj)
    exact .inl ⟨hk, rfl⟩
  | imp h hk hp ta tb =>
    obtain rfl := h.same (.here hj)
    refine .inr ⟨by omega, _, by rw [hp]; exact .cons ta (.cons tb .nil), ?_, by simp [Vapcma.vars], ?_⟩
    · rw [hk]; simp [Vapcma.rename, enc, encs]
    · simp only [sizes, List.map_cons, List.map_nil, List.sum_cons, List.sum_nil, Vapcma.size]; omega
  | neg h hk hp ta =>
    obtain rfl := h.same (.here hj)
    refine .inr ⟨by omega, _, by rw [hp]; exact .cons ta .nil, ?_, by simp [Vapcma.vars], ?_⟩
    · rw [hk]; simp [Vapcma.rename, enc, encs]
    · simp only [sizes, List.map_cons, List.map_nil, List.sum_cons, List.sum_nil, Vapcma.size]; omega
theorem paired_rev {α β : Type} {R : α → β → Prop} : ∀ {xs : List α} {ys : List β} {as : List α} {bs : List β}, Paired R xs ys → Paired R as bs → Paired R (xs ++ as) (ys ++ bs)
  | _, _, _, _, .nil, q => q
  | _, _, _, _, .cons a r, q => .cons a (paired_rev r q)
theorem ok_Nodes_written (T : Top K mg) : FnOk P w K mg base CX0 2 T.m_Nodes_written.f T.m_Nodes_written.fd P_Nodes_written (sp_Nodes_written T) := by
  refine T.m_Nodes_written.F.ok sc_Nodes_written (fun vs H Q E h => by obtain ⟨_, _, _, _, _, _, _, _, rfl, _⟩ := h; rfl) (fun cdv A outer s H vs Q E hr h => ?_)
  refine ⟨_, (pss_cons (ps_set (i := 2) sc_Nodes_written.nd rfl (Or.inl rfl) (pe_lst pa_nil))
    (pss_cons (ps_set (i := 3) sc_Nodes_written.nd rfl (Or.inl rfl) pe_dnewK)
    (pss_cons (ps_set (i := 4) sc_Nodes_written.nd rfl (Or.inl rfl) (pe_lst (pa_cons (pv 1) pa_nil)))
    (pss_cons (ps_while PassesOwn.never (pt_cmpR op_gt (pe_callB call_len (by rfl) T.b_len PySem.boot_len (pa_cons (pv 4) pa_nil)) pe_int (nomark _)) (pss_cons (ps_set (i := 5) sc_Nodes_written.nd rfl (Or.inl rfl) (pe_meth (pv 0) T.cl_Nodes T.m_Nodes_leader.m (ok_Nodes_leader T) (hr.mono (by decide)) T.m_Nodes_leader.b .nil pass0 (pa_cons (pe_bm0 PySem.F.plainAttrs_list PySem.F.slot_list_pop PySem.F.type_list_pop mt_pop (pv 4)) pa_nil)))
      (pss_one (ps_if (pt_cmpR op_eq (pe_ix ix_list (pe_fld (pv 0) rfl) (pv 5) (fun _ _ => rfl)) (pe_glob rfl T.c_FIRST_UNKNOWN.choose_spec relI) (nomark _)) (pss_one (ps_expr (pe_bm PySem.F.plainAttrs_list PySem.F.slot_list_append PySem.F.type_list_append mt_append (pv 2) (pa_cons (pe_dsetd (pv 3) (pv 5) (pe_op op_add (pe_glob rfl T.c_FIRST_UNKNOWN.choose_spec relI) (pe_callB call_lenD (by rfl) T.b_len PySem.boot_len (pa_cons (pv 3) pa_nil))) ⟨rfl, rfl, rfl, rfl⟩) pa_nil)))) (pss_cons (ps_expr (pe_bm PySem.F.plainAttrs_list PySem.F.slot_list_append PySem.F.type_list_append mt_append (pv 2) (pa_cons (pe_ix ix_list (pe_fld (pv 0) rfl) (pv 5) (fun _ _ => rfl)) pa_nil)))
        (pss_one (ps_for PassesOwn.never rfl (RT.pi_revA (by rfl) T.b_reversed (pe_ix ix_list (pe_fld (pv 0) rfl) (pv 5) (fun _ _ => rfl))) (pg_name (i := 6) sc_Nodes_written.nd rfl (Or.inl rfl))
          (pss_one (ps_expr (pe_bm PySem.F.plainAttrs_list PySem.F.slot_list_append PySem.F.type_list_append mt_append (pv 4) (pa_cons (pv 6) pa_nil)))))))))))
    (pss_one (ps_ret (pe_callTy call_tuple_of (by rfl) T.b_tuple (by decide +kernel) (pa_cons (pv 2) pa_nil)))))))), ?_⟩
  obtain ⟨a, dx, sa, pa, ja, nd, i, t, rfl, hN, hL, wf, hi, ht, hz, hk⟩ := h
  refine ⟨Nat.zero_le _, fun fo hfo => ?_⟩
  intro d hd0
  refine ⟨_, rfl, (show 1 ≤ sizeLine by decide), fun L hL0 => ?_⟩
  have nd0 : H d = none := (same_new hfo).free hd0
  have nL : H L = none := ((same_new hfo).trans (same_new hd0)).free hL0
  have fd : fo ≠ d := by rintro rfl; rw [upd_same] at hd0; cases hd0
  have dL : d ≠ L := by rintro rfl; rw [upd_same] at hL0; cases hL0
  have fL : fo ≠ L := by rintro rfl; rw [upd_ne fd, upd_same] at hL0; cases hL0
  refine ⟨fun m σ H' => ∃ (out : List Int) (W : List Nat) (rs : List Form) (vs : List Nat) (v5 v6 : Option V),
    σ = [some (.ref a), some (.int (i : Int)), some (.ref fo), some (.ref d), some (.ref L), v5, v6] ∧ WritSt nd H H' fo d L t m out W rs vs,
    ⟨sizes [t], [], [i], [t], [], none, none, rfl, ?_⟩, ?_⟩
  · refine ⟨((same_new hfo).trans (same_new hd0)).trans (same_new hL0), ?_, ?_, ?_, by simp; exact hi, .cons ht .nil, ?_, by simp, rfl⟩
    · show (upd (upd (upd H fo _) d _) L _) fo = _
      rw [upd_ne fL, upd_ne fd, upd_same]; rfl
    · show (upd (upd (upd H fo _) d _) L _) d = _
      rw [upd_ne dL, upd_same]; rfl
    · show (upd (upd (upd H fo _) d _) L _) L = _
      rw [upd_same]; rfl
    · rw [normal_nf]; simp [encs]
  rintro m σ H' ⟨out, W, rs, vs, v5, v6, rfl, S⟩
  have hW := S.l
  have hlen : out.length + sizes rs = Vapcma.size t := by
    have := congrArg List.length S.e
    rw [List.length_append, enc_len, encs_len, sizes_rename, normal_nf, size_rename] at this
    omega
  refine ⟨_, rfl, _, _, rfl, .inl ⟨_, SqL.of hW, rfl⟩, _, _, rfl, rfl, _, rfl, ?_⟩
  rcases List.eq_nil_or_concat W with rfl | ⟨W1, top, rfl⟩
  · refine iteF (by simp [nvs]) ?_
    have htr := S.tr
    cases rs with
    | cons r rs => cases htr
    | nil =>
      have he := S.e
      rw [List.map_nil, encs_nil, List.append_nil] at he
      refine ⟨_, rfl, _, _, rfl, .inl ⟨SqL.of S.f, fun p hp => ?_⟩⟩
      refine hk p _ (same_newer S.sm hp) (SqT.of ?_)
      rw [upd_same, he]
  · rw [List.concat_eq_append] at S hW
    refine iteT (by simp [nvs]) ?_
    refine ⟨_, fun _ _ h => h, ?_⟩
    have htr := S.tr
    have hwn := S.wn
    rw [List.reverse_append, List.reverse_singleton, List.singleton_append] at htr
    cases rs with
    | nil => cases htr
    | cons r rs =>
      have htop : top < nd.n := hwn top (by simp)
      have hdrop : (nvs (W1 ++ [top])).dropLast = nvs W1 := by simp [nvs]
      have hlast2 : (nvs (W1 ++ [top]))[(nvs (W1 ++ [top])).length - 1]? = some (.int (top : Int)) := by simp [nvs]
      obtain ⟨ht1, ht2⟩ : Tr nd.k nd.pt nd.J top r ∧ Paired (fun x r => Tr nd.k nd.pt nd.J x r) W1.reverse rs := by
        cases htr with | cons h1 h2 => exact ⟨h1, h2⟩
      have hN1 := hN.same S.sm
      have notin : ∀ x : Addr, H x = none → x ∉ [sa, pa, ja] := fun x hx m => by
        obtain ⟨o, h1, _⟩ := hN.own x m
        rw [hx] at h1; cases h1
      refine ⟨_, rfl, a, dx, _, rfl, hN1.o, nF_no (by decide +kernel) (by decide +kernel) (by decide +kernel) _ _ _, ?_⟩
      refine ⟨_, rfl, tyL hW, L, _, _, rfl, rfl, hW, hlast2, ?_⟩
      rw [hdrop]
      have hld := hL.ldr top
      generalize hh : ldr nd.J top = here at *
      have hhn : here < nd.n := by rw [← hh]; exact hL.ldr_lt htop
      have hfix : nd.J here = here := hld.fix
      have ht3 : Tr nd.k nd.pt nd.J here r := ht1.lead hld (.here hfix)
      have hN2 : NAt K T.C_Nodes (upd H' L (.lst (nvs W1))) a dx sa pa ja nd := hN1.upd_lst hW (by intro _ z; cases z) (by intro _ _ z; cases z) (by intro _ _ _ z; cases z) (notin L nL)
      have sm2 : Same H (upd H' L (.lst (nvs W1))) := same_old S.sm nL
      have hL2 : (upd H' L (.lst (nvs W1))) L = some (.lst (nvs W1)) := upd_same
      have hf2 : (upd H' L (.lst (nvs W1))) fo = some (.lst (ivs out)) := by rw [upd_ne fL]; exact S.f
      have hd2 : (upd H' L (.lst (nvs W1))) d = some (.dK (dkv vs.eraseDups 0)) := by rw [upd_ne dL]; exact S.d
      generalize hH2 : upd H' L (.lst (nvs W1)) = H2 at *
      refine ⟨a, dx, sa, pa, ja, nd, top, here, rfl, hN2, hL, htop, hld, ?_⟩
      refine ⟨_, rfl, a, _, dx, _, _, rfl, hN2.o, T.cl_Nodes, T.n_Nodes_signs, nF_signs _ _ _, _, rfl, _, _, _, _, rfl, rfl, SqL.of hN2.s, atI_nat' (nvs_get (Nd.k_get hhn)), rfl, _, rfl, ?_⟩
      have hsz : sizes (r :: rs) = Vapcma.size r + sizes rs := rfl
      have hme := S.m
      have hSe := S.e
      have hSv := S.v
      have hlz : ∀ z : Int, (ivs (out ++ [z])) = ivs out ++ [.int z] := fun z => by simp [ivs]
      have hol : (ivs out).length < sizeLine := small_lt (m := 10000) (by rw [ivs_len]; omega)
      rcases tr_parts ht3 hfix (nf (Vapcma.vars t).eraseDups) with ⟨c, rfl⟩ | ⟨c, fs, hfs, he, hv, hs⟩
      · refine iteT (by rw [c]; rfl) ?_
        have hnum := num_next (all := Vapcma.vars t) (vs := vs) (l := here) (r := rs.flatMap Vapcma.vars) (by rw [hSv]; rfl)
        have hdl : (dkv vs.eraseDups 0).length < sizeLine := by
          rw [dkv_len]
          have h1 := nodup_eraseDups _ vs (Nat.le_refl _)
          have h2 : vs.eraseDups.length ≤ vs.length := h1.length_le_of_subset fun x hx => List.mem_eraseDups.mp hx
          have h3 := congrArg List.length hSv
          have h4 := vars_len t
          rw [List.length_append] at h3
          exact small_lt (m := 10000) (by omega)
        refine ⟨_, rfl, tyL hf2, _, rfl, d, rfl, .inl ⟨_, .inl hd2⟩, _, rfl, _, rfl, _, _, rfl, hd2, _, _, rfl, rfl, _, Sum.inl (here : Int), hd2, rfl, hdl, fun v hvv => ?_, fun hn => ?_⟩
        · rw [dkv_val] at hvv
          by_cases c2 : here ∈ vs.eraseDups
          · rw [if_pos c2] at hvv
            cases hvv
            have c3 := List.mem_eraseDups.mp c2
            rw [if_pos c3] at hnum
            refine ⟨fo, _, _, rfl, rfl, hf2, hol, ?_⟩
            refine ⟨sizes rs, by rw [hme, hsz]; simp only [Vapcma.size]; omega, out ++ [((nf (Vapcma.vars t).eraseDups here : Nat) : Int) + 2], W1, rs, vs ++ [here], _, _, rfl, ⟨same_old sm2 hfo, ?_, ?_, ?_, fun x hx => hwn x (by simp [hx]), ht2, ?_, ?_, rfl⟩⟩
            · rw [upd_same, hlz, hnum]
              have : ((2 + (0 + nf vs.eraseDups here) : Nat) : Int) = ((nf vs.eraseDups here : Nat) : Int) + 2 := by omega
              rw [this]
            · rw [upd_ne (Ne.symm fd), hd2, dups_snoc, if_pos c3]
            · rw [upd_ne (Ne.symm fL)]; exact hL2
            · rw [hSe]; simp [encs, enc, Vapcma.rename]
            · rw [hSv]; simp [Vapcma.vars]
          · rw [if_neg c2] at hvv; cases hvv
        · rw [dkv_val] at hn
          by_cases c2 : here ∈ vs.eraseDups
          · rw [if_pos c2] at hn; cases hn
          · have c3 : here ∉ vs := fun h => c2 (List.mem_eraseDups.mpr h)
            rw [if_neg c3] at hnum
            have epk : putK (dkv vs.eraseDups 0) (Sum.inl (here : Int)) (V.int (2 + ((dkv vs.eraseDups 0).length : Nat))) = dkv (vs ++ [here]).eraseDups 0 := by
              rw [putK_none (by rw [dkv_val, if_neg c2]), dups_snoc, if_neg c3, dkv_snoc, dkv_len]
              congr 4
              omega
            have hf3 : (upd H2 d (.dK (putK (dkv vs.eraseDups 0) (Sum.inl (here : Int)) (V.int (2 + ((dkv vs.eraseDups 0).length : Nat)))))) fo = some (.lst (ivs out)) := by rw [upd_ne fd]; exact hf2
            refine ⟨fo, _, _, rfl, rfl, hf3, hol, ?_⟩
            refine ⟨sizes rs, by rw [hme, hsz]; simp only [Vapcma.size]; omega, out ++ [((nf (Vapcma.vars t).eraseDups here : Nat) : Int) + 2], W1, rs, vs ++ [here], _, _, rfl, ⟨same_old (same_old sm2 nd0) hfo, ?_, ?_, ?_, fun x hx => hwn x (by simp [hx]), ht2, ?_, ?_, rfl⟩⟩
            · rw [upd_same, hlz, hnum, dkv_len]
              have : (2 : Int) + ((vs.eraseDups.length : Nat) : Int) = ((vs.eraseDups.length : Nat) : Int) + 2 := by omega
              show some (HO.lst (ivs out ++ [V.int ((2 : Int) + ((vs.eraseDups.length : Nat) : Int))])) = _
              rw [this]
            · rw [upd_ne (Ne.symm fd), upd_same, epk]
            · rw [upd_ne (Ne.symm fL), upd_ne (Ne.symm dL)]; exact hL2
            · rw [hSe]; simp [encs, enc, Vapcma.rename]
            · rw [hSv]; simp [Vapcma.vars]
      · refine iteF (by simp; omega) ?_
        obtain ⟨ps, hp1, hp2⟩ := hN2.p
        obtain ⟨q, hq1, hq2⟩ := paired_get hp2 (Nd.pt_get hL.lp hhn)
        refine ⟨_, rfl, tyL hf2, _, rfl, a, _, dx, _, _, rfl, hN2.o, T.cl_Nodes, T.n_Nodes_signs, nF_signs _ _ _, _, rfl, _, _, _, _, rfl, rfl, SqL.of hN2.s, atI_nat' (nvs_get (Nd.k_get hhn)), ?_⟩
        refine ⟨fo, _, _, rfl, rfl, hf2, hol, ?_⟩
        have nfo := notin fo hfo
        have hN3 : NAt K T.C_Nodes (upd H2 fo (.lst (ivs out ++ [.int (nd.k here : Int)]))) a dx sa pa ja nd := hN2.upd_lst hf2 (by intro _ z; cases z) (by intro _ _ z; cases z) (by intro _ _ _ z; cases z) nfo
        have hq3 : SqT K (upd H2 fo (.lst (ivs out ++ [.int (nd.k here : Int)]))) q (nvs (nd.pt here)) := seqT_upd hf2 (by intro _ z; cases z) hq2
        obtain ⟨ps', hp1', _⟩ := hN3.p
        have hp3 : (upd H2 fo (.lst (ivs out ++ [.int (nd.k here : Int)]))) pa = some (.lst (ps.map V.ref)) := by
          rw [upd_ne (fun e => nfo (by rw [← e]; simp))]; exact hp1
        have hq1' : (ps.map V.ref)[here]? = some (.ref q) := by simp [hq1]
        have sm3 : Same H (upd H2 fo (.lst (ivs out ++ [.int (nd.k here : Int)]))) := same_old sm2 hfo
        have hL3 : (upd H2 fo (.lst (ivs out ++ [.int (nd.k here : Int)]))) L = some (.lst (nvs W1)) := by rw [upd_ne (Ne.symm fL)]; exact hL2
        have hf3 : (upd H2 fo (.lst (ivs out ++ [.int (nd.k here : Int)]))) fo = some (.lst (ivs (out ++ [(nd.k here : Int)]))) := by rw [upd_same, hlz]
        have hd3 : (upd H2 fo (.lst (ivs out ++ [.int (nd.k here : Int)]))) d = some (.dK (dkv vs.eraseDups 0)) := by rw [upd_ne (Ne.symm fd)]; exact hd2
        generalize hH3 : upd H2 fo (.lst (ivs out ++ [.int (nd.k here : Int)])) = H3 at *
        have hptz : (nd.pt here).length ≤ 2 := by
          rcases wf here hhn with ⟨h0, h1⟩ | ⟨h0, a', b', h1, _, _⟩ | ⟨h0, a', h1, _⟩ <;> rw [h1] <;> simp
        have hWz : W1.length ≤ 1000 := by
          have h1 := ht2.length
          rw [List.length_reverse] at h1
          have h2 := len_sizes rs
          omega
        refine ⟨_, rfl, a, _, dx, _, _, rfl, hN3.o, T.cl_Nodes, T.n_Nodes_parts, nF_parts _ _ _, _, rfl, _, _, _, _, rfl, rfl, SqL.of hp3, atI_nat' hq1', q, _, rfl, .inr ⟨hq3, RT.for_ItvT (K := K) (a := q) (xs := nvs (nd.pt here)) (fun s σ H4 => ∃ (v6 : Option V),
          σ = [some (.ref a), some (.int (i : Int)), some (.ref fo), some (.ref d), some (.ref L), some (.int (here : Int)), v6] ∧ H4 = upd H3 L (.lst (nvs (W1 ++ (nd.pt here).reverse.take s))) ∧ s ≤ (nd.pt here).length)
          ⟨_, rfl, ?_, Nat.zero_le _⟩ (fun s σ H4 ⟨_, _, e, _⟩ => by rw [e]; exact seqT_upd hL3 (by intro _ z; cases z) hq3) ?_ ?_⟩⟩
        · rw [List.take_zero, List.append_nil]; exact upd_self' hL3
        · rintro s y σ H4 hs1 hy ⟨v6', rfl, rfl, hs2⟩
          rw [nvs_len] at hs1 hy
          obtain ⟨x, hx, rfl⟩ : ∃ x, (nd.pt here)[(nd.pt here).length - 1 - s]? = some x ∧ y = V.int (x : Int) := by
            simp only [nvs, List.getElem?_map, Option.map_eq_some_iff] at hy
            obtain ⟨x, h1, h2⟩ := hy
            exact ⟨x, h1, h2.symm⟩
          have hx2 : (nd.pt here).reverse[s]? = some x := by
            rw [List.getElem?_reverse (by omega)]; exact hx
          have hL4 : (upd H3 L (.lst (nvs (W1 ++ (nd.pt here).reverse.take s)))) L = some (.lst (nvs (W1 ++ (nd.pt here).reverse.take s))) := upd_same
          refine ⟨_, rfl, tyL hL4, _, rfl, L, _, _, rfl, rfl, hL4, small_lt (m := 10000) ?_, ?_⟩
          · rw [nvs_len, List.length_append, List.length_take, List.length_reverse]; omega
          · refine ⟨_, rfl, ?_, by omega⟩
            rw [upd_upd, take_more' hx2, ← List.append_assoc, nvs_app (W1 ++ _) [x]]
            rfl
        · rintro σ H4 ⟨v6', rfl, rfl, hs2⟩
          rw [nvs_len] at hs2 ⊢
          have e1 : (nd.pt here).reverse.take (nd.pt here).length = (nd.pt here).reverse := List.take_of_length_le (by rw [List.length_reverse]; exact Nat.le_refl _)
          rw [e1]
          refine ⟨sizes (fs ++ rs), ?_, out ++ [(nd.k here : Int)], W1 ++ (nd.pt here).reverse, fs ++ rs, vs, _, _, rfl, ⟨same_old sm3 nL, ?_, ?_, upd_same, ?_, ?_, ?_, ?_, rfl⟩⟩
          · rw [hme, hsz, sizes, List.map_append, List.sum_append]
            have : (fs.map Vapcma.size).sum = sizes fs := rfl
            have : (rs.map Vapcma.size).sum = sizes rs := rfl
            omega
          · rw [upd_ne fL]; exact hf3
          · rw [upd_ne dL]; exact hd3
          · intro x hx
            rcases List.mem_append.mp hx with hx | hx
            · exact hwn x (by simp [hx])
            · exact part_lt wf hhn (List.mem_reverse.mp hx)
          · rw [List.reverse_append, List.reverse_reverse]
            exact paired_rev hfs ht2
          · rw [hSe, List.map_cons, encs_cons, he, List.map_append]
            simp [encs]
          · rw [hSv, List.flatMap_cons, hv, List.flatMap_append]
end
end Shp
end
section
namespace Shp
open Vapcma
section
variable {k : Nat → Nat} {pt : Nat → List Nat} {n r1 r2 : Nat} {J : Nat → Nat} {W : List (Nat × Nat)} {p q a b : Nat}
theorem UInv.swap (I : UInv k pt n r1 r2 J (W ++ [(p, q)])) : UInv k pt n r1 r2 J (W ++ [(q, p)]) := by
  have mo : ∀ {x y : Nat}, Cl J (W ++ [(p, q)]) x y → Cl J (W ++ [(q, p)]) x y := fun h => h.mono .j fun x y e => by
    rw [List.mem_append, List.mem_singleton] at e
    rcases e with e | e
    · exact .w (by simp [e])
    · cases e; exact .symm (.w (by simp))
  exact {
    bj := I.bj, bo := I.bo, ld := I.ld
    bw := fun x y h => by
      rw [List.mem_append, List.mem_singleton] at h
      rcases h with h | h
      · exact I.bw x y (by simp [h])
      · cases h; exact (I.bw p q (by simp)).symm
    cl := mo I.cl
    so := fun th S e => ⟨(I.so th S e).1, fun x y h => by
      rw [List.mem_append, List.mem_singleton] at h
      rcases h with h | h
      · exact (I.so th S e).2 x y (by simp [h])
      · cases h; exact ((I.so th S e).2 p q (by simp)).symm⟩
    cg := fun x hx hk l hl => ⟨(I.cg x hx hk l hl).1, fun i u v e1 e2 => mo ((I.cg x hx hk l hl).2 i u v e1 e2)⟩ }
theorem UInv.clash (wf : WFn k pt n) (I : UInv k pt n r1 r2 J (W ++ [(p, q)])) (h1 : Lead J p a) (h2 : Lead J q b) (na : k a ≠ 2) (nb : k b ≠ 2) (ne : k a ≠ k b) (th : Nat → Form) (S : Sol k pt n th) : th r1 ≠ th r2 := fun e => by
  have v := I.val h1 h2 S e
  obtain ⟨b1, b2⟩ := I.bw p q (by simp)
  have la := h1.lt I.bj b1
  have lb := h2.lt I.bj b2
  rcases wf a la with ⟨g0, g1⟩ | ⟨g0, a', b', g1, _, _⟩ | ⟨g0, a', g1, _⟩ <;> rcases wf b lb with ⟨g2, g3⟩ | ⟨g2, a'', b'', g3, _, _⟩ | ⟨g2, a'', g3, _⟩
  · omega
  · omega
  · omega
  · omega
  · omega
  · rw [S.imp la g0 g1, S.neg lb g2 g3] at v; cases v
  · omega
  · rw [S.neg la g0 g1, S.imp lb g2 g3] at v; cases v
  · omega
theorem UInv.both (wf : WFn k pt n) (I : UInv k pt n r1 r2 J (W ++ [(p, q)])) (h1 : Lead J p a) (h2 : Lead J q b) (ne : a ≠ b) (hk : k a = k b) : UInv k pt n r1 r2 (join J a b) (W ++ (pt a).zip (pt b)) := by
  obtain ⟨b1, b2⟩ := I.bw p q (by simp)
  have la := h1.lt I.bj b1
  have lb := h2.lt I.bj b2
  refine I.joined wf h1 h2 ne (fun x y h => ?_) (fun th S e x y h => ?_) fun _ => ⟨hk.symm, fun i u v e1 e2 => ?_⟩
  · have := List.of_mem_zip h
    rcases wf a la with ⟨g0, g1⟩ | ⟨g0, a', b', g1, _, _⟩ | ⟨g0, a', g1, _⟩ <;> rcases wf b lb with ⟨g2, g3⟩ | ⟨g2, a'', b'', g3, _, _⟩ | ⟨g2, a'', g3, _⟩ <;> (rw [g1, g3] at this; simp at this <;> omega)
  · rcases wf a la with ⟨g0, g1⟩ | ⟨g0, a', b', g1, _, _⟩ | ⟨g0, a', g1, _⟩ <;> rcases wf b lb with ⟨g2, g3⟩ | ⟨g2, a'', b'', g3, _, _⟩ | ⟨g2, a'', g3, _⟩
    · rw [g1] at h; simp at h
    · omega
    · omega
    · omega
    · rw [S.imp la g0 g1, S.imp lb g2 g3, Form.imp.injEq] at e
      rw [g1, g3] at h
      simp only [List.zip_cons_cons, List.zip_nil_right, List.mem_cons, Prod.mk.injEq, List.not_mem_nil, or_false] at h
      rcases h with ⟨rfl, rfl⟩ | ⟨rfl, rfl⟩
      · exact e.1
      · exact e.2
    · omega
    · omega
    · omega
    · rw [S.neg la g0 g1, S.neg lb g2 g3, Form.neg.injEq] at e
      rw [g1, g3] at h
      simp only [List.zip_cons_cons, List.zip_nil_right, List.mem_cons, Prod.mk.injEq, List.not_mem_nil, or_false] at h
      obtain ⟨rfl, rfl⟩ := h
      exact e
  · refine List.mem_of_getElem? (i := i) ?_
    rw [List.getElem?_zip_eq_some]
    exact ⟨e1, e2⟩
theorem UInv.var (wf : WFn k pt n) (I : UInv k pt n r1 r2 J (W ++ [(p, q)])) (h1 : Lead J p a) (h2 : Lead J q b) (ne : a ≠ b) (hk : k a = 2) : UInv k pt n r1 r2 (join J a b) W := by
  have := I.joined wf h1 h2 ne (W' := []) (by simp) (by simp) fun h => absurd hk h
  rwa [List.append_nil] at this
end
end Shp
end
section
set_option maxRecDepth 100000
set_option maxHeartbeats 4000000
namespace Shp
open PySem PySem.Spec PyProof.Rows L2
section
variable {X : Cx}
/-- how many items equal a value: the items are data -/
def rCntD (K : PySem.W.Frag) : V → List V → Hp → VK → Prop := fun x xs H Q => ∃ (a : Addr) (y : V) (d : PyData) (ds : List PyData), x = V.ref a ∧ xs = [y] ∧ Dp K H (V.ref a) (.list ds) ∧ Dp K H y d ∧
  SeqAt.shaped (.list ds) = true ∧ SeqAt.shaped d = true ∧ Q (.int ((ds.countP fun z => PyData.eqv z d : Nat) : Int)) H
theorem mt_cntD (hu : X.A.units + 65 < cLine) : MtR X "list.count" (rCntD X.K) := by
  intro pins s σ H x xs v us Q I rx rxs h
  obtain ⟨a, y, d, ds, rfl, rfl, hl, hy, sl, sd, q⟩ := h
  cases rx
  obtain ⟨uy, rfl, ry⟩ := rxs.one
  obtain ⟨bs, r1⟩ := Dp.reads I d y uy hy ry
  have hxs : PyData.canLayAll0 ds = true := SeqAt.canLay_of_shaped sl
  have hroom := room_in_shaped (xs := ds) sd hu
  cases hl with
  | lst hs ha =>
    obtain ⟨its, rv, ⟨⟨cls, dd, data, sls⟩, n, ho, hc, hdn, hdt⟩, hlen⟩ := I.list hs
    simp only at hc hdt
    subst hc hdt
    obtain ⟨as, h4⟩ := Dp.readsAll I ds _ its ha rv
    have hmap : its.map (SeqAt.readOf s.heap) = ds := SeqAt.readsAll_map ds its as hxs h4
    have hc : (its.toArray.toList.countP fun u => PyData.eqv (SeqAt.readOf s.heap u) d) = ds.countP fun z => PyData.eqv z d := by
      rw [← hmap, List.countP_map]; rfl
    have hE := SeqAt.items_eqAt (vs := its.toArray) (show ReadsAll s.heap its.toArray.toList ds as from h4) r1 hxs (SeqAt.canLay_of_shaped sd) hroom
    refine call_meets PySem.F.slot_list_count ⟨_, ho, rfl⟩ PySem.F.entry_list_count (PySem.F.args_list_count_2 _ _) (SeqAt.list_countAt a its.toArray n dd sls uy (fun u => PyData.eqv (SeqAt.readOf s.heap u) d)) ⟨ho, hE, ?_⟩
    refine ⟨.int ((ds.countP fun z => PyData.eqv z d : Nat) : Int), H, I.tok _, ⟨s.toks, ?_⟩, q⟩
    rw [hc]
/-- a tuple's items put at a list's end -/
theorem ext_tup (l : Addr) (items : Array Value) (n : Nat) (b : Addr) (dd : Option Addr) (sl : Array (Option Value)) (items2 : Array Value) (n2 : Nat) (hs0 : ¬(!items.isEmpty && Builtin.List.listTooLong (items.size + items2.size)) = true) (hs1 : items.size ≤ sizeLine) (hs2 : items.size + items2.size ≤ sizeLine + 1) :
    Meets (Builtin.«list.extend» ⟨[.ref l, .ref b], []⟩) (fun _ R s => s.heap.get? l = some { cls := .type "list", dict := none, data := .seq items n, slots := #[] } ∧ s.heap.get? b = some { cls := .type "tuple", dict := dd, data := .seq items2 n2, slots := sl } ∧ R (.ok (.ret Value.none)) { s with heap := s.heap.update l (Obj.mapSeq fun x => x ++ items2), toks := s.toks }) :=
  .of_wp fun prog w A R s h => by
    obtain ⟨hp, g, d, tk, os⟩ := s
    obtain ⟨hl, hb, h⟩ := h
    have f4 := AutoSeq1.sub_tuple_list
    have hz' : (items ++ items2).size ≤ sizeLine + 1 := by rw [Array.size_append]; exact hs2
    wp_walk using (wpAny_updateSeq hl rfl (hz := hs1) (_hz' := hz')), wpAny_loadPart' hl, wpAny_loadPart' hb
    exact ⟨_, rfl, h⟩
def rExtT (K : PySem.W.Frag) : V → List V → Hp → VK → Prop := fun x vs H Q => ∃ (l b : Addr) (xs zs : List V), x = .ref l ∧ vs = [.ref b] ∧ H l = some (.lst xs) ∧ SqT K H b zs ∧ xs.length + zs.length ≤ sizeLine ∧ Q .non (upd H l (.lst (xs ++ zs)))
theorem mt_extT : MtM X "list.extend" (rExtT X.K) := by
  intro pins s σ H x vs v us Q I rx rv h
  obtain ⟨l, b, xs, zs, rfl, rfl, hH, hB, hz, q⟩ := h
  cases rx
  obtain ⟨u, rfl, ru⟩ := rv.one
  cases ru
  obtain ⟨z, its, n, r, hl, e⟩ := I.lstM hH
  obtain ⟨its2, r2, ⟨⟨cls, dd, data, sls⟩, e2, hc, n2, hd⟩, z2⟩ := I.tuple hB
  simp only at hc hd
  subst hc hd
  have hl2 := r2.length
  have hsz : its.toArray.size + its2.toArray.size ≤ sizeLine := by rw [List.size_toArray, List.size_toArray]; omega
  have hlong : ¬ (!its.toArray.isEmpty && Builtin.List.listTooLong (its.toArray.size + its2.toArray.size)) = true := by
    rw [notLongL hsz, Bool.and_false]
    exact Bool.false_ne_true
  refine call_meets PySem.F.slot_list_extend ⟨_, e, rfl⟩ PySem.F.entry_list_extend (PySem.F.args_list_extend_2 _ _)
    (ext_tup l its.toArray n b dd sls its2.toArray n2 hlong (by rw [List.size_toArray]; omega) (by omega)) ⟨e, e2, ?_⟩
  refine ⟨.non, _, I.lset (its' := its ++ its2) hH e (by simp) (r.append r2) ?_, rfl, q⟩
  rw [List.length_append]
  omega
end
end Shp
end
section
set_option maxRecDepth 100000
set_option maxHeartbeats 4000000
namespace Shp
open PySem PySem.Spec PyProof.Rows
section
variable {pg : Program} {wd : World} {Ar : Around} {Er : Value → Shared → Prop} {sh : Shared} {zz ti tr j1 j2 la lb tp : Addr} {fl : Bool} {ob : Obj} {n : Nat} {us vs : Array Value}
/-- the next pair of a zip of two tuples, while the pair ahead of it is kept by somebody -/
theorem zh_item {u v : Value} {R : Option Value → Shared → Prop} (ap : ZipApart zz ti tr j1 j2 la lb) (gz : IsZipHeld sh.heap zz ti tr tp fl) (gt : sh.heap.get? tp = some ob) (gi : IsPair sh.heap ti (.ref j1) (.ref j2))
    (p1 : sh.heap.IsTupleIter j1 la n) (p2 : sh.heap.IsTupleIter j2 lb n) (q1 : sh.heap.IsTuple la us) (q2 : sh.heap.IsTuple lb vs) (e1 : us[n]? = some u) (e2 : vs[n]? = some v)
    (hR : ∀ g, IsZipHeld g zz ti tr tp true → g.IsTupleIter j1 la (n + 1) → g.IsTupleIter j2 lb (n + 1) → IsPair g sh.heap.objs.size u v → g.objs.size = sh.heap.objs.size + 1 →
      (∀ c o, c ≠ zz → c ≠ j1 → c ≠ j2 → sh.heap.get? c = some o → g.get? c = some o) → R (some (.ref sh.heap.objs.size)) { sh with heap := g }) :
    wpAny (model pg wd) Ar (pyNext (.ref zz)) R Er sh := by
  have ty : sh.TypeIs (.ref zz) "zip" := ⟨_, gz, rfl⟩
  unfold pyNext
  refine wpAny_bind (wpAny_attempt (wpAny_callSpecial?_slot (name := Str.ofString "__next__") ty PySem.F.slot_zip_next (wpAny_call_entry PySem.F.slot_zip_next ty PySem.F.entry_zip_next ?_ (PySem.F.args_zip_next_1 _))))
  show wpAny (model pg wd) Ar.in1 (field (.ref zz) 2 >>= _) _ _ _
  refine wpAny_bind (wpAny_field gz rfl (x := .bool false) rfl ?_)
  show wpAny (model pg wd) Ar.in1 (field (.ref zz) 3 >>= _) _ _ _
  refine wpAny_bind (wpAny_field gz rfl (x := .ref ti) rfl ?_)
  refine wpAny_bind (wpAny_seqItems gi rfl ?_)
  show wpAny (model pg wd) Ar.in1 (Builtin.SmallTypes.ownedTupleIsFree (.ref zz) >>= _) _ _ _
  refine wpAny_bind (wpAny_tupleHeld_zip gz gt fun g1 z1 b1 => ?_)
  simp only [Bool.false_eq_true, if_false]
  refine wpAny_bind ?_
  rw [← Array.forIn_toList]
  simp only [List.forIn_cons, List.forIn_nil]
  refine wpAny_bind (wpAny_bind (wpAny_holding ?_))
  show wpAny (model pg wd) _ (Builtin.SmallTypes.nextOf (.ref j1) >>= _) _ _ _
  refine wpAny_bind (RZ.nextOf_tuple_item (s := { sh with heap := g1 }) (p1.extBut b1.extBut ap.i1z) (q1.extBut b1.extBut ap.l1z) e1 fun g2 r1 b2 => wpAny_pure ?_)
  refine wpAny_pure (wpAny_bind (wpAny_bind (wpAny_holding ?_)))
  show wpAny (model pg wd) _ (Builtin.SmallTypes.nextOf (.ref j2) >>= _) _ _ _
  refine wpAny_bind (RZ.nextOf_tuple_item (s := { sh with heap := g2 }) ((p2.extBut b1.extBut ap.i2z).extBut b2.extBut ap.i12.symm) ((q2.extBut b1.extBut ap.l2z).extBut b2.extBut ap.l2i1) e2 fun g3 r2 b3 => wpAny_pure ?_)
  refine wpAny_pure (wpAny_pure ?_)
  show wpAny (model pg wd) _ (newTuple [u, v] >>= _) _ _ _
  refine wpAny_bind (wpAny_newTuple ?_)
  have sz : g3.objs.size = sh.heap.objs.size := by rw [b3.1, b2.1, b1.1]
  have z3 : IsZipHeld g3 zz ti tr tp true := b3.extBut _ _ ap.i2z.symm (b2.extBut _ _ ap.i1z.symm z1)
  have old : ∀ c o, c ≠ zz → c ≠ j1 → c ≠ j2 → sh.heap.get? c = some o → g3.get? c = some o := fun c o n1 n2 n3 e => b3.extBut _ _ n3 (b2.extBut _ _ n2 (b1.extBut _ _ n1 e))
  refine wpAny_pure ⟨_, rfl, wpAny_pure ?_⟩
  show R (some (.ref g3.objs.size)) _
  have pr : IsPair (g3.push { cls := .type "tuple", data := .seq #[u, v] }) g3.objs.size u v := Heap.get?_push_size _ rfl
  have s4 : (g3.push { cls := .type "tuple", data := .seq #[u, v] }).objs.size = g3.objs.size + 1 := Heap.size_push ..
  rw [sz] at pr s4 ⊢
  exact hR _ (Heap.get?_push_of_some _ z3) ((r1.extBut b3.extBut ap.i12).at fun o e => Heap.get?_push_of_some _ e) (r2.at fun o e => Heap.get?_push_of_some _ e) pr s4 fun c o n1 n2 n3 e => Heap.get?_push_of_some _ (old c o n1 n2 n3 e)
/-- its end -/
theorem zh_end {R : Option Value → Shared → Prop} (hd : Ar.handled = none) (ap : ZipApart zz ti tr j1 j2 la lb) (gz : IsZipHeld sh.heap zz ti tr tp fl) (gt : sh.heap.get? tp = some ob) (gi : IsPair sh.heap ti (.ref j1) (.ref j2))
    (p1 : sh.heap.IsTupleIter j1 la n) (q1 : sh.heap.IsTuple la us) (e1 : us[n]? = none)
    (hR : ∀ g, (∀ c o, c ≠ zz → c ≠ j1 → c ≠ j2 → sh.heap.get? c = some o → g.get? c = some o) → R none { sh with heap := g }) :
    wpAny (model pg wd) Ar (pyNext (.ref zz)) R Er sh := by
  have ty : sh.TypeIs (.ref zz) "zip" := ⟨_, gz, rfl⟩
  unfold pyNext
  refine wpAny_bind (wpAny_attempt (wpAny_callSpecial?_slot (name := Str.ofString "__next__") ty PySem.F.slot_zip_next (wpAny_call_entry PySem.F.slot_zip_next ty PySem.F.entry_zip_next ?_ (PySem.F.args_zip_next_1 _))))
  show wpAny (model pg wd) Ar.in1 (field (.ref zz) 2 >>= _) _ _ _
  refine wpAny_bind (wpAny_field gz rfl (x := .bool false) rfl ?_)
  show wpAny (model pg wd) Ar.in1 (field (.ref zz) 3 >>= _) _ _ _
  refine wpAny_bind (wpAny_field gz rfl (x := .ref ti) rfl ?_)
  refine wpAny_bind (wpAny_seqItems gi rfl ?_)
  show wpAny (model pg wd) Ar.in1 (Builtin.SmallTypes.ownedTupleIsFree (.ref zz) >>= _) _ _ _
  refine wpAny_bind (wpAny_tupleHeld_zip gz gt fun g1 z1 b1 => ?_)
  simp only [Bool.false_eq_true, if_false]
  refine wpAny_bind ?_
  rw [← Array.forIn_toList]
  simp only [List.forIn_cons, List.forIn_nil]
  refine wpAny_bind (wpAny_bind (wpAny_holding ?_))
  show wpAny (model pg wd) _ (Builtin.SmallTypes.nextOf (.ref j1) >>= _) _ _ _
  refine wpAny_bind (RZ.nextOf_tuple_end (s := { sh with heap := g1 }) hd (p1.extBut b1.extBut ap.i1z) (q1.extBut b1.extBut ap.l1z) e1 fun g2 ex b2 he => ?_)
  obtain ⟨o, ho, hc⟩ := he
  refine wpAny_bind (wpAny_isInstance (T := "StopIteration") (b := true) ⟨o, ho, hc⟩ isSubtype_stop ?_)
  exact wpAny_pure (hR _ fun c o n1 n2 _ e => b2 _ _ n2 (b1.extBut _ _ n1 e))
end
end Shp
end
section
set_option maxRecDepth 100000
set_option maxHeartbeats 4000000
namespace Shp
open PySem PySem.Spec PyProof.Rows
section
variable {pg : Program} {wd : World} {Ar : Around} {Er : Value → Shared → Prop} {sh : Shared} {zz ti tr j1 j2 la lb sS : Addr} {n : Nat} {us vs : Array Value}
/-- the zip when n pairs are drawn -/
structure ZS (h : Heap) (zz ti tr j1 j2 la lb sS : Addr) (n : Nat) : Prop where
  gi : IsPair h ti (.ref j1) (.ref j2)
  p1 : h.IsTupleIter j1 la n
  p2 : h.IsTupleIter j2 lb n
  st : (IsZip h zz ti tr .none ∧ IsPair h tr .none .none) ∨ ∃ tp ob f, IsZipHeld h zz ti tr tp f ∧ h.get? tp = some ob ∧ tp ≠ zz ∧ tp ≠ j1 ∧ tp ≠ j2 ∧ tp ≠ sS
structure ZLow (zz ti tr j1 j2 la lb sS : Addr) : Prop where
  z : zz < sS
  i : ti < sS
  r : tr < sS
  a : j1 < sS
  b : j2 < sS
  c : la < sS
  d : lb < sS
theorem ZS.over {h h' : Heap} (x : ZS h zz ti tr j1 j2 la lb sS n) (lo : ZLow zz ti tr j1 j2 la lb sS) (k : ∀ b o, b ≠ sS → h.get? b = some o → h'.get? b = some o) : ZS h' zz ti tr j1 j2 la lb sS n := by
  refine ⟨k _ _ (Nat.ne_of_lt lo.i) x.gi, x.p1.at fun o e => k _ o (Nat.ne_of_lt lo.a) e, x.p2.at fun o e => k _ o (Nat.ne_of_lt lo.b) e, ?_⟩
  rcases x.st with ⟨h1, h2⟩ | ⟨tp, ob, f, h1, h2, h3, h4, h5, h6⟩
  · exact .inl ⟨k _ _ (Nat.ne_of_lt lo.z) h1, k _ _ (Nat.ne_of_lt lo.r) h2⟩
  · exact .inr ⟨tp, ob, f, k _ _ (Nat.ne_of_lt lo.z) h1, k _ _ h6 h2, h3, h4, h5, h6⟩
theorem zs_item {u v : Value} {R : Option Value → Shared → Prop} (ap : ZipApart zz ti tr j1 j2 la lb) (x : ZS sh.heap zz ti tr j1 j2 la lb sS n) (hS : sS < sh.heap.objs.size) (q1 : sh.heap.IsTuple la us) (q2 : sh.heap.IsTuple lb vs) (e1 : us[n]? = some u) (e2 : vs[n]? = some v)
    (hR : ∀ g, ZS g zz ti tr j1 j2 la lb sS (n + 1) → IsPair g sh.heap.objs.size u v → g.objs.size = sh.heap.objs.size + 1 →
      (∀ c o, c ≠ zz → c ≠ tr → c ≠ j1 → c ≠ j2 → sh.heap.get? c = some o → g.get? c = some o) → R (some (.ref sh.heap.objs.size)) { sh with heap := g }) :
    wpAny (model pg wd) Ar (pyNext (.ref zz)) R Er sh := by
  have l1 : j1 < sh.heap.objs.size := by obtain ⟨_, e, _⟩ := x.p1; exact Heap.lt_size e
  have l2 : j2 < sh.heap.objs.size := by obtain ⟨_, e, _⟩ := x.p2; exact Heap.lt_size e
  rcases x.st with ⟨h1, h2⟩ | ⟨tp, ob, f, h1, h2, h3, h4, h5, h6⟩
  · have lz : zz < sh.heap.objs.size := Heap.lt_size h1
    refine RZ.pyNext_zipT_item ap h1 x.gi h2 x.p1 x.p2 q1 q2 e1 e2 fun g a1 a2 a3 a4 a5 a6 a7 => hR g ⟨a7 _ _ ap.TIz ap.TITO ap.TIi1 ap.TIi2 x.gi, a3, a4, .inr ⟨sh.heap.objs.size, _, false, a1, a5, Nat.ne_of_gt lz, Nat.ne_of_gt l1, Nat.ne_of_gt l2, Nat.ne_of_gt hS⟩⟩ a5 a6 a7
  · refine zh_item ap h1 h2 x.gi x.p1 x.p2 q1 q2 e1 e2 fun g a1 a3 a4 a5 a6 a7 => hR g ⟨a7 _ _ ap.TIz ap.TIi1 ap.TIi2 x.gi, a3, a4, .inr ⟨tp, ob, true, a1, a7 _ _ h3 h4 h5 h2, h3, h4, h5, h6⟩⟩ a5 a6 fun c o n1 _ n3 n4 e => a7 c o n1 n3 n4 e
theorem zs_end {R : Option Value → Shared → Prop} (hd : Ar.handled = none) (ap : ZipApart zz ti tr j1 j2 la lb) (x : ZS sh.heap zz ti tr j1 j2 la lb sS n) (q1 : sh.heap.IsTuple la us) (q2 : sh.heap.IsTuple lb vs) (e1 : us[n]? = none)
    (hR : ∀ g, (∀ c o, c ≠ zz → c ≠ tr → c ≠ j1 → c ≠ j2 → sh.heap.get? c = some o → g.get? c = some o) → R none { sh with heap := g }) :
    wpAny (model pg wd) Ar (pyNext (.ref zz)) R Er sh := by
  rcases x.st with ⟨h1, h2⟩ | ⟨tp, ob, f, h1, h2, h3, h4, h5, h6⟩
  · exact RZ.pyNext_zipT_end hd ap h1 x.gi h2 x.p1 x.p2 q1 q2 (.inl e1) fun g a => hR g a
  · exact zh_end hd ap h1 h2 x.gi x.p1 q1 e1 fun g a => hR g fun c o n1 _ n3 n4 e => a c o n1 n3 n4 e
theorem ne_hi {x a s : Addr} (h1 : x < s) (h2 : s < a) : a ≠ x := Nat.ne_of_gt (Nat.lt_trans h1 h2)
/-- the pairs made so far -/
structure ZG (us vs : Array Value) (lo : Addr) (h : Heap) (ps : List Addr) : Prop where
  up : ps.Pairwise (· < ·)
  hi : ∀ a ∈ ps, lo < a
  pr : ∀ (j : Nat) (a : Addr), ps[j]? = some a → ∃ u v, us[j]? = some u ∧ vs[j]? = some v ∧ IsPair h a u v
abbrev lstO (acc : Array Value) (c : Nat) : Obj := { cls := .type "list", dict := none, data := .seq acc c, slots := #[] }
theorem zl_loop {Rr : Result → Shared → Prop} (hd : Ar.handled = none) (ap : ZipApart zz ti tr j1 j2 la lb) (lo : ZLow zz ti tr j1 j2 la lb sS) (sz : us.size = vs.size) (small : us.size ≤ 1000) (res : Value) {h0 : Heap}
    (hR : ∀ g tk acc c ps, (∀ b o, b ≠ sS → b ≠ zz → b ≠ tr → b ≠ j1 → b ≠ j2 → h0.get? b = some o → g.get? b = some o) → g.get? sS = some (lstO acc c) → ps.length = us.size → ZG us vs sS g ps → acc.toList = ps.map Value.ref → Rr (.ok (.ret res)) { sh with heap := g, toks := tk }) :
    ∀ (k i : Nat) (h : Heap) (tk c : Nat) (acc : Array Value) (ps : List Addr), us.size - i = k → i ≤ us.size → ZS h zz ti tr j1 j2 la lb sS i → h.IsTuple la us → h.IsTuple lb vs → (∀ b o, b ≠ sS → b ≠ zz → b ≠ tr → b ≠ j1 → b ≠ j2 → h0.get? b = some o → h.get? b = some o) →
      h.get? sS = some (lstO acc c) → acc.toList = ps.map Value.ref → ps.length = i → ZG us vs sS h ps →
      codeAny (model pg wd) Ar (.builtin "list.extend.loop" ⟨[.ref sS, .ref zz, res], []⟩) Rr { sh with heap := h, toks := tk } := by
  intro k
  induction k with
  | zero =>
    intro i h tk c acc ps hk hi hst qa qb old hS hacc hl G
    refine codeAny_builtin PySem.F.entry_extend_loop ?_
    rw [Around.under_plainId PySem.F.plain_extend_loop _]
    show wpAny (model pg wd) Ar.in1 (pyNext (.ref zz) >>= _) _ _ _
    refine wpAny_bind (zs_end (sh := { sh with heap := h, toks := tk }) (Ar := Ar.in1) hd ap hst qa qb (Array.getElem?_eq_none (by omega)) fun g a => ?_)
    refine wpAny_pure (hR g tk acc c ps (fun b o n1 n2 n3 n4 n5 e => a b o n2 n3 n4 n5 (old b o n1 n2 n3 n4 n5 e)) (a sS _ (Nat.ne_of_gt lo.z) (Nat.ne_of_gt lo.r) (Nat.ne_of_gt lo.a) (Nat.ne_of_gt lo.b) hS) (by omega) ⟨G.up, G.hi, fun j b hj => ?_⟩ hacc)
    obtain ⟨u, v, x1, x2, x3⟩ := G.pr j b hj
    have hb := G.hi b (List.mem_of_getElem? hj)
    exact ⟨u, v, x1, x2, a b _ (ne_hi lo.z hb) (ne_hi lo.r hb) (ne_hi lo.a hb) (ne_hi lo.b hb) x3⟩
  | succ k ih =>
    intro i h tk c acc ps hk hi hst qa qb old hS hacc hl G
    have hlt : i < us.size := by omega
    have e1 : us[i]? = some us[i] := Array.getElem?_eq_getElem hlt
    have e2 : vs[i]? = some (vs[i]'(by omega)) := Array.getElem?_eq_getElem (by omega)
    have hsz : acc.size = i := by rw [← Array.length_toList, hacc, List.length_map, hl]
    have hSl : sS < h.objs.size := Heap.lt_size hS
    refine codeAny_builtin PySem.F.entry_extend_loop ?_
    rw [Around.under_plainId PySem.F.plain_extend_loop _]
    show wpAny (model pg wd) Ar.in1 (pyNext (.ref zz) >>= _) _ _ _
    refine wpAny_bind (zs_item (sh := { sh with heap := h, toks := tk }) ap hst hSl qa qb e1 e2 fun g st2 pr2 sz2 a => ?_)
    dsimp only at pr2 sz2 a ⊢
    have hS2 := a sS _ (Nat.ne_of_gt lo.z) (Nat.ne_of_gt lo.r) (Nat.ne_of_gt lo.a) (Nat.ne_of_gt lo.b) hS
    have w : ∀ b o, b ≠ sS → g.get? b = some o → (g.update sS (Obj.mapSeq (·.push (Value.ref h.objs.size)))).get? b = some o := fun b o nb e => (Heap.get?_update_other _ _ (Ne.symm nb)).trans e
    have two : ∀ b o, b ≠ sS → b ≠ zz → b ≠ tr → b ≠ j1 → b ≠ j2 → h.get? b = some o → (g.update sS (Obj.mapSeq (·.push (Value.ref h.objs.size)))).get? b = some o := fun b o n1 n2 n3 n4 n5 e => w b o n1 (a b o n2 n3 n4 n5 e)
    show wpAny (model pg wd) Ar.in1 (updateSeq sS (·.push (Value.ref h.objs.size)) >>= _) _ _ _
    refine wpAny_bind ?_
    refine wpAny_updateSeq hS2 rfl (wpAny_pure ⟨plainId_quiet PySem.F.plain_extend_loop _, ih (i + 1) _ tk _ (acc.push (Value.ref h.objs.size)) (ps ++ [h.objs.size]) (by omega) hlt (st2.over lo w)
      (qa.at fun o e => two la o (Nat.ne_of_lt lo.c) ap.l1z ap.l1TO ap.l1i1 ap.l1i2 e) (qb.at fun o e => two lb o (Nat.ne_of_lt lo.d) ap.l2z ap.l2TO ap.l2i1 ap.l2i2 e)
      (fun b o n1 n2 n3 n4 n5 e => two b o n1 n2 n3 n4 n5 (old b o n1 n2 n3 n4 n5 e)) (Heap.get?_update_self _ hS2 rfl) (by rw [Array.toList_push, hacc, List.map_append]; rfl) (by rw [List.length_append, hl]; rfl) ⟨?_, ?_, ?_⟩⟩) (by rw [hsz]; have := sizeLine_eq; omega) (by show (acc.push (Value.ref h.objs.size)).size ≤ sizeLine + 1; rw [Array.size_push, hsz]; have := sizeLine_eq; omega)
    · refine List.pairwise_append.mpr ⟨G.up, List.pairwise_singleton _ _, fun x hx y hy => ?_⟩
      rw [List.mem_singleton.mp hy]
      obtain ⟨j, hj⟩ := List.mem_iff_getElem?.mp hx
      obtain ⟨_, _, _, _, e⟩ := G.pr j x hj
      exact Heap.lt_size e
    · intro x hx
      rcases List.mem_append.mp hx with hx | hx
      · exact G.hi x hx
      · rw [List.mem_singleton.mp hx]; exact hSl
    · intro j b hj
      by_cases c1 : j < ps.length
      · rw [List.getElem?_append_left c1] at hj
        obtain ⟨u, v, x1, x2, x3⟩ := G.pr j b hj
        have hb := G.hi b (List.mem_of_getElem? hj)
        exact ⟨u, v, x1, x2, two b _ (Nat.ne_of_gt hb) (ne_hi lo.z hb) (ne_hi lo.r hb) (ne_hi lo.a hb) (ne_hi lo.b hb) x3⟩
      · rw [List.getElem?_append_right (by omega)] at hj
        have c2 : j = i := by
          have := (List.getElem?_eq_some_iff.mp hj).1
          simp at this; omega
        subst c2
        rw [hl, Nat.sub_self] at hj
        have hb : h.objs.size = b := by simpa using hj
        subst hb
        exact ⟨_, _, e1, e2, w _ _ (Nat.ne_of_gt hSl) pr2⟩
end
end Shp
end
section
set_option maxRecDepth 100000
set_option maxHeartbeats 4000000
namespace Shp
open PySem PySem.Spec PyProof.Rows
theorem zip_no_len : typeLookup (.type "zip") "__len__" = pure none := am_miss_of_fast (by decide +kernel)
theorem zip_no_hint : typeLookup (.type "zip") "__length_hint__" = pure none := am_miss_of_fast (by decide +kernel)
section
variable {pg : Program} {wd : World} {Ar : Around} {Er : Value → Shared → Prop} {sh : Shared} {zz ti tr j1 j2 la lb sS : Addr} {n : Nat} {us vs : Array Value}
theorem zip_hint {R : Bool → Shared → Prop} (ty : sh.TypeIs (.ref zz) "zip") (hR : ∀ b, R b sh) : wpAny (model pg wd) Ar (Builtin.List.listLengthHint (.ref zz)) R Er sh := by
  unfold Builtin.List.listLengthHint
  refine wpAny_bind (wpAny_specialOf ty zip_no_len ?_)
  wp_delta
  refine wpAny_ite_split (fun q => absurd q (by decide)) (fun _ => ?_)
  refine wpAny_ite_split (fun q => absurd q (by decide)) (fun _ => ?_)
  refine wpAny_bind (wpAny_specialOf ty zip_no_hint ?_)
  exact wpAny_pure (hR _)
theorem zl_extend {Rr : Result → Shared → Prop} (hd : Ar.handled = none) (ap : ZipApart zz ti tr j1 j2 la lb) (lo : ZLow zz ti tr j1 j2 la lb sS) (sz : us.size = vs.size) (small : us.size ≤ 1000) (res : Value) (c0 : Nat)
    (gz : IsZip sh.heap zz ti tr .none) (gr : IsPair sh.heap tr .none .none) (gi : IsPair sh.heap ti (.ref j1) (.ref j2)) (p1 : sh.heap.IsTupleIter j1 la 0) (p2 : sh.heap.IsTupleIter j2 lb 0) (qa : sh.heap.IsTuple la us) (qb : sh.heap.IsTuple lb vs)
    (hS : sh.heap.get? sS = some (lstO #[] c0))
    (hR : ∀ g tk acc c ps, (∀ b o, b ≠ sS → b ≠ zz → b ≠ tr → b ≠ j1 → b ≠ j2 → sh.heap.get? b = some o → g.get? b = some o) → g.get? sS = some (lstO acc c) → ps.length = us.size → ZG us vs sS g ps → acc.toList = ps.map Value.ref → Rr (.ok (.ret res)) { sh with heap := g, toks := tk }) :
    wpAny (model pg wd) Ar.in1 (Builtin.List.listExtendWith (.ref sS) (.ref zz) res)
      (fun fin s' => match fin with | .done f => Rr (.ok f) s' | .again c' => c'.quiet = true ∧ codeAny (model pg wd) Ar c' Rr s') (fun e s' => Rr (.error e) s') sh := by
  have ty : sh.TypeIs (.ref zz) "zip" := ⟨_, gz, rfl⟩
  have nS : sS ≠ zz := Nat.ne_of_gt lo.z
  have go : ∀ (h : Heap) (c1 tk : Nat), (∀ b o, b ≠ sS → sh.heap.get? b = some o → h.get? b = some o) → h.get? sS = some (lstO #[] c1) → codeAny (model pg wd) Ar (.builtin "list.extend.loop" ⟨[.ref sS, .ref zz, res], []⟩) Rr { sh with heap := h, toks := tk } := by
    intro h c1 tk k1 k2
    exact zl_loop (us := us) (vs := vs) hd ap lo sz small res (h0 := sh.heap) hR us.size 0 h tk c1 #[] [] (Nat.sub_zero _) (Nat.zero_le _) ⟨k1 _ _ (Nat.ne_of_lt lo.i) gi, p1.at fun o e => k1 _ o (Nat.ne_of_lt lo.a) e, p2.at fun o e => k1 _ o (Nat.ne_of_lt lo.b) e, .inl ⟨k1 _ _ (Nat.ne_of_lt lo.z) gz, k1 _ _ (Nat.ne_of_lt lo.r) gr⟩⟩
      (qa.at fun o e => k1 _ o (Nat.ne_of_lt lo.c) e) (qb.at fun o e => k1 _ o (Nat.ne_of_lt lo.d) e) (fun b o n1 _ _ _ _ e => k1 b o n1 e) k2 rfl rfl ⟨List.Pairwise.nil, (fun _ h => nomatch h), (fun j a h => by simp at h)⟩
  unfold Builtin.List.listExtendWith
  refine wpAny_bind (wpAny_typeOf (T := "zip") ty ?_)
  have f1 : Builtin.List.listSameRef (.ref sS) (.ref zz) = false := by simp [Builtin.List.listSameRef, nS]
  have f2 : (Value.type "zip" == Value.type "list") = false := by decide
  have f3 : (Value.type "zip" == Value.type "tuple") = false := by decide
  simp only [f1, f2, f3, Bool.or_false, Bool.false_eq_true, if_false]
  refine wpAny_bind (wpAny_pyIter_zip gz ?_)
  refine wpAny_bind (wpAny_holding (zip_hint ty fun b => ?_))
  refine wpAny_ite_split (fun _ => ?_) (fun _ => wpAny_pure ⟨plainId_quiet PySem.F.plain_extend_loop _, go _ c0 _ (fun b o _ e => e) hS⟩)
  refine wpAny_bind (wpAny_rule ?_)
  refine wpAny_bind ?_
  show wpAny (model pg wd) _ (updateSeq sS (·.push .none) >>= fun _ => updateSeq sS (·.pop)) _ _ _
  refine wpAny_bind (wpAny_updateSeq hS rfl ?_)
  have hS2 := Heap.get?_update_self (Obj.mapSeq (·.push Value.none)) hS rfl
  refine wpAny_updateSeq (hz := by seq_fits) hS2 rfl ?_
  have hS3 := Heap.get?_update_self (Obj.mapSeq (·.pop)) hS2 rfl
  refine wpAny_pure ⟨plainId_quiet PySem.F.plain_extend_loop _, go _ _ _ (fun b o nb e => ?_) hS3⟩
  exact (Heap.get?_update_other _ _ (Ne.symm nb)).trans ((Heap.get?_update_other _ _ (Ne.symm nb)).trans e)
/-- list of a new zip -/
theorem zl_call {R : Value → Shared → Prop} (hd : Ar.handled = none) (ap : ZipApart zz ti tr j1 j2 la lb) (sz : us.size = vs.size) (small : us.size ≤ 1000)
    (gz : IsZip sh.heap zz ti tr .none) (gr : IsPair sh.heap tr .none .none) (gi : IsPair sh.heap ti (.ref j1) (.ref j2)) (p1 : sh.heap.IsTupleIter j1 la 0) (p2 : sh.heap.IsTupleIter j2 lb 0) (qa : sh.heap.IsTuple la us) (qb : sh.heap.IsTuple lb vs)
    (hR : ∀ g tk acc c ps, (∀ b o, b ≠ zz → b ≠ tr → b ≠ j1 → b ≠ j2 → sh.heap.get? b = some o → g.get? b = some o) → g.get? sh.heap.objs.size = some (lstO acc c) → ps.length = us.size → ZG us vs sh.heap.objs.size g ps → acc.toList = ps.map Value.ref → R (.ref sh.heap.objs.size) { sh with heap := g, toks := tk }) :
    wpAny (model pg wd) Ar (call (.type "list") [.ref zz]) R Er sh := by
  have lo : ZLow zz ti tr j1 j2 la lb sh.heap.objs.size := by
    obtain ⟨_, x1, _⟩ := id p1
    obtain ⟨_, x2, _⟩ := id p2
    obtain ⟨_, x3, _⟩ := id qa
    obtain ⟨_, x4, _⟩ := id qb
    exact ⟨Heap.lt_size gz, Heap.lt_size gi, Heap.lt_size gr, Heap.lt_size x1, Heap.lt_size x2, Heap.lt_size x3, Heap.lt_size x4⟩
  refine callType_codes (Q₁ := fun ob s1 => ob = .ref sh.heap.objs.size ∧ s1 = { sh with heap := sh.heap.push { cls := .type "list", data := .seq #[] } }) PySem.F.called_list (PySem.F.typeCall_list_1 _) PySem.F.entry_list_init (code_list_new _ ⟨rfl, rfl⟩) fun ob s1 h1 => ?_
  obtain ⟨rfl, rfl⟩ := h1
  have hS : (sh.heap.push { cls := .type "list", data := .seq #[] }).get? sh.heap.objs.size = some { cls := .type "list", data := .seq #[] } := Heap.get?_push_size _ rfl
  refine ⟨⟨_, hS, rfl⟩, PySem.F.args_list_init_2 _ _, ?_⟩
  show wpAny (model pg wd) _ (do let old ← Builtin.List.listItems (.ref sh.heap.objs.size); Builtin.List.listUpdate (.ref sh.heap.objs.size) (fun _ => #[]); letGo old.toList.reverse; Builtin.List.listExtendWith (.ref sh.heap.objs.size) (.ref zz) .none) _ _ _
  refine wpAny_bind ?_
  unfold Builtin.List.listItems
  refine wpAny_bind (wpAny_seqItems hS rfl (wpAny_pure ?_))
  show wpAny (model pg wd) _ (updateSeq sh.heap.objs.size (fun _ => #[]) >>= fun _ => letGo (#[] : Array Value).toList.reverse >>= fun _ => Builtin.List.listExtendWith (.ref sh.heap.objs.size) (.ref zz) .none) _ _ _
  refine wpAny_bind (wpAny_updateSeq hS rfl ?_)
  have hS2 := Heap.get?_update_self (Obj.mapSeq (fun _ => (#[] : Array Value))) hS rfl
  have k1 : ∀ b o, sh.heap.get? b = some o → ((sh.heap.push { cls := .type "list", data := .seq #[] }).update sh.heap.objs.size (Obj.mapSeq (fun _ => (#[] : Array Value)))).get? b = some o := fun b o e =>
    (Heap.get?_update_other _ _ (Nat.ne_of_gt (Heap.lt_size e))).trans (Heap.get?_push_of_some _ e)
  refine wpAny_bind (wpAny_letGo ?_)
  refine zl_extend (us := us) (vs := vs) (Ar := Ar.in1) hd ap lo sz small .none _ (k1 _ _ gz) (k1 _ _ gr) (k1 _ _ gi) (p1.at fun o e => k1 _ o e) (p2.at fun o e => k1 _ o e) (qa.at fun o e => k1 _ o e) (qb.at fun o e => k1 _ o e) hS2 fun g tk acc c ps k2 x1 x2 x3 x4 => ?_
  exact ⟨rfl, hR g tk acc c ps (fun b o n2 n3 n4 n5 e => k2 b o (Nat.ne_of_lt (Heap.lt_size e)) n2 n3 n4 n5 (k1 b o e)) x1 x2 x3 x4⟩
end
end Shp
end
section
set_option maxRecDepth 100000
set_option maxHeartbeats 4000000
namespace Shp
open PySem PySem.Spec PyProof.Rows L2
/-- list(zip(t, u)) of two tuples -/
def tLzip (K : PySem.W.Frag) (t u : TE) : TE := fun σ H Q => t σ H fun x H1 => u σ H1 fun y H2 => ∃ (a b : Addr) (xs ys : List V), x = .ref a ∧ y = .ref b ∧ SqT K H2 a xs ∧ SqT K H2 b ys ∧ xs.length = ys.length ∧ xs.length ≤ 1000 ∧
  ∀ (D : Addr) (ts : List Addr) (H3 : Hp), Same H2 H3 → H2 D = none → H3 D = some (.lst (ts.map V.ref)) → Paired (fun (t : Addr) (z : V × V) => H3 t = some (.tup [z.1, z.2])) ts (xs.zip ys) → Q (.ref D) H3
/-- the pairs tracked where they lie -/
def putZ : Hp → List Addr → List (V × V) → Hp
  | H, a :: ps, z :: zs => putZ (upd H a (.tup [z.1, z.2])) ps zs
  | H, _, _ => H
theorem putZ_other {b : Addr} : ∀ (ps : List Addr) (zs : List (V × V)) (H : Hp), b ∉ ps → putZ H ps zs b = H b
  | [], _, _, _ => rfl
  | _ :: _, [], _, _ => rfl
  | a :: ps, z :: zs, H, n => by
    rw [List.mem_cons, not_or] at n
    show putZ (upd H a (.tup [z.1, z.2])) ps zs b = H b
    rw [putZ_other ps zs _ n.2, upd_ne n.1]
theorem putZ_there : ∀ (ps : List Addr) (zs : List (V × V)) (H : Hp), ps.length = zs.length → ps.Nodup → Paired (fun (t : Addr) (z : V × V) => putZ H ps zs t = some (.tup [z.1, z.2])) ps zs
  | [], [], _, _, _ => .nil
  | [], _ :: _, _, e, _ => nomatch e
  | _ :: _, [], _, e, _ => nomatch e
  | a :: ps, z :: zs, H, e, nd => by
    have nd2 := List.nodup_cons.mp nd
    refine .cons ?_ (putZ_there ps zs (upd H a (.tup [z.1, z.2])) (Nat.succ.inj e) nd2.2)
    show putZ (upd H a (.tup [z.1, z.2])) ps zs a = _
    rw [putZ_other ps zs _ nd2.1, upd_same]
theorem refs_vals : ∀ ps : List Addr, Vals (ps.map V.ref) (ps.map Value.ref)
  | [] => .nil
  | _ :: r => .cons rfl (refs_vals r)
theorem pair_mem {α β : Type} {G : α → β → Prop} : ∀ {xs : List α} {ys : List β}, Paired G xs ys → ∀ {x : α}, x ∈ xs → ∃ (j : Nat) (y : β), xs[j]? = some x ∧ ys[j]? = some y ∧ G x y
  | _, _, .cons g r, x, m => by
    rcases List.mem_cons.mp m with rfl | m
    · exact ⟨0, _, rfl, rfl, g⟩
    · obtain ⟨j, y, h1, h2, h3⟩ := pair_mem r m
      exact ⟨j + 1, y, h1, h2, h3⟩
section
variable {X : Cx} {e1 e2 : Expr} {t u : TE} {p p2 pos pos2 : Pos}
theorem z_laid {pins : List (Addr × Obj)} {σ : L2.St} {H : Hp} {s : Shared} {g : Heap} {tk c : Nat} {xs ys : List V} {us vs : List Value} {acc : Array Value} {ps : List Addr} {S : Addr} (I : Inv X pins σ H s) (hS : s.heap.objs.size ≤ S) (small : xs.length ≤ 1000) (rx : Vals xs us) (ry : Vals ys vs) (hxy : xs.length = ys.length)
    (hk : ∀ b o, s.heap.get? b = some o → g.get? b = some o) (gS : g.get? S = some (lstO acc c)) (hl : ps.length = us.length) (G : ZG us.toArray vs.toArray S g ps) (hacc : acc.toList = ps.map Value.ref) :
    ∃ H' : Hp, Same H H' ∧ H S = none ∧ H' S = some (.lst (ps.map V.ref)) ∧ Paired (fun (t : Addr) (z : V × V) => H' t = some (.tup [z.1, z.2])) ps (xs.zip ys) ∧ Inv X pins σ H' { s with heap := g, toks := tk } := by
  have lx := rx.length
  have ly := ry.length
  have hlz : ps.length = (xs.zip ys).length := by rw [List.length_zip]; omega
  have nd : ps.Nodup := List.Pairwise.imp (fun h => Nat.ne_of_lt h) G.up
  have nS : S ∉ ps := fun m => Nat.lt_irrefl _ (G.hi _ m)
  have free : ∀ a ∈ ps, H a = none := fun a ha => I.hok.fresh (Nat.le_trans hS (Nat.le_of_lt (G.hi a ha)))
  have freeS : H S = none := I.hok.fresh hS
  have there := putZ_there ps (xs.zip ys) (upd H S (.lst (ps.map V.ref))) hlz nd
  have same : ∀ b, b ∉ ps → b ≠ S → putZ (upd H S (.lst (ps.map V.ref))) ps (xs.zip ys) b = H b := fun b h1 h2 => by rw [putZ_other ps _ _ h1, upd_ne h2]
  have atS : putZ (upd H S (.lst (ps.map V.ref))) ps (xs.zip ys) S = some (.lst (ps.map V.ref)) := by rw [putZ_other ps _ _ nS, upd_same]
  generalize putZ (upd H S (.lst (ps.map V.ref))) ps (xs.zip ys) = H' at *
  have kp : ∀ b o, H b = some o → H' b = some o := fun b o h => by
    rw [same b (fun m => by rw [free b m] at h; cases h) (fun m => by rw [m, freeS] at h; cases h)]
    exact h
  have low : ∀ b o, s.heap.get? b = some o → b ∉ ps ∧ b ≠ S := fun b o h => by
    have hb := Heap.lt_size h
    exact ⟨fun m => Nat.lt_irrefl _ (Nat.lt_trans (Nat.lt_of_lt_of_le hb hS) (G.hi b m)), Nat.ne_of_lt (Nat.lt_of_lt_of_le hb hS)⟩
  refine ⟨H', kp, freeS, atS, there, ?_⟩
  refine I.call' (ch := []) rfl ⟨fun b o q _ _ _ => hk b o q, fun b o q _ _ _ => ⟨o.slots, hk b o q⟩, fun b o q n _ => ?_, fun b o q _ => ⟨o, hk b o q⟩, fun b xs q => kp b _ q, fun b o u q => kp b _ q, fun b ps q => ⟨#[], by rw [kp b _ q]; simp⟩⟩ (fun b o q => ?_) I.bare fun b z => by simp at z
  · obtain ⟨n1, n2⟩ := low b o q
    rw [same b n1 n2]; exact n
  · by_cases m : b ∈ ps
    · obtain ⟨j, z, h1, h2, h3⟩ := pair_mem there m
      rw [h3] at q
      cases q
      obtain ⟨w1, w2, f1, f2, f3⟩ := G.pr j b h1
      obtain ⟨hzx, hzy⟩ : xs[j]? = some z.1 ∧ ys[j]? = some z.2 := by
        rw [List.getElem?_zip_eq_some] at h2
        exact h2
      obtain ⟨v1, g1, r1⟩ := rx.get hzx
      obtain ⟨v2, g2, r2⟩ := ry.get hzy
      have e1 : v1 = w1 := by
        have : us[j]? = some w1 := by simpa using f1
        rw [g1] at this; exact Option.some.inj this
      have e2 : v2 = w2 := by
        have : vs[j]? = some w2 := by simpa using f2
        rw [g2] at this; exact Option.some.inj this
      subst e1 e2
      exact ⟨by show 2 ≤ sizeLine; decide, [v1, v2], .cons r1 (.cons r2 .nil), ⟨_, f3, rfl, _, rfl⟩⟩
    · by_cases m2 : b = S
      · subst m2
        rw [atS] at q
        cases q
        refine ⟨by rw [List.length_map, sizeLine_eq]; omega, acc.toList, c, by rw [hacc]; exact refs_vals ps, ?_⟩
        rw [Array.toArray_toList]
        exact gS
      · rw [same b m m2] at q
        exact (I.hok b o q).stay (fun d v _ y => hk d v y) (fun d y => kp d _ y) fun d xs y => kp d _ y
theorem pe_lzip (hc : X.calm = true) (hg : Gl X "list") (hm : X.mg "list" = none) (hgz : Gl X "zip") (hmz : X.mg "zip" = none) (h1 : PE X e1 t) (h2 : PE X e2 u)
    (hs : starEach [.Call (.Name "zip" p2) [e1, e2] [] pos2] X.env = [(false, eval (.Call (.Name "zip" p2) [e1, e2] [] pos2) X.env)] := by rfl)
    (hs2 : starEach [e1, e2] X.env = (false, eval e1 X.env) :: starEach [e2] X.env := by rfl) (hs3 : starEach [e2] X.env = [(false, eval e2 X.env)] := by rfl) :
    PE X (.Call (.Name "list" p) [.Call (.Name "zip" p2) [e1, e2] [] pos2] [] pos) (tLzip X.K t u) := by
  refine ⟨fun pins s σ H Q I h => ?_⟩
  refine wpAny_Call_Name_kw (ld_blt I hg hm (by decide +kernel : bootBuiltins "list" = some (.type "list")) ?_)
  refine PyProof.Rows.callWith_type1 ?_ hs rfl
  rw [hs]
  show wpAny _ _ (spliced [(false, eval (.Call (.Name "zip" p2) [e1, e2] [] pos2) X.env)]) _ _ s
  refine Calls.spliced_cons ?_
  refine wpAny_Call_Name_kw (ld_blt I hgz hmz PyProof.Rows.boot_zip ?_)
  have ha : PA X [e1, e2] (tCons t (tCons u tNil)) := pa_cons h1 (pa_cons h2 pa_nil hs3) hs2
  refine PyProof.Rows.callWith_type1 (thn (ha.run pos2 pins s σ H (fun zs H2 => match zs with
    | [x, y] => ∃ (a b : Addr) (xs ys : List V), x = .ref a ∧ y = .ref b ∧ SqT X.K H2 a xs ∧ SqT X.K H2 b ys ∧ xs.length = ys.length ∧ xs.length ≤ 1000 ∧
        ∀ (D : Addr) (ts : List Addr) (H3 : Hp), Same H2 H3 → H2 D = none → H3 D = some (.lst (ts.map V.ref)) → Paired (fun (t : Addr) (z : V × V) => H3 t = some (.tup [z.1, z.2])) ts (xs.zip ys) → Q (.ref D) H3
    | _ => False) I h) fun ws s1 ⟨zs, H1, I1, r1, q1⟩ => ?_) hs2 (by rw [hs3]; rfl)
  match zs, r1, q1 with
  | [x, y], r1, q1 =>
    obtain ⟨a, b, xs, ys, rfl, rfl, ta, tb, hxy, small, q⟩ := q1
    cases r1 with
    | cons ra rr =>
      cases rr with
      | cons rb rr =>
        cases rr
        cases ra
        cases rb
        obtain ⟨us, rx, pa, _⟩ := I1.tuple ta
        obtain ⟨vs, ry, pb, _⟩ := I1.tuple tb
        have lx := rx.length
        have ly := ry.length
        have la : a < s1.heap.objs.size := by obtain ⟨_, e, _⟩ := id pa; exact Heap.lt_size e
        have lb : b < s1.heap.objs.size := by obtain ⟨_, e, _⟩ := id pb; exact Heap.lt_size e
        refine RZ.call_zipT pa pb fun h1 gz gi gr p1 p2 sz k1 => ?_
        refine Calls.spliced_nil ?_
        have ap : ZipApart (s1.heap.objs.size + 4) (s1.heap.objs.size + 2) (s1.heap.objs.size + 3) s1.heap.objs.size (s1.heap.objs.size + 1) a b := by
          generalize s1.heap.objs.size = m at *
          exact ⟨by simp, by simp, by simp, by simp, by simp, by simp, by simp, by simp, by simp, by simp, Nat.ne_of_lt (Nat.lt_of_lt_of_le la (Nat.le_add_right _ _)), Nat.ne_of_lt (Nat.lt_of_lt_of_le la (Nat.le_add_right _ _)), Nat.ne_of_lt la, Nat.ne_of_lt (Nat.lt_of_lt_of_le la (Nat.le_add_right _ _)), Nat.ne_of_lt (Nat.lt_of_lt_of_le lb (Nat.le_add_right _ _)), Nat.ne_of_lt (Nat.lt_of_lt_of_le lb (Nat.le_add_right _ _)), Nat.ne_of_lt lb, Nat.ne_of_lt (Nat.lt_of_lt_of_le lb (Nat.le_add_right _ _))⟩
        refine zl_call (sh := { s1 with heap := h1 }) (us := us.toArray) (vs := vs.toArray) (I1.ok.hd hc) ap (by simp; omega) (by simp; omega) gz gr gi p1 p2 ((show s1.heap.IsTuple a us.toArray from pa).at fun o e => k1 _ o e) ((show s1.heap.IsTuple b vs.toArray from pb).at fun o e => k1 _ o e) fun g tk acc c ps k2 gS hl G hacc => ?_
        have old : ∀ b' o, s1.heap.get? b' = some o → g.get? b' = some o := fun b' o e => by
          have hb := Heap.lt_size e
          exact k2 b' o (Nat.ne_of_lt (Nat.lt_of_lt_of_le hb (Nat.le_add_right _ _))) (Nat.ne_of_lt (Nat.lt_of_lt_of_le hb (Nat.le_add_right _ _))) (Nat.ne_of_lt hb) (Nat.ne_of_lt (Nat.lt_of_lt_of_le hb (Nat.le_add_right _ _))) (k1 b' o e)
        have hS : s1.heap.objs.size ≤ h1.objs.size := by rw [sz]; exact Nat.le_add_right _ _
        obtain ⟨H3, sm, fr, atD, prs, J⟩ := z_laid (tk := tk) I1 hS small rx ry hxy old gS (by simpa using hl) G hacc
        exact ⟨.ref _, H3, J, rfl, q _ ps H3 sm fr atD prs⟩
end
end Shp
end
section
set_option maxRecDepth 100000
set_option maxHeartbeats 4000000
namespace Shp
open PySem PySem.Spec PyProof.Rows L2
open Vapcma (Form)
section
variable {P : Program} {w : World} {K : PySem.W.Frag} {mg : Str → Option Value} {base : Heap}
def leaders (J : Nat → Nat) (n : Nat) : Nat := ((List.range n).filter fun i => J i == i).length
theorem leaders_le (J : Nat → Nat) (n : Nat) : leaders J n ≤ n := by
  have := List.length_filter_le (fun i => J i == i) (List.range n)
  rwa [List.length_range] at this
theorem leaders_lt {J : Nat → Nat} {a b n : Nat} (ha : J a = a) (hn : a < n) (ne : a ≠ b) : leaders (join J a b) n < leaders J n := by
  refine filter_lt (x := a) (List.mem_range.mpr hn) (fun y h => ?_) (by simp [ha]) ?_
  · by_cases c : y = a
    · subst c; simp [ha]
    · simpa [join, c] using h
  · simp [join]; exact fun h => ne h.symm
/-- the same nodes, joined otherwise -/
def Nd.to (nd : Nd) (j : List Nat) : Nd := ⟨nd.s, nd.p, j⟩
theorem to_set {nd : Nd} {j : List Nat} (hj : j.length = nd.n) {a b : Nat} (ha : a < nd.n) : (nd.to (j.set a b)).J = join (nd.to j).J a b := by
  funext i
  show (j.set a b).getD i i = if i = a then b else j.getD i i
  rw [List.getD_eq_getElem?_getD, List.getElem?_set]
  by_cases c : i = a
  · subst c
    rw [if_pos rfl, if_pos (by omega), if_pos rfl]; rfl
  · rw [if_neg (Ne.symm c), if_neg c, List.getD_eq_getElem?_getD]
def PairAt (K : PySem.W.Frag) (H : Hp) (t : Addr) (z : Nat × Nat) : Prop := SqT K H t [.int (z.1 : Int), .int (z.2 : Int)]
def sp_Nodes_make_same (T : Top K mg) : Sp := fun vs H Q _ => ∃ (a dx sa pa ja : Addr) (nd : Nd) (x y : Nat),
  vs = [.ref a, .int (x : Int), .int (y : Int)] ∧ NAt K T.C_Nodes H a dx sa pa ja nd ∧ nd.Ok ∧ (∀ i, nd.J i = i) ∧ x < nd.n ∧ y < nd.n ∧ nd.n ≤ 10000 ∧
  (∀ (H' : Hp) (j : List Nat), NAt K T.C_Nodes H' a dx sa pa ja (nd.to j) → j.length = nd.n → UInv nd.k nd.pt nd.n x y (nd.to j).J [] → Keep [sa, pa, ja] H H' → Q (.bl true) H') ∧
  ((∀ th, Sol nd.k nd.pt nd.n th → th x ≠ th y) → ∀ H', Keep [sa, pa, ja] H H' → Q (.bl false) H')
structure SameSt (K : PySem.W.Frag) (C : Addr) (nd : Nd) (H H' : Hp) (a dx sa pa ja L : Addr) (x y m : Nat) (j : List Nat) (W : List (Nat × Nat)) (ts : List Addr) : Prop where
  kp : Keep [sa, pa, ja] H H'
  n : NAt K C H' a dx sa pa ja (nd.to j)
  lj : j.length = nd.n
  iv : UInv nd.k nd.pt nd.n x y (nd.to j).J W
  l : H' L = some (.lst (ts.map V.ref))
  t : Paired (PairAt K H') ts W
  me : m = 3 * leaders (nd.to j).J nd.n + W.length
  mz : m ≤ 3 * nd.n + 1
theorem paired_app {α β : Type} {R : α → β → Prop} : ∀ {ys zs : List β} {xs : List α}, Paired R xs (ys ++ zs) → ∃ us vs, xs = us ++ vs ∧ Paired R us ys ∧ Paired R vs zs
  | [], _, xs, h => ⟨[], xs, rfl, .nil, h⟩
  | y :: ys, zs, _, .cons a r => by
    obtain ⟨us, vs, rfl, h1, h2⟩ := paired_app r
    exact ⟨_ :: us, vs, rfl, .cons a h1, h2⟩
theorem paired_unmap {α β γ : Type} {f : β → γ} {R : α → γ → Prop} : ∀ {xs : List α} {ys : List β}, Paired R xs (ys.map f) → Paired (fun x y => R x (f y)) xs ys
  | _, [], .nil => .nil
  | _, _ :: _, .cons a r => .cons a (paired_unmap r)
theorem nvs_set (l : List Nat) (i x : Nat) : (nvs l).set i (.int (x : Int)) = nvs (l.set i x) := by simp [nvs, List.map_set]
theorem natJoin {C : Addr} {H : Hp} {a dx sa pa ja : Addr} {nd : Nd} {j : List Nat} (h : NAt K C H a dx sa pa ja (nd.to j)) (i x : Nat) : NAt K C (upd H ja (.lst ((nvs j).set i (.int (x : Int))))) a dx sa pa ja (nd.to (j.set i x)) := by
  obtain ⟨n1, n2, n3⟩ := h.ne_a
  obtain ⟨ps, h2, h3⟩ := h.p
  exact ⟨by rw [upd_ne n3]; exact h.o, by rw [upd_ne h.d2]; exact h.s, ⟨ps, by rw [upd_ne h.d3]; exact h2, paired_mono (fun (_ : Addr) (_ : List Nat) z => seqT_upd h.j (by intro _ z; cases z) z) h3⟩, by rw [upd_same, nvs_set]; rfl, h.d1, h.d2, h.d3⟩
theorem ok_Nodes_make_same (T : Top K mg) : FnOk P w K mg base CX0 2 T.m_Nodes_make_same.f T.m_Nodes_make_same.fd P_Nodes_make_same (sp_Nodes_make_same T) := by
  refine T.m_Nodes_make_same.F.ok sc_Nodes_make_same (fun vs H Q E h => by obtain ⟨_, _, _, _, _, _, _, _, rfl, _⟩ := h; rfl) (fun cdv A outer s H vs Q E hr h => ?_)
  refine ⟨_, (pss_cons (ps_set (i := 3) sc_Nodes_make_same.nd rfl (Or.inl rfl) (pe_lst (pa_cons (pe_tup (pa_cons (pv 1) (pa_cons (pv 2) pa_nil))) pa_nil)))
    (pss_cons (ps_while PassesOwn.never (pt_cmpR op_gt (pe_callB call_len (by rfl) T.b_len PySem.boot_len (pa_cons (pv 3) pa_nil)) pe_int (nomark _)) (pss_cons (ps_set (i := 4) sc_Nodes_make_same.nd rfl (Or.inl rfl) (pe_bm0 PySem.F.plainAttrs_list PySem.F.slot_list_pop PySem.F.type_list_pop mt_pop (pv 3)))
      (pss_cons (ps_set (i := 5) sc_Nodes_make_same.nd rfl (Or.inl rfl) (pe_meth (pv 0) T.cl_Nodes T.m_Nodes_leader.m (ok_Nodes_leader T) (hr.mono (by decide)) T.m_Nodes_leader.b .nil pass0 (pa_cons (pe_ix ix_tup (pv 4) pe_int (fun _ _ => rfl)) pa_nil)))
      (pss_cons (ps_set (i := 6) sc_Nodes_make_same.nd rfl (Or.inl rfl) (pe_meth (pv 0) T.cl_Nodes T.m_Nodes_leader.m (ok_Nodes_leader T) (hr.mono (by decide)) T.m_Nodes_leader.b .nil pass0 (pa_cons (pe_ix ix_tup (pv 4) pe_int (fun _ _ => rfl)) pa_nil)))
      (pss_cons (ps_if (pt_cmpR op_eq (pv 5) (pv 6) (nomark _)) (pss_one ps_continue) pss_nil)
      (pss_one (ps_if (pt_cmpR op_eq (pe_ix ix_list (pe_fld (pv 0) rfl) (pv 5) (fun _ _ => rfl)) (pe_glob rfl T.c_FIRST_UNKNOWN.choose_spec relI) (nomark _)) (pss_one (ps_asg (pv 6) (pg_sub (pe_fld (pv 0) rfl) (pv 5) set_list))) (pss_one (ps_if (pt_cmpR op_eq (pe_ix ix_list (pe_fld (pv 0) rfl) (pv 6) (fun _ _ => rfl)) (pe_glob rfl T.c_FIRST_UNKNOWN.choose_spec relI) (nomark _)) (pss_one (ps_asg (pv 5) (pg_sub (pe_fld (pv 0) rfl) (pv 6) set_list))) (pss_one (ps_if (pt_cmpR op_ne (pe_ix ix_list (pe_fld (pv 0) rfl) (pv 5) (fun _ _ => rfl)) (pe_ix ix_list (pe_fld (pv 0) rfl) (pv 6) (fun _ _ => rfl)) (nomark _)) (pss_one (ps_ret pe_bl)) (pss_cons (ps_asg (pv 6) (pg_sub (pe_fld (pv 0) rfl) (pv 5) set_list))
            (pss_one (ps_expr (pe_bm PySem.F.plainAttrs_list PySem.F.slot_list_extend PySem.F.type_list_extend mt_extend (pv 3) (pa_cons (pe_lzip rfl (by rfl) T.b_list (by rfl) T.b_zip (pe_ix ix_list (pe_fld (pv 0) rfl) (pv 5) (fun _ _ => rfl)) (pe_ix ix_list (pe_fld (pv 0) rfl) (pv 6) (fun _ _ => rfl))) pa_nil))))))))))))))))
    (pss_one (ps_ret pe_bl)))), ?_⟩
  obtain ⟨a, dx, sa, pa, ja, nd, x, y, rfl, hN, hO, hF, hx, hy, hz, kT, kF⟩ := h
  refine ⟨_, rfl, _, rfl, (show 2 ≤ sizeLine by decide), fun t0 ht0 => ⟨(show 1 ≤ sizeLine by decide), fun L hL0 => ?_⟩⟩
  have nL : H L = none := (same_new ht0).free hL0
  have tL : t0 ≠ L := by rintro rfl; rw [upd_same] at hL0; cases hL0
  have notin : ∀ x : Addr, H x = none → x ∉ [sa, pa, ja] := fun x hx m => by
    obtain ⟨o, h1, _⟩ := hN.own x m
    rw [hx] at h1; cases h1
  have Ln := notin L nL
  have hJ : nd.J = fun i => i := funext hF
  refine ⟨fun m σ H' => ∃ (j : List Nat) (W : List (Nat × Nat)) (ts : List Addr) (v4 v5 v6 : Option V),
    σ = [some (.ref a), some (.int (x : Int)), some (.int (y : Int)), some (.ref L), v4, v5, v6] ∧ SameSt K T.C_Nodes nd H H' a dx sa pa ja L x y m j W ts,
    ⟨3 * leaders nd.J nd.n + 1, nd.j, [(x, y)], [t0], none, none, none, rfl, ?_⟩, ?_⟩
  · refine ⟨Keep.of_same ((same_new ht0).trans (same_new hL0)), hN.same ((same_new ht0).trans (same_new hL0)), hO.lj, ?_, upd_same, .cons ?_ .nil, rfl, ?_⟩
    · show UInv nd.k nd.pt nd.n x y nd.J [(x, y)]
      rw [hJ]; exact UInv.start hx hy
    · exact SqT.of (by rw [upd_ne tL, upd_same])
    · have := leaders_le nd.J nd.n; omega
  rintro m σ H' ⟨j, W, ts, v4, v5, v6, rfl, S⟩
  have hW := S.l
  have hmz := S.mz
  have hme := S.me
  refine ⟨_, rfl, _, _, rfl, .inl ⟨_, SqL.of hW, rfl⟩, _, _, rfl, rfl, _, rfl, ?_⟩
  have htl := S.t.length
  rcases List.eq_nil_or_concat W with rfl | ⟨W1, pq, rfl⟩
  · have : ts = [] := by simpa using htl
    subst this
    refine iteF (by simp) ?_
    exact kT H' j S.n S.lj S.iv S.kp
  · obtain ⟨p, q⟩ := pq
    rw [List.concat_eq_append] at S htl hme
    rw [List.length_append, List.length_singleton] at hme
    obtain ⟨ts1, tl, rfl, hp1, hp2⟩ := paired_app S.t
    cases hp2 with
    | @cons t _ _ _ hpq hnil =>
    cases hnil
    refine iteT (by simp) ?_
    refine ⟨_, fun _ _ h => h, ?_⟩
    have hlast : (((ts1 ++ [t]).map V.ref))[((ts1 ++ [t]).map V.ref).length - 1]? = some (.ref t) := by simp
    have hdrop : ((ts1 ++ [t]).map V.ref).dropLast = ts1.map V.ref := by simp
    have hL : (nd.to j).Led := ⟨hO.lp, S.lj, S.iv.bj, S.iv.ld⟩
    obtain ⟨bp, bq⟩ := S.iv.bw p q (by simp)
    have l1 := hL.ldr p
    have l2 := hL.ldr q
    generalize ho : ldr (nd.to j).J p = one at *
    generalize ht : ldr (nd.to j).J q = other at *
    have n1 : one < nd.n := l1.lt S.iv.bj bp
    have n2 : other < nd.n := l2.lt S.iv.bj bq
    refine ⟨_, rfl, tyL hW, L, _, _, rfl, rfl, hW, hlast, ?_⟩
    rw [hdrop]
    have kp2 : Keep [sa, pa, ja] H (upd H' L (.lst (ts1.map V.ref))) := S.kp.old nL
    have hN2 : NAt K T.C_Nodes (upd H' L (.lst (ts1.map V.ref))) a dx sa pa ja (nd.to j) := S.n.upd_lst hW (by intro _ z; cases z) (by intro _ _ z; cases z) (by intro _ _ _ z; cases z) Ln
    have hL2 : (upd H' L (.lst (ts1.map V.ref))) L = some (.lst (ts1.map V.ref)) := upd_same
    have ht2 : Paired (PairAt K (upd H' L (.lst (ts1.map V.ref)))) ts1 W1 := paired_mono (fun _ _ z => seqT_upd hW (by intro _ z; cases z) z) hp1
    have hpq2 : PairAt K (upd H' L (.lst (ts1.map V.ref))) t (p, q) := seqT_upd hW (by intro _ z; cases z) hpq
    generalize hH2 : upd H' L (.lst (ts1.map V.ref)) = H2 at *
    have hN2j : H2 ja = some (.lst (nvs j)) := hN2.j
    refine ⟨_, rfl, a, dx, _, rfl, hN2.o, nF_no (by decide +kernel) (by decide +kernel) (by decide +kernel) _ _ _, _, rfl, _, _, _, _, rfl, rfl, hpq2, rfl, ?_⟩
    refine ⟨a, dx, sa, pa, ja, nd.to j, p, one, rfl, hN2, hL, bp, l1, ?_⟩
    refine ⟨_, rfl, a, dx, _, rfl, hN2.o, nF_no (by decide +kernel) (by decide +kernel) (by decide +kernel) _ _ _, _, rfl, _, _, _, _, rfl, rfl, hpq2, rfl, ?_⟩
    refine ⟨a, dx, sa, pa, ja, nd.to j, q, other, rfl, hN2, hL, bq, l2, ?_⟩
    refine ⟨_, rfl, _, rfl, rfl, _, rfl, ?_⟩
    by_cases c0 : one = other
    · refine iteT (by simp [c0]) ?_
      refine ⟨m - 1, by omega, j, W1, ts1, _, _, _, rfl, ⟨kp2, hN2, S.lj, S.iv.same l1 (c0 ▸ l2), hL2, ht2, by omega, by omega⟩⟩
    · refine iteF (by simp; omega) ?_
      have hk1 : ∀ (i : Nat) (hi : i < nd.n), (nvs nd.s)[i]? = some (.int (nd.k i : Int)) := fun i hi => nvs_get (Nd.k_get hi)
      have f1 := l1.fix
      have f2 := l2.fix
      have hset : ∀ i : Nat, i < nd.n → ixN (nvs j).length (i : Int) = some i := fun i hi => by
        unfold ixN
        rw [nvs_len, S.lj, if_pos (by omega), if_pos (by omega)]; rfl
      have hts : ∀ (i z : Nat), Paired (PairAt K (upd H2 ja (.lst ((nvs j).set i (.int (z : Int)))))) ts1 W1 := fun i z => paired_mono (fun _ _ q => seqT_upd hN2.j (by intro _ z; cases z) q) ht2
      have jL : L ≠ ja := fun e => Ln (by rw [e]; simp)
      have kpj : ∀ (i z : Nat), Keep [sa, pa, ja] H (upd H2 ja (.lst ((nvs j).set i (.int (z : Int))))) := fun i z => kp2.trans (Keep.upd (by simp))
      have hLj : ∀ (i z : Nat), (upd H2 ja (.lst ((nvs j).set i (.int (z : Int))))) L = some (.lst (ts1.map V.ref)) := fun i z => by rw [upd_ne jL]; exact hL2
      refine ⟨_, rfl, a, _, dx, _, _, rfl, hN2.o, T.cl_Nodes, T.n_Nodes_signs, nF_signs _ _ _, _, rfl, _, _, _, _, rfl, rfl, SqL.of hN2.s, atI_nat' (hk1 one n1), rfl, _, rfl, ?_⟩
      by_cases c1 : nd.k one = 2
      · refine iteT (by rw [c1]; rfl) ?_
        refine ⟨_, rfl, _, rfl, a, _, dx, _, _, rfl, hN2.o, T.cl_Nodes, T.n_Nodes_joined, nF_joined _ _ _, _, rfl, ja, _, _, one, rfl, rfl, hN2j, hset one n1, ?_⟩
        have hlt := leaders_lt (n := nd.n) f1 n1 c0
        rw [← to_set S.lj n1] at hlt
        refine ⟨3 * leaders (nd.to (j.set one other)).J nd.n + W1.length, by omega, j.set one other, W1, ts1, _, _, _, rfl, ⟨kpj _ _, natJoin hN2 one other, by rw [List.length_set]; exact S.lj, ?_, hLj _ _, hts _ _, rfl, by omega⟩⟩
        rw [to_set S.lj n1]
        exact S.iv.var hO.wf l1 l2 c0 c1
      · refine iteF (by simp; omega) ?_
        refine ⟨_, rfl, a, _, dx, _, _, rfl, hN2.o, T.cl_Nodes, T.n_Nodes_signs, nF_signs _ _ _, _, rfl, _, _, _, _, rfl, rfl, SqL.of hN2.s, atI_nat' (hk1 other n2), rfl, _, rfl, ?_⟩
        by_cases c2 : nd.k other = 2
        · refine iteT (by rw [c2]; rfl) ?_
          refine ⟨_, rfl, _, rfl, a, _, dx, _, _, rfl, hN2.o, T.cl_Nodes, T.n_Nodes_joined, nF_joined _ _ _, _, rfl, ja, _, _, other, rfl, rfl, hN2j, hset other n2, ?_⟩
          have hlt := leaders_lt (n := nd.n) f2 n2 (Ne.symm c0)
          rw [← to_set S.lj n2] at hlt
          refine ⟨3 * leaders (nd.to (j.set other one)).J nd.n + W1.length, by omega, j.set other one, W1, ts1, _, _, _, rfl, ⟨kpj _ _, natJoin hN2 other one, by rw [List.length_set]; exact S.lj, ?_, hLj _ _, hts _ _, rfl, by omega⟩⟩
          rw [to_set S.lj n2]
          exact S.iv.swap.var hO.wf l2 l1 (Ne.symm c0) c2
        · refine iteF (by simp; omega) ?_
          refine ⟨_, rfl, a, _, dx, _, _, rfl, hN2.o, T.cl_Nodes, T.n_Nodes_signs, nF_signs _ _ _, _, rfl, _, _, _, _, rfl, rfl, SqL.of hN2.s, atI_nat' (hk1 one n1), ?_⟩
          refine ⟨_, rfl, a, _, dx, _, _, rfl, hN2.o, T.cl_Nodes, T.n_Nodes_signs, nF_signs _ _ _, _, rfl, _, _, _, _, rfl, rfl, SqL.of hN2.s, atI_nat' (hk1 other n2), rfl, _, rfl, ?_⟩
          by_cases c3 : nd.k one = nd.k other
          · refine iteF (by simp [c3]) ?_
            refine ⟨_, rfl, _, rfl, a, _, dx, _, _, rfl, hN2.o, T.cl_Nodes, T.n_Nodes_joined, nF_joined _ _ _, _, rfl, ja, _, _, one, rfl, rfl, hN2j, hset one n1, ?_⟩
            have hlt := leaders_lt (n := nd.n) f1 n1 c0
            rw [← to_set S.lj n1] at hlt
            have hN3 := natJoin hN2 one other
            have kp3 := kpj one other
            have hL3 := hLj one other
            have ht3 := hts one other
            generalize hH3 : upd H2 ja (.lst ((nvs j).set one (.int (other : Int)))) = H3 at *
            obtain ⟨ps, hq1, hq2⟩ := hN3.p
            obtain ⟨u1, hu1, hu2⟩ := paired_get hq2 (Nd.pt_get (nd := nd.to (j.set one other)) hO.lp n1)
            obtain ⟨w1, hw1, hw2⟩ := paired_get hq2 (Nd.pt_get (nd := nd.to (j.set one other)) hO.lp n2)
            have hu1' : (ps.map V.ref)[one]? = some (.ref u1) := by simp [hu1]
            have hw1' : (ps.map V.ref)[other]? = some (.ref w1) := by simp [hw1]
            have hlen : (nd.pt one).length = (nd.pt other).length ∧ (nd.pt one).length ≤ 2 := by
              rcases hO.wf one n1 with ⟨g0, g1⟩ | ⟨g0, a', b', g1, _, _⟩ | ⟨g0, a', g1, _⟩ <;> rcases hO.wf other n2 with ⟨g2, g3⟩ | ⟨g2, a'', b'', g3, _, _⟩ | ⟨g2, a'', g3, _⟩ <;> (first | omega | (rw [g1, g3]; simp))
            refine ⟨_, rfl, tyL hL3, ?_⟩
            refine ⟨_, rfl, a, _, dx, _, _, rfl, hN3.o, T.cl_Nodes, T.n_Nodes_parts, nF_parts _ _ _, _, rfl, _, _, _, _, rfl, rfl, SqL.of hq1, atI_nat' hu1', ?_⟩
            refine ⟨_, rfl, a, _, dx, _, _, rfl, hN3.o, T.cl_Nodes, T.n_Nodes_parts, nF_parts _ _ _, _, rfl, _, _, _, _, rfl, rfl, SqL.of hq1, atI_nat' hw1', ?_⟩
            refine ⟨u1, w1, _, _, rfl, rfl, hu2, hw2, by rw [nvs_len, nvs_len]; exact hlen.1, by rw [nvs_len]; have := hlen.2; exact Nat.le_trans this (by decide), fun D zs H4 sm4 hD0 hD hz4 => ?_⟩
            have hL4 := sm4 _ _ hL3
            have hzl := hz4.length
            rw [List.length_zip, nvs_len, nvs_len] at hzl
            have hzl2 : zs.length ≤ 2 := by
              have h1 : (nd.pt one).length ≤ 2 := hlen.2
              have h2 : zs.length = min (nd.pt one).length (nd.pt other).length := hzl
              omega
            have hWz : W1.length ≤ 40000 := by omega
            refine ⟨L, D, _, _, rfl, rfl, hL4, hD, small_ok (m := 100000) ?_, ?_⟩
            · rw [List.length_map, List.length_map]
              have := ht3.length
              omega
            · have ezip : (nd.pt one).zip (nd.pt other) = (nd.pt one).zip (nd.pt other) := rfl
              refine ⟨3 * leaders (nd.to (j.set one other)).J nd.n + (W1 ++ (nd.pt one).zip (nd.pt other)).length, ?_, j.set one other, W1 ++ (nd.pt one).zip (nd.pt other), ts1 ++ zs, _, _, _, rfl, ⟨(kp3.trans (Keep.of_same sm4)).old nL, ?_, by rw [List.length_set]; exact S.lj, ?_, ?_, ?_, rfl, ?_⟩⟩
              · rw [List.length_append, List.length_zip]; omega
              · exact (hN3.same sm4).upd_lst hL4 (by intro _ z; cases z) (by intro _ _ z; cases z) (by intro _ _ _ z; cases z) Ln
              · rw [to_set S.lj n1]
                exact S.iv.both hO.wf l1 l2 c0 c3
              · rw [upd_same, List.map_append]
              · refine paired_rev (paired_mono (fun _ _ q => seqT_upd hL4 (by intro _ z; cases z) (same_seqT sm4 q)) ht3) ?_
                have hz5 : Paired (fun (t : Addr) (z : V × V) => SqT K (upd H4 L (.lst (ts1.map V.ref ++ zs.map V.ref))) t [z.1, z.2]) zs ((nvs (nd.pt one)).zip (nvs (nd.pt other))) := paired_mono (fun _ _ q => seqT_upd hL4 (by intro _ z; cases z) (SqT.of q)) hz4
                have ez : (nvs (nd.pt one)).zip (nvs (nd.pt other)) = ((nd.pt one).zip (nd.pt other)).map fun z => (V.int (z.1 : Int), V.int (z.2 : Int)) := by
                  unfold nvs
                  rw [List.zip_map]; rfl
                rw [ez] at hz5
                exact paired_unmap (R := fun (t : Addr) (z : V × V) => SqT K (upd H4 L (.lst (ts1.map V.ref ++ zs.map V.ref))) t [z.1, z.2]) (f := fun (z : Nat × Nat) => (V.int (z.1 : Int), V.int (z.2 : Int))) hz5
              · rw [List.length_append, List.length_zip]; omega
          · refine iteT (by simp; omega) ?_
            exact kF (S.iv.clash hO.wf l1 l2 c1 c2 c3) H2 kp2
end
end Shp
end
section
set_option maxRecDepth 100000
set_option maxHeartbeats 4000000
namespace Shp
open PySem PySem.Spec PyProof.Rows L2
open Vapcma (Form)
section
variable {P : Program} {w : World} {K : PySem.W.Frag} {mg : Str → Option Value} {base : Heap}
theorem look_inj : ∀ {un : List (Nat × Nat)} {x y i : Nat}, (un.map Prod.snd).Nodup → un.lookup x = some i → un.lookup y = some i → x = y := by
  intro un x y i nd hx hy
  have h1 := lookup_mem hx
  have h2 := lookup_mem hy
  clear hx hy
  induction un with
  | nil => cases h1
  | cons p r ih =>
    rw [List.map_cons, List.nodup_cons] at nd
    rcases List.mem_cons.mp h1 with e1 | e1 <;> rcases List.mem_cons.mp h2 with e2 | e2
    · rw [← e1] at e2; exact (Prod.mk.inj e2).1.symm
    · exact absurd (List.mem_map.mpr ⟨_, e2, by rw [← e1]⟩) nd.1
    · exact absurd (List.mem_map.mpr ⟨_, e1, by rw [← e2]⟩) nd.1
    · exact ih nd.2 e1 e2
theorem ust_start {nd : Nd} (o : nd.Ok) (f : ∀ i, nd.J i = i) : USt nd.n (nd, []) := ⟨o, f, Nat.le_refl _, by simp, by simp, by simp⟩
/-- an implication's root and its two parts -/
theorem root_parts {nd : Nd} (o : nd.Ok) {r : Nat} (hr : r < nd.n) {F G : Form} (h : fo nd.k nd.pt r = .imp F G) : ∃ a b, nd.pt r = [a, b] ∧ a < nd.n ∧ b < nd.n ∧ fo nd.k nd.pt a = F ∧ fo nd.k nd.pt b = G := by
  rcases o.wf r hr with ⟨h0, h1⟩ | ⟨h0, a, b, h1, ha, hb⟩ | ⟨h0, a, h1, ha⟩
  · rw [fo_var h0] at h; cases h
  · rw [fo_imp o.wf hr h0 h1] at h
    cases h
    exact ⟨a, b, h1, by omega, by omega, rfl, rfl⟩
  · rw [fo_neg o.wf hr h0 h1] at h; cases h
def sp_detached (K : PySem.W.Frag) : Sp := fun vs H Q _ => ∃ (a b : Addr) (f g : Form),
  vs = [.ref a, .ref b] ∧ SqT K H a (ivs (enc f)) ∧ SqT K H b (ivs (enc g)) ∧ Vapcma.size f ≤ 1000 ∧ Vapcma.size g ≤ 1000 ∧
  (∀ h, Vapcma.detach f g = some h → ∀ (p : Addr) (H' : Hp), Same H H' → SqT K H' p (ivs (enc h)) → Q (.ref p) H') ∧ (Vapcma.detach f g = none → ∀ H', Same H H' → Q .non H')
theorem ok_detached (T : Top K mg) : FnOk P w K mg base CX0 4 T.d_detached.f T.d_detached.fd P_detached (sp_detached K) := by
  refine T.d_detached.F.ok sc_detached (fun vs H Q E h => by obtain ⟨_, _, _, _, rfl, _⟩ := h; rfl) (fun cdv A outer s H vs Q E hr h => ?_)
  refine ⟨_, (pss_cons (ps_if (pt_cmpR op_eq (pe_ix ix_tup (pv 0) pe_int (fun _ _ => rfl)) (pe_glob rfl T.c_DENIES.choose_spec relI) (nomark _)) (pss_one (ps_ret pe_non)) pss_nil)
    (pss_cons (ps_if (pt_cmpR op_ne (pe_ix ix_tup (pv 0) pe_int (fun _ _ => rfl)) (pe_glob rfl T.c_IMPLIES.choose_spec relI) (nomark _)) (pss_one (ps_ret (pe_tup (pa_cons (pe_glob rfl T.c_FIRST_UNKNOWN.choose_spec relI) pa_nil)))) pss_nil)
    (pss_cons (ps_set (i := 2) sc_detached.nd rfl (Or.inl rfl) (pe_make0 T.m_Nodes___init__.M (ok_Nodes___init__ T) (hr.mono (by decide)) rfl T.mg_Nodes T.m_Nodes___init__.b .nil pass0))
    (pss_cons (ps_set (i := 3) sc_detached.nd rfl (Or.inl rfl) (pe_ix ix_list (pe_fld (pv 2) rfl) (pe_meth (pv 2) T.cl_Nodes T.m_Nodes_add_formula.m (ok_Nodes_add_formula T) (hr.mono (by decide)) T.m_Nodes_add_formula.b .nil pass0 (pa_cons (pv 0) pa_nil)) (fun _ _ => rfl)))
    (pss_cons (ps_if (pt_not (pt_val (pe_meth (pv 2) T.cl_Nodes T.m_Nodes_make_same.m (ok_Nodes_make_same T) (hr.mono (by decide)) T.m_Nodes_make_same.b .nil pass0 (pa_cons (pe_ix ix_tup (pv 3) pe_int (fun _ _ => rfl)) (pa_cons (pe_meth (pv 2) T.cl_Nodes T.m_Nodes_add_formula.m (ok_Nodes_add_formula T) (hr.mono (by decide)) T.m_Nodes_add_formula.b .nil pass0 (pa_cons (pv 1) pa_nil)) pa_nil))))) (pss_one (ps_ret pe_non)) pss_nil)
    (pss_cons (ps_set (i := 4) sc_detached.nd rfl (Or.inl rfl) (pe_meth (pv 2) T.cl_Nodes T.m_Nodes_sign_count.m (ok_Nodes_sign_count T) (hr.mono (by decide)) T.m_Nodes_sign_count.b .nil pass0 (pa_cons (pe_ix ix_tup (pv 3) pe_int (fun _ _ => rfl)) pa_nil)))
    (pss_cons (ps_if (PW.pt (pw_or (pt_cmpR op_isN (pv 4) pe_non (nomark _)) (pw_or1 (pt_cmpR op_gt (pv 4) (pe_glob rfl T.c_MOST_SIGNS_ON_THE_WAY.choose_spec relI) (nomark _))))) (pss_one (ps_ret pe_non)) pss_nil)
    (pss_cons (ps_if (pt_cmpR op_gt (pe_meth (pv 2) T.cl_Nodes T.m_Nodes_sign_count.m (ok_Nodes_sign_count T) (hr.mono (by decide)) T.m_Nodes_sign_count.b .nil pass0 (pa_cons (pe_ix ix_tup (pv 3) pe_int (fun _ _ => rfl)) pa_nil)) (pe_glob rfl T.c_MOST_SIGNS_DETACHED.choose_spec relI) (nomark _)) (pss_one (ps_ret pe_non)) pss_nil)
    (pss_one (ps_ret (pe_meth (pv 2) T.cl_Nodes T.m_Nodes_written.m (ok_Nodes_written T) (hr.mono (by decide)) T.m_Nodes_written.b .nil pass0 (pa_cons (pe_ix ix_tup (pv 3) pe_int (fun _ _ => rfl)) pa_nil)))))))))))), ?_⟩
  obtain ⟨a, b, f, g, rfl, ha, hb, hzf, hzg, kS, kN⟩ := h
  cases f with
  | var v =>
    have h0 : (ivs (enc (.var v)))[0]? = some (.int ((v : Int) + 2)) := rfl
    refine ⟨_, rfl, _, _, _, _, rfl, rfl, ha, atI_nat' (i := 0) h0, rfl, _, rfl, ?_⟩
    refine iteF (by simp; omega) ?_
    refine ⟨_, rfl, _, _, _, _, rfl, rfl, ha, atI_nat' (i := 0) h0, rfl, _, rfl, ?_⟩
    refine iteT (by simp; omega) ?_
    refine ⟨(show 1 ≤ sizeLine by decide), fun p hp => ?_⟩
    exact kS _ rfl p _ (same_new hp) (SqT.of upd_same)
  | neg A =>
    have h0 : (ivs (enc (.neg A)))[0]? = some (.int 1) := rfl
    refine ⟨_, rfl, _, _, _, _, rfl, rfl, ha, atI_nat' (i := 0) h0, rfl, _, rfl, ?_⟩
    refine kN rfl H (Same.refl _)
  | imp A B =>
    have h0 : (ivs (enc (.imp A B)))[0]? = some (.int 0) := rfl
    refine ⟨_, rfl, _, _, _, _, rfl, rfl, ha, atI_nat' (i := 0) h0, rfl, _, rfl, ?_⟩
    refine ⟨_, rfl, _, _, _, _, rfl, rfl, ha, atI_nat' (i := 0) h0, rfl, _, rfl, ?_⟩
    intro nx dx hnx hdx hne
    refine ⟨nx, dx, rfl, upd_same, fun H1 sa pa ja hN1 nsa npa nja kp1 => ⟨rfl, ?_⟩⟩
    have s1 : Same H H1 := fun c o q => kp1 c o (by rw [upd_ne (ne_of_none q hnx), upd_ne (ne_of_none q hdx)]; exact q) (by simp; exact fun e => by rw [e, hnx] at q; cases q)
    have fr : ∀ c, (upd (upd H dx (.own nx)) nx (.ins T.C_Nodes dx [])) c = none → H c = none := fun c h => by
      by_cases c1 : c = nx
      · rw [c1, upd_same] at h; cases h
      · rw [upd_ne c1] at h
        by_cases c2 : c = dx
        · rw [c2, upd_same] at h; cases h
        · rw [upd_ne c2] at h; exact h
    have hnew : ∀ x ∈ [sa, pa, ja], H x = none := fun x hx => by
      simp only [List.mem_cons, List.not_mem_nil, or_false] at hx
      rcases hx with rfl | rfl | rfl
      · exact fr _ nsa
      · exact fr _ npa
      · exact fr _ nja
    -- the first formula's nodes
    have u0 : USt Nd.empty.n (Nd.empty, []) := ust_start Nd.ok_empty (fun i => rfl)
    obtain ⟨v1, v2, _, v4, v5, v6, v7⟩ := addF_ok (.imp A B) _ u0
    generalize hst1 : addF (.imp A B) (Nd.empty, []) = st1 at *
    obtain ⟨⟨nd1, un1⟩, r1⟩ := st1
    dsimp only at v1 v2 v4 v5 v6 v7
    obtain ⟨ra, rb, hpt, hra, hrb, fa, fb⟩ := root_parts v1.ok v4 v6
    refine ⟨_, rfl, nx, _, dx, _, _, rfl, hN1.o, T.cl_Nodes, T.n_Nodes_parts, nF_parts _ _ _, ?_⟩
    refine ⟨_, rfl, nx, dx, _, rfl, hN1.o, nF_no (by decide +kernel) (by decide +kernel) (by decide +kernel) _ _ _, _, rfl, ?_⟩
    refine ⟨nx, dx, sa, pa, ja, a, Nd.empty, .imp A B, rfl, hN1, u0, same_seqT s1 ha, (by show 0 + _ ≤ 10000; omega), fun H2 hN2 kp2 => ?_⟩
    rw [hst1] at hN2 ⊢
    dsimp only at hN2 ⊢
    have s2 : Same H H2 := Keep.same s1 kp2 hnew
    obtain ⟨ps, hp1, hp2⟩ := hN2.p
    obtain ⟨q, hq1, hq2⟩ := paired_get hp2 (Nd.pt_get v1.ok.lp v4)
    have hq1' : (ps.map V.ref)[r1]? = some (.ref q) := by simp [hq1]
    refine ⟨_, _, _, _, rfl, rfl, SqL.of hp1, atI_nat' hq1', ?_⟩
    rw [hpt] at hq2
    -- the second formula's nodes
    have u1 : USt nd1.n (nd1, []) := ust_start v1.ok v1.fr
    obtain ⟨w1, w2, _, w4, w5, w6, w7⟩ := addF_ok g _ u1
    generalize hst2 : addF g (nd1, []) = st2 at *
    obtain ⟨⟨nd2, un2⟩, r2⟩ := st2
    dsimp only at w1 w2 w4 w5 w6 w7
    have z1 : nd1.n ≤ 1000 := by
      have : Nd.empty.n = 0 := rfl
      omega
    have q0 : atI [V.int (ra : Int), V.int (rb : Int)] 0 = some (V.int (ra : Int)) := rfl
    have q1 : atI [V.int (ra : Int), V.int (rb : Int)] 1 = some (V.int (rb : Int)) := rfl
    refine ⟨_, rfl, nx, dx, _, rfl, hN2.o, nF_no (by decide +kernel) (by decide +kernel) (by decide +kernel) _ _ _, _, rfl, _, _, _, _, rfl, rfl, hq2, q0, ?_⟩
    refine ⟨_, rfl, nx, dx, _, rfl, hN2.o, nF_no (by decide +kernel) (by decide +kernel) (by decide +kernel) _ _ _, _, rfl, ?_⟩
    refine ⟨nx, dx, sa, pa, ja, b, nd1, g, rfl, hN2, u1, same_seqT s2 hb, by omega, fun H3 hN3 kp3 => ?_⟩
    rw [hst2] at hN3 ⊢
    dsimp only at hN3 ⊢
    have s3 : Same H H3 := Keep.same s2 kp3 hnew
    have hq3 := kp3.seqT hN2.own hq2
    have ra2 : ra < nd2.n := Nat.lt_of_lt_of_le hra w2.le
    have rb2 : rb < nd2.n := Nat.lt_of_lt_of_le hrb w2.le
    have Z : Apart nd2.k nd2.pt nd2.n ra rb r2 A B g (look un1) (look un2) := {
      wf := w1.ok.wf
      la := ra2
      lb := rb2
      l2 := w4
      fa := by rw [fo_ext v1.ok w1.ok w2 _ _ (Nat.lt_succ_self _) hra]; exact fa
      fb := by rw [fo_ext v1.ok w1.ok w2 _ _ (Nat.lt_succ_self _) hrb]; exact fb
      f2 := w6
      io := fun x y hx hy e => by
        obtain ⟨i, hi⟩ := v5 x (by simpa [Vapcma.vars] using hx)
        obtain ⟨i', hi'⟩ := v5 y (by simpa [Vapcma.vars] using hy)
        unfold look at e
        rw [hi, hi'] at e
        have e' : i = i' := e
        subst e'
        exact look_inj v1.iv hi hi'
      ip := fun x y hx hy e => by
        obtain ⟨i, hi⟩ := w5 x hx
        obtain ⟨i', hi'⟩ := w5 y hy
        unfold look at e
        rw [hi, hi'] at e
        have e' : i = i' := e
        subst e'
        exact look_inj w1.iv hi hi'
      ne := fun x y hx hy e => by
        obtain ⟨i, hi⟩ := v5 x (by simpa [Vapcma.vars] using hx)
        obtain ⟨i', hi'⟩ := w5 y hy
        unfold look at e
        rw [hi, hi'] at e
        have e' : i = i' := e
        have h1 := (v1.un _ (lookup_mem hi)).2.1
        have h2 := (w1.un _ (lookup_mem hi')).1
        simp only at h1 h2
        omega }
    have hzA : Vapcma.size A ≤ Vapcma.FITS := by
      have : Vapcma.size (.imp A B) = Vapcma.size A + Vapcma.size B + 1 := rfl
      have : Vapcma.FITS = 1000 := rfl
      omega
    refine ⟨nx, dx, sa, pa, ja, nd2, ra, r2, rfl, hN3, w1.ok, w1.fr, ra2, w4, by omega, fun H4 j hN4 hj hI kp4 => ?_, fun hcl H4 kp4 => ?_⟩
    rotate_left
    · refine ⟨_, rfl, ?_⟩
      exact kN (Z.clash hzA hcl) H4 (Keep.same s3 kp4 hnew)
    refine ⟨_, rfl, ?_⟩
    have s4 : Same H H4 := Keep.same s3 kp4 hnew
    have hq4 := kp4.seqT hN3.own hq3
    have hL : (nd2.to j).Led := ⟨w1.ok.lp, hj, hI.bj, hI.ld⟩
    refine ⟨_, rfl, nx, dx, _, rfl, hN4.o, nF_no (by decide +kernel) (by decide +kernel) (by decide +kernel) _ _ _, _, rfl, _, _, _, _, rfl, rfl, hq4, q0, ?_⟩
    refine ⟨nx, dx, sa, pa, ja, nd2.to j, ra, rfl, hN4, hL, w1.ok.wf, ra2, (by show nd2.n ≤ 10000; omega), fun t ht H5 s5 => ?_, fun hno H5 s5 => ?_⟩
    rotate_left
    · refine ⟨_, rfl, rfl, _, rfl, ?_⟩
      refine iteT (by simp) ?_
      exact kN (Z.no hzA hI hno) H5 (s4.trans s5)
    obtain ⟨h, hh⟩ := Z.rest hI ht
    have hdet := Z.yes hzA hI ht hh
    refine ⟨_, rfl, rfl, _, rfl, ?_⟩
    refine iteF (by simp) ?_
    refine ⟨_, rfl, _, _, rfl, rfl, _, rfl, ?_⟩
    have hF : Vapcma.FITS = 1000 := rfl
    have hSz : Vapcma.SIZE = 60 := rfl
    by_cases c1 : 1000 < Vapcma.size t
    · refine iteT (by simp; omega) ?_
      refine kN ?_ H5 (s4.trans s5)
      rw [hdet, if_pos (.inl (by omega))]
    · refine iteF (by simp; omega) ?_
      have hN5 := hN4.same s5
      have hq5 := same_seqT s5 hq4
      refine ⟨_, rfl, nx, dx, _, rfl, hN5.o, nF_no (by decide +kernel) (by decide +kernel) (by decide +kernel) _ _ _, _, rfl, _, _, _, _, rfl, rfl, hq5, q1, ?_⟩
      refine ⟨nx, dx, sa, pa, ja, nd2.to j, rb, rfl, hN5, hL, w1.ok.wf, rb2, (by show nd2.n ≤ 10000; omega), fun h' hh' H6 s6 => ?_, fun hno H6 s6 => absurd hh (hno h)⟩
      obtain rfl : h' = h := hh'.same hh
      refine ⟨_, _, rfl, rfl, _, rfl, ?_⟩
      by_cases c2 : 60 < Vapcma.size h'
      · refine iteT (by simp; omega) ?_
        refine kN ?_ H6 (s4.trans (s5.trans s6))
        rw [hdet, if_pos (.inr (by omega))]
      · refine iteF (by simp; omega) ?_
        have hN6 := hN5.same s6
        have hq6 := same_seqT s6 hq5
        refine ⟨_, rfl, nx, dx, _, rfl, hN6.o, nF_no (by decide +kernel) (by decide +kernel) (by decide +kernel) _ _ _, _, rfl, _, _, _, _, rfl, rfl, hq6, q1, ?_⟩
        refine ⟨nx, dx, sa, pa, ja, nd2.to j, rb, h', rfl, hN6, hL, w1.ok.wf, rb2, hh', by omega, fun p H7 s7 hp7 => ?_⟩
        refine kS _ ?_ p H7 (s4.trans (s5.trans (s6.trans s7))) hp7
        rw [hdet, if_neg (by omega)]
end
end Shp
end
section
set_option maxRecDepth 100000
set_option maxHeartbeats 4000000
namespace Shp
open PySem PySem.Spec PyProof.Rows L2
open VapcmBase (PTok Toks tokEq RESERVED)
abbrev BTok := VapcmBase.Tok
section
variable {P : Program} {w : World} {K : PySem.W.Frag} {mg : Str → Option Value} {base : Heap}
def rF (D : Addr) (k : Nat) : List (Str × V) := [("tokens", .ref D), ("at", .int (k : Int))]
theorem rF_tokens (D : Addr) (k : Nat) : (rF D k).lookup ("tokens" : Str) = some (.ref D) := lkH
theorem rF_at (D : Addr) (k : Nat) : (rF D k).lookup ("at" : Str) = some (.int (k : Int)) := (lkP (by decide +kernel)).trans lkH
theorem rF_no {m : Str} (h1 : (m == ("tokens" : Str)) = false) (h2 : (m == ("at" : Str)) = false) (D : Addr) (k : Nat) : (rF D k).lookup m = none := (lkP h1).trans ((lkP h2).trans rfl)
theorem rF_put (D : Addr) (k j : Nat) : putF "at" (.int (j : Int)) (rF D k) = rF D j := by
  unfold rF
  rw [ptP (by decide +kernel), ptH]
/-- the reader's object; k tokens are read -/
structure RAt (K : PySem.W.Frag) (C : Addr) (H : Hp) (r dx D : Addr) (ts : List Addr) (all : Toks) (k : Nat) : Prop where
  o : H r = some (.ins C dx (rF D k))
  t : H D = some (.lst (ts.map V.ref))
  p : Paired (TokAt K H) ts all
theorem tok_upd {H : Hp} {L : Addr} {o o' : HO} (hL : H L = some o) (ho : ∀ xs, o ≠ .tup xs) (hf : ∀ q u, o ≠ .frz q u) {t : Addr} {x : PTok} (h : TokAt K H t x) : TokAt K (upd H L o') t x := by
  obtain ⟨u, z1, z2⟩ := h
  exact ⟨u, seqT_upd hL ho z1 hf, z2⟩
theorem RAt.put {C : Addr} {H : Hp} {r dx D : Addr} {ts : List Addr} {all : Toks} {k : Nat} (h : RAt K C H r dx D ts all k) (j : Nat) : RAt K C (upd H r (.ins C dx (rF D j))) r dx D ts all j := by
  have nD : D ≠ r := fun e => by
    have := h.t; rw [e, h.o] at this; cases this
  exact ⟨upd_same, by rw [upd_ne nD]; exact h.t, paired_mono (fun _ _ z => tok_upd h.o (by intro _ q; cases q) (by intro _ _ q; cases q) z) h.p⟩
theorem RAt.same {C : Addr} {H H' : Hp} {r dx D : Addr} {ts : List Addr} {all : Toks} {k : Nat} (h : RAt K C H r dx D ts all k) (s : Same H H') : RAt K C H' r dx D ts all k :=
  ⟨s _ _ h.o, s _ _ h.t, paired_mono (fun _ _ z => z.same s) h.p⟩
theorem RAt.upd {C : Addr} {H : Hp} {r dx D L : Addr} {ts : List Addr} {all : Toks} {k : Nat} {o o' : HO} (h : RAt K C H r dx D ts all k) (hL : H L = some o) (ho : ∀ xs, o ≠ .tup xs) (hf : ∀ q u, o ≠ .frz q u) (nr : r ≠ L) (nD : D ≠ L) : RAt K C (L2.upd H L o') r dx D ts all k :=
  ⟨by rw [upd_ne nr]; exact h.o, by rw [upd_ne nD]; exact h.t, paired_mono (fun _ _ z => tok_upd hL ho hf z) h.p⟩
/-- the token read next -/
theorem RAt.now {C : Addr} {H : Hp} {r dx D : Addr} {ts : List Addr} {all : Toks} {k : Nat} {x : PTok} (h : RAt K C H r dx D ts all k) (hx : all[k]? = some x) : ∃ t, (ts.map V.ref)[k]? = some (.ref t) ∧ TokAt K H t x := by
  obtain ⟨t, h1, h2⟩ := Shp.paired_get h.p hx
  exact ⟨t, by simp [h1], h2⟩
theorem str_dec (a b : Str) : decide (V.str a = V.str b) = (a == b) := by
  rw [Bool.eq_iff_iff, decide_eq_true_eq, beq_iff_eq]
  exact ⟨fun h => by cases h; rfl, fun h => by rw [h]⟩
def noNum : BTok → Bool
  | .num _ => false
  | _ => true
theorem tok_beq {a b : BTok} {u v : List UInt8} (ha : TokW a u) (hb : TokW b v) (nb : noNum b = true) : (bx u == bx v) = tokEq a b := by
  rw [bx_beq, Bool.eq_iff_iff, beq_iff_eq]
  cases a <;> cases b <;> simp only [tokEq, TokW, noNum, beq_iff_eq, Bool.false_eq_true, iff_false, iff_true] at *
  case name.name n m => rw [ha.1, hb.1]
  case name.sign n c =>
    rintro rfl
    obtain ⟨e, b, r, h, hl, _⟩ := ha
    obtain ⟨b', h', hc, hs⟩ := hb
    rw [e, h] at h'
    cases h'
    rw [(byte_is b).l] at hl; rw [(byte_is b).s] at hs
    simp only [cLet, cSig, Bool.or_eq_true, decide_eq_true_eq, List.contains_iff_mem, List.mem_cons, List.not_mem_nil, or_false] at hl hs
    omega
  case name.last n =>
    rintro rfl
    obtain ⟨e, b, r, h, _⟩ := ha
    rw [← e, hb] at h; cases h
  case num.name n m =>
    rintro rfl
    obtain ⟨b, r, h, hd⟩ := ha
    obtain ⟨e, b', r', h', hl, _⟩ := hb
    rw [← e, h] at h'
    cases h'
    rw [(byte_is b).l] at hl; rw [(byte_is b).d] at hd
    simp only [cLet, cDig, Bool.or_eq_true, decide_eq_true_eq] at hl hd
    omega
  case num.sign n c =>
    rintro rfl
    obtain ⟨b, r, h, hd⟩ := ha
    obtain ⟨b', h', hc, hs⟩ := hb
    rw [h] at h'
    cases h'
    rw [(byte_is b).d] at hd; rw [(byte_is b).s] at hs
    simp only [cDig, cSig, decide_eq_true_eq, List.contains_iff_mem, List.mem_cons, List.not_mem_nil, or_false] at hd hs
    omega
  case num.last n =>
    rintro rfl
    obtain ⟨b, r, h, _⟩ := ha
    rw [hb] at h; cases h
  case sign.name c n =>
    rintro rfl
    obtain ⟨e, b, r, h, hl, _⟩ := hb
    obtain ⟨b', h', hc, hs⟩ := ha
    rw [← e, h'] at h
    cases h
    rw [(byte_is b).l] at hl; rw [(byte_is b).s] at hs
    simp only [cLet, cSig, Bool.or_eq_true, decide_eq_true_eq, List.contains_iff_mem, List.mem_cons, List.not_mem_nil, or_false] at hl hs
    omega
  case sign.sign c d =>
    obtain ⟨b, h, hc, _⟩ := ha
    obtain ⟨b', h', hc', _⟩ := hb
    rw [h, h']
    constructor
    · intro e; cases e; rw [hc, hc']
    · intro e
      rw [hc, hc'] at e
      rw [UInt8.toNat_inj.mp e]
  case sign.last c =>
    rintro rfl
    obtain ⟨b, h, _⟩ := ha
    rw [hb] at h; cases h
  case last.name n =>
    rintro rfl
    obtain ⟨e, b, r, h, _⟩ := hb
    rw [← e, ha] at h; cases h
  case last.sign c =>
    rintro rfl
    obtain ⟨b, h, _⟩ := hb
    rw [ha] at h; cases h
  case last.last => rw [ha, hb]
def sp_Reader_word (T : Top K mg) : Sp := fun vs H Q _ => ∃ (r dx D : Addr) (ts : List Addr) (all : Toks) (k : Nat) (x : PTok),
  vs = [.ref r] ∧ RAt K T.C_Reader H r dx D ts all k ∧ all[k]? = some x ∧ ∀ u, TokW x.tok u → PlainB u → u.length ≤ 4096 → Q (.str (bx u)) H
def sp_Reader_here (T : Top K mg) : Sp := fun vs H Q _ => ∃ (r dx D : Addr) (ts : List Addr) (all : Toks) (k : Nat) (x : PTok),
  vs = [.ref r] ∧ RAt K T.C_Reader H r dx D ts all k ∧ all[k]? = some x ∧ Q (.int (x.place : Int)) H
theorem ok_Reader_word (T : Top K mg) : FnOk P w K mg base CX0 1 T.m_Reader_word.f T.m_Reader_word.fd P_Reader_word (sp_Reader_word T) := by
  refine T.m_Reader_word.F.ok sc_Reader_word (fun vs H Q E h => by obtain ⟨_, _, _, _, _, _, _, rfl, _⟩ := h; rfl) (fun cdv A outer s H vs Q E hr h => ?_)
  refine ⟨_, (pss_one (ps_ret (pe_ix ix_tup (pe_ix ix_list (pe_fld (pv 0) rfl) (pe_fld (pv 0) rfl) (fun _ _ => rfl)) pe_int (fun _ _ => rfl)))), ?_⟩
  obtain ⟨r, dx, D, ts, all, k, x, rfl, hR, hx, hk⟩ := h
  obtain ⟨t, ht, u, h1, h2, h3, h4⟩ := hR.now hx
  refine ⟨_, rfl, r, _, dx, _, _, rfl, hR.o, T.cl_Reader, T.n_Reader_tokens, rF_tokens _ _, _, rfl, r, _, dx, _, _, rfl, hR.o, T.cl_Reader, T.n_Reader_at, rF_at _ _, D, _, _, _, rfl, rfl, SqL.of hR.t, atI_nat' ht, t, _, _, _, rfl, rfl, h1, atI_nat' (i := 0) rfl, ?_⟩
  exact hk u h2 h3 h4
theorem ok_Reader_here (T : Top K mg) : FnOk P w K mg base CX0 1 T.m_Reader_here.f T.m_Reader_here.fd P_Reader_here (sp_Reader_here T) := by
  refine T.m_Reader_here.F.ok sc_Reader_here (fun vs H Q E h => by obtain ⟨_, _, _, _, _, _, _, rfl, _⟩ := h; rfl) (fun cdv A outer s H vs Q E hr h => ?_)
  refine ⟨_, (pss_one (ps_ret (pe_ix ix_tup (pe_ix ix_list (pe_fld (pv 0) rfl) (pe_fld (pv 0) rfl) (fun _ _ => rfl)) pe_int (fun _ _ => rfl)))), ?_⟩
  obtain ⟨r, dx, D, ts, all, k, x, rfl, hR, hx, hk⟩ := h
  obtain ⟨t, ht, u, h1, h2, h3, h4⟩ := hR.now hx
  refine ⟨_, rfl, r, _, dx, _, _, rfl, hR.o, T.cl_Reader, T.n_Reader_tokens, rF_tokens _ _, _, rfl, r, _, dx, _, _, rfl, hR.o, T.cl_Reader, T.n_Reader_at, rF_at _ _, D, _, _, _, rfl, rfl, SqL.of hR.t, atI_nat' ht, t, _, _, _, rfl, rfl, h1, atI_nat' (i := 1) rfl, ?_⟩
  exact hk
def sp_Reader_take (T : Top K mg) : Sp := fun vs H Q E => ∃ (r dx D : Addr) (ts : List Addr) (all : Toks) (k : Nat) (x : PTok) (t : BTok) (s : Str) (u : List UInt8),
  vs = [.ref r, .str s] ∧ RAt K T.C_Reader H r dx D ts all k ∧ all[k]? = some x ∧ s = bx u ∧ TokW t u ∧ noNum t = true ∧
  (tokEq x.tok t = true → ∀ H', RAt K T.C_Reader H' r dx D ts all (k + 1) → Keep [r] H H' → Q .non H') ∧ (tokEq x.tok t = false → FaultIs E T.C_Fault H 3 (x.place : Int))
theorem ok_Reader_take (T : Top K mg) (TF : FaultT K T.C_Fault) : FnOk P w K mg base (L2.CX P w) 3 T.m_Reader_take.f T.m_Reader_take.fd P_Reader_take (sp_Reader_take T) := by
  refine T.m_Reader_take.F.okX sc_Reader_take (fun vs H Q E h => by obtain ⟨_, _, _, _, _, _, _, _, _, _, rfl, _⟩ := h; rfl) (fun cdv A outer s H vs Q E hr h => ?_)
  refine ⟨_, (pss_cons (ps_if (pt_cmpR op_ne (pe_meth0 (pv 0) T.cl_Reader T.m_Reader_word.m (ok_Reader_word T) (hr.mono (by decide)) T.m_Reader_word.b .nil pass0) (pv 1) (nomark _)) (pss_one (ps_raise rfl (takes_of rfl rfl rfl rfl) (pmk_eown TF.own TF.iC TF.tI (ok_Fault___init__ T TF) (hr.mono (by decide)) TF.b .nil pass0 rfl T.mg_Fault (pa_cons (pe_glob rfl T.c_NOT_ALLOWED.choose_spec relI) (pa_cons (pe_meth0 (pv 0) T.cl_Reader T.m_Reader_here.m (ok_Reader_here T) (hr.mono (by decide)) T.m_Reader_here.b .nil pass0) pa_nil))))) pss_nil)
    (pss_one (ps_fld (pv 0) (pe_op op_add (pe_fld (pv 0) rfl) pe_int) rfl))), ?_⟩
  obtain ⟨r, dx, D, ts, all, k, x, t, z, v, rfl, hR, hx, rfl, hv, hn, kO, kE⟩ := h
  refine ⟨_, rfl, r, dx, _, rfl, hR.o, rF_no (by decide +kernel) (by decide +kernel) _ _, r, dx, D, ts, all, k, x, rfl, hR, hx, fun u h1 h2 h3 => ?_⟩
  refine ⟨_, rfl, rfl, _, rfl, ?_⟩
  have e : decide (V.str (bx u) = V.str (bx v)) = tokEq x.tok t := (str_dec _ _).trans (tok_beq h1 hv hn)
  rw [e]
  cases c : tokEq x.tok t with
  | false =>
    refine iteT rfl ?_
    refine ⟨_, rfl, r, dx, _, rfl, hR.o, rF_no (by decide +kernel) (by decide +kernel) _ _, r, dx, D, ts, all, k, x, rfl, hR, hx, raise_fault (kE c)⟩
  | true =>
    refine iteF rfl ?_
    refine ⟨_, rfl, r, _, dx, _, _, rfl, hR.o, T.cl_Reader, T.n_Reader_at, rF_at _ _, _, _, rfl, rfl, _, rfl, r, T.C_Reader, dx, _, rfl, hR.o, T.cl_Reader, T.n_Reader_at, (by show 2 < 1000; decide), ?_⟩
    have e1 : putF "at" (.int ((k : Int) + 1)) (rF D k) = rF D (k + 1) := rF_put D k (k + 1)
    rw [e1]
    exact kO c _ (hR.put (k + 1)) (Keep.upd (by simp))
def sp_Reader_take_name (T : Top K mg) : Sp := fun vs H Q E => ∃ (r dx D : Addr) (ts : List Addr) (all : Toks) (k : Nat) (x : PTok),
  vs = [.ref r] ∧ RAt K T.C_Reader H r dx D ts all k ∧ all[k]? = some x ∧
  (∀ n, x.tok = .name n → RESERVED.contains n = false → n.length ≤ 16 → PlainB n → ∀ H', RAt K T.C_Reader H' r dx D ts all (k + 1) → Keep [r] H H' → Q (.str (bx n)) H') ∧ (nameTok x.tok = false → FaultIs E T.C_Fault H 3 (x.place : Int))
theorem ok_Reader_take_name (T : Top K mg) (TF : FaultT K T.C_Fault) : FnOk P w K mg base (L2.CX P w) 3 T.m_Reader_take_name.f T.m_Reader_take_name.fd P_Reader_take_name (sp_Reader_take_name T) := by
  refine T.m_Reader_take_name.F.okX sc_Reader_take_name (fun vs H Q E h => by obtain ⟨_, _, _, _, _, _, _, rfl, _⟩ := h; rfl) (fun cdv A outer s H vs Q E hr h => ?_)
  refine ⟨_, (pss_cons (ps_set (i := 1) sc_Reader_take_name.nd rfl (Or.inl rfl) (pe_meth0 (pv 0) T.cl_Reader T.m_Reader_word.m (ok_Reader_word T) (hr.mono (by decide)) T.m_Reader_word.b .nil pass0))
    (pss_cons (ps_if (pt_not (pt_val (pe_call (ok_is_name T) (hr.mono (by decide)) rfl T.d_is_name.mg T.d_is_name.F.kp T.d_is_name.b .nil pass0 (pa_cons (pv 1) pa_nil)))) (pss_one (ps_raise rfl (takes_of rfl rfl rfl rfl) (pmk_eown TF.own TF.iC TF.tI (ok_Fault___init__ T TF) (hr.mono (by decide)) TF.b .nil pass0 rfl T.mg_Fault (pa_cons (pe_glob rfl T.c_NOT_ALLOWED.choose_spec relI) (pa_cons (pe_meth0 (pv 0) T.cl_Reader T.m_Reader_here.m (ok_Reader_here T) (hr.mono (by decide)) T.m_Reader_here.b .nil pass0) pa_nil))))) pss_nil)
    (pss_cons (ps_fld (pv 0) (pe_op op_add (pe_fld (pv 0) rfl) pe_int) rfl)
    (pss_one (ps_ret (pv 1)))))), ?_⟩
  obtain ⟨r, dx, D, ts, all, k, x, rfl, hR, hx, kO, kE⟩ := h
  refine ⟨_, rfl, r, dx, _, rfl, hR.o, rF_no (by decide +kernel) (by decide +kernel) _ _, r, dx, D, ts, all, k, x, rfl, hR, hx, fun u h1 h2 h3 => ?_⟩
  refine ⟨_, rfl, x.tok, u, rfl, h1, h2, h3, ?_⟩
  refine ⟨_, rfl, ?_⟩
  cases c : nameTok x.tok with
  | false =>
    refine iteT rfl ?_
    refine ⟨_, rfl, r, dx, _, rfl, hR.o, rF_no (by decide +kernel) (by decide +kernel) _ _, r, dx, D, ts, all, k, x, rfl, hR, hx, raise_fault (kE c)⟩
  | true =>
    refine iteF rfl ?_
    refine ⟨_, rfl, r, _, dx, _, _, rfl, hR.o, T.cl_Reader, T.n_Reader_at, rF_at _ _, _, _, rfl, rfl, _, rfl, r, T.C_Reader, dx, _, rfl, hR.o, T.cl_Reader, T.n_Reader_at, (by show 2 < 1000; decide), ?_⟩
    have e1 : putF "at" (.int ((k : Int) + 1)) (rF D k) = rF D (k + 1) := rF_put D k (k + 1)
    rw [e1]
    refine ⟨_, rfl, ?_⟩
    cases ht : x.tok with
    | name n =>
      rw [ht] at h1 c
      obtain ⟨e, b, q, hb, hl, hz⟩ := h1
      subst e
      exact kO u ht (by simpa [nameTok] using c) hz h2 _ (hR.put (k + 1)) (Keep.upd (by simp))
    | num n => rw [ht] at c; cases c
    | sign n => rw [ht] at c; cases c
    | last => rw [ht] at c; cases c
def sp_Reader_take_nesting (T : Top K mg) : Sp := fun vs H Q E => ∃ (r dx D : Addr) (ts : List Addr) (all : Toks) (k : Nat) (x : PTok) (t : BTok) (s : Str) (u : List UInt8) (d : Nat),
  vs = [.ref r, .str s, .int (d : Int)] ∧ RAt K T.C_Reader H r dx D ts all k ∧ all[k]? = some x ∧ s = bx u ∧ TokW t u ∧ noNum t = true ∧ tokEq x.tok t = true ∧
  (d < 40 → ∀ H', RAt K T.C_Reader H' r dx D ts all (k + 1) → Keep [r] H H' → Q .non H') ∧ (40 ≤ d → FaultIs E T.C_Fault H 10 (x.place : Int))
theorem ok_Reader_take_nesting (T : Top K mg) (TF : FaultT K T.C_Fault) : FnOk P w K mg base (L2.CX P w) 4 T.m_Reader_take_nesting.f T.m_Reader_take_nesting.fd P_Reader_take_nesting (sp_Reader_take_nesting T) := by
  refine T.m_Reader_take_nesting.F.okX sc_Reader_take_nesting (fun vs H Q E h => by obtain ⟨_, _, _, _, _, _, _, _, _, _, _, rfl, _⟩ := h; rfl) (fun cdv A outer s H vs Q E hr h => ?_)
  refine ⟨_, (pss_cons (ps_if (pt_cmpR op_gt (pv 2) (pe_glob rfl T.c_MOST_WITHIN.choose_spec relI) (nomark _)) (pss_one (ps_raise rfl (takes_of rfl rfl rfl rfl) (pmk_eown TF.own TF.iC TF.tI (ok_Fault___init__ T TF) (hr.mono (by decide)) TF.b .nil pass0 rfl T.mg_Fault (pa_cons (pe_glob rfl T.c_TOO_DEEP.choose_spec relI) (pa_cons (pe_meth0 (pv 0) T.cl_Reader T.m_Reader_here.m (ok_Reader_here T) (hr.mono (by decide)) T.m_Reader_here.b .nil pass0) pa_nil))))) pss_nil)
    (pss_one (ps_expr (pe_meth (pv 0) T.cl_Reader T.m_Reader_take.m (ok_Reader_take T TF) (hr.mono (by decide)) T.m_Reader_take.b .nil (passes_call (takes_of rfl rfl rfl rfl) (fun _ _ _ _ h => h)) (pa_cons (pv 1) pa_nil))))), ?_⟩
  obtain ⟨r, dx, D, ts, all, k, x, t, z, v, d, rfl, hR, hx, hz, hv, hn, he, kO, kE⟩ := h
  refine ⟨_, rfl, _, _, rfl, rfl, _, rfl, ?_⟩
  by_cases c : 40 ≤ d
  · refine iteT (by simp; omega) ?_
    refine ⟨_, rfl, r, dx, _, rfl, hR.o, rF_no (by decide +kernel) (by decide +kernel) _ _, r, dx, D, ts, all, k, x, rfl, hR, hx, raise_fault (kE c)⟩
  · refine iteF (by simp; omega) ?_
    refine ⟨_, rfl, r, dx, _, rfl, hR.o, rF_no (by decide +kernel) (by decide +kernel) _ _, _, rfl, r, dx, D, ts, all, k, x, t, z, v, rfl, hR, hx, hz, hv, hn, fun _ H' h1 h2 => kO (by omega) H' h1 h2, fun q => by rw [he] at q; cases q⟩
end
end Shp
end
section
set_option maxRecDepth 100000
set_option maxHeartbeats 4000000
namespace Shp
open PySem PySem.Spec PyProof.Rows L2
open VapcmBase (PTok Toks tokEq RESERVED next here wrong takeName takeSign)
open Vapcma (takePart takeForm Raw Form rawNames formOf)
/-! names numbered as they come -/
abbrev Nms := List (List UInt8)
def ixOf (un : Nms) (n : List UInt8) : Nat := un.findIdx fun m => m == n
def addN (un : Nms) (n : List UInt8) : Nms := if un.contains n = true then un else un ++ [n]
def names (un : Nms) : Raw → Nms
  | .var n => addN un n
  | .imp a b => names (names un a) b
  | .neg a => names un a
def sgs2 (un : Nms) : Raw → List Int
  | .var n => [((ixOf un n : Nat) : Int) + 2]
  | .imp a b => 0 :: (sgs2 un a ++ sgs2 (names un a) b)
  | .neg a => 1 :: sgs2 un a
theorem dupsG_snoc (vs : Nms) (l : List UInt8) : (vs ++ [l]).eraseDups = addN vs.eraseDups l := by
  rw [List.eraseDups_append]
  unfold addN
  by_cases c : l ∈ vs
  · have : vs.eraseDups.contains l = true := by simpa using c
    rw [if_pos this]
    simp [List.removeAll, c]
  · have : ¬ vs.eraseDups.contains l = true := by simpa using c
    rw [if_neg this]
    simp [List.removeAll, c, List.eraseDups_cons]
theorem names_dups : ∀ (r : Raw) (l : Nms), names l.eraseDups r = (l ++ rawNames r).eraseDups
  | .var n, l => (dupsG_snoc l n).symm
  | .imp a b, l => by
    show names (names l.eraseDups a) b = (l ++ (rawNames a ++ rawNames b)).eraseDups
    rw [names_dups a l, names_dups b, List.append_assoc]
  | .neg a, l => names_dups a l
theorem addN_pre (un : Nms) (n : List UInt8) : ∃ r, addN un n = un ++ r := by
  unfold addN
  split
  · exact ⟨[], by simp⟩
  · exact ⟨[n], rfl⟩
theorem names_pre : ∀ (r : Raw) (un : Nms), ∃ q, names un r = un ++ q
  | .var n, un => addN_pre un n
  | .imp a b, un => by
    obtain ⟨q1, h1⟩ := names_pre a un
    obtain ⟨q2, h2⟩ := names_pre b (names un a)
    exact ⟨q1 ++ q2, by show names (names un a) b = _; rw [h2, h1, List.append_assoc]⟩
  | .neg a, un => names_pre a un
theorem ix_app {un r : Nms} {n : List UInt8} (h : n ∈ un) : ixOf (un ++ r) n = ixOf un n := by
  unfold ixOf
  rw [List.findIdx_append, if_pos]
  exact List.findIdx_lt_length_of_exists ⟨n, h, by simp⟩
theorem ix_new {un : Nms} {n : List UInt8} (h : n ∉ un) : ixOf un n = un.length := by
  unfold ixOf
  rw [List.findIdx_eq_length]
  intro x hx
  simp only [beq_eq_false_iff_ne, ne_eq]
  rintro rfl
  exact h hx
theorem ix_add {un r : Nms} {n : List UInt8} : ixOf (addN un n ++ r) n = ixOf un n := by
  unfold addN
  by_cases c : n ∈ un
  · rw [if_pos (by simpa using c), ix_app c]
  · rw [if_neg (by simpa using c), ix_new c, ix_app (by simp)]
    unfold ixOf
    rw [List.findIdx_append]
    have : List.findIdx (fun m => m == n) un = un.length := ix_new c
    rw [if_neg (by rw [this]; omega)]
    simp
theorem sgs2_enc : ∀ (r : Raw) (un q : Nms), sgs2 un r = enc (formOf (names un r ++ q) r)
  | .var n, un, q => by
    show [((ixOf un n : Nat) : Int) + 2] = [((ixOf (addN un n ++ q) n : Nat) : Int) + 2]
    rw [ix_add]
  | .imp a b, un, q => by
    show 0 :: (sgs2 un a ++ sgs2 (names un a) b) = 0 :: (enc (formOf (names (names un a) b ++ q) a) ++ enc (formOf (names (names un a) b ++ q) b))
    obtain ⟨z, hz⟩ := names_pre b (names un a)
    rw [← sgs2_enc b (names un a) q, hz, List.append_assoc, ← sgs2_enc a un (z ++ q)]
  | .neg a, un, q => by
    show 1 :: sgs2 un a = 1 :: enc (formOf (names un a ++ q) a)
    rw [← sgs2_enc a un q]
theorem sgs2_all (r : Raw) : sgs2 [] r = enc (formOf (rawNames r).eraseDups r) := by
  rw [sgs2_enc r [] [], List.append_nil]
  have := names_dups r []
  rw [List.nil_append] at this
  rw [← this]
  rfl
/-- the names' dict -/
def nkv : Nms → Nat → List (Key × V)
  | [], _ => []
  | n :: r, i => (.inr (bx n), .int ((i : Int) + 2)) :: nkv r (i + 1)
theorem nkv_len : ∀ (un : Nms) (i : Nat), (nkv un i).length = un.length
  | [], _ => rfl
  | _ :: r, i => by show (nkv r (i + 1)).length + 1 = _; rw [nkv_len r]; rfl
theorem nkv_app : ∀ (un r : Nms) (i : Nat), nkv (un ++ r) i = nkv un i ++ nkv r (i + un.length)
  | [], r, i => by simp [nkv]
  | x :: un, r, i => by
    show (_ :: nkv (un ++ r) (i + 1)) = _ :: (nkv un (i + 1) ++ nkv r (i + (un.length + 1)))
    rw [nkv_app un r, show i + 1 + un.length = i + (un.length + 1) by omega]
theorem nkv_val (n : List UInt8) : ∀ (un : Nms) (i : Nat), valV (nkv un i) (.inr (bx n)) = if n ∈ un then some (.int (((i + ixOf un n : Nat) : Int) + 2)) else none
  | [], _ => by simp [nkv, valV]
  | m :: r, i => by
    by_cases c : m = n
    · subst c
      rw [if_pos (by simp), show nkv (m :: r) i = (.inr (bx m), .int ((i : Int) + 2)) :: nkv r (i + 1) from rfl, valV_pos rfl]
      have : ixOf (m :: r) m = 0 := by simp [ixOf, List.findIdx_cons]
      rw [this]; rfl
    · rw [show nkv (m :: r) i = (.inr (bx m), .int ((i : Int) + 2)) :: nkv r (i + 1) from rfl, valV_neg (by
        intro e
        exact c (bx_inj (Sum.inr.inj e))), nkv_val n r (i + 1)]
      have cb : (m == n) = false := by simpa using c
      have e1 : ixOf (m :: r) n = ixOf r n + 1 := by simp [ixOf, List.findIdx_cons, cb]
      have e2 : n ∈ m :: r ↔ n ∈ r := by
        rw [List.mem_cons]
        exact ⟨fun h => h.elim (fun e => absurd e.symm c) id, .inr⟩
      by_cases c2 : n ∈ r
      · rw [if_pos c2, if_pos (e2.mpr c2), e1, show i + 1 + ixOf r n = i + (ixOf r n + 1) by omega]
      · rw [if_neg c2, if_neg (fun h => c2 (e2.mp h))]
/-! the endings -/
theorem Ending.head {all : Toks} {k : Nat} (h : Ending (all.drop k)) : ∃ x, all[k]? = some x ∧ all.drop k = x :: all.drop (k + 1) := by
  obtain ⟨l, p, e, _⟩ := h
  cases hd : all.drop k with
  | nil => rw [hd] at e; simp at e
  | cons x r => exact ⟨x, get_drop hd, by rw [drop_more hd]⟩
theorem Ending.more {all : Toks} {k : Nat} {x : PTok} (h : Ending (all.drop k)) (hx : all[k]? = some x) (n : x.tok ≠ .last) : Ending (all.drop (k + 1)) := by
  obtain ⟨l, p, e, q⟩ := h
  have e2 : all.drop (k + 1) = (all.drop k).drop 1 := by rw [List.drop_drop]
  have hx2 : (all.drop k)[0]? = some x := by rw [List.getElem?_drop]; exact hx
  rw [e] at hx2 e2
  cases l with
  | nil =>
    rw [List.nil_append, List.getElem?_cons_zero, Option.some.injEq] at hx2
    exact absurd (by rw [← hx2]) n
  | cons y l => exact ⟨l, p, by rw [e2]; rfl, fun t ht => q t (by simp [ht])⟩
theorem tokEq_last {t s : BTok} (h : tokEq t s = true) (n : s ≠ .last) : t ≠ .last := by
  rintro rfl
  cases s <;> first | exact n rfl | cases h
theorem nameTok_last {t : BTok} (h : nameTok t = true) : t ≠ .last := by rintro rfl; cases h
/-! one turn of the reading -/
theorem next_cons (t : BTok) (x : PTok) (l : Toks) : next t (x :: l) = tokEq x.tok t := rfl
theorem here_cons (x : PTok) (l : Toks) : here (x :: l) = x.place := rfl
theorem tp_eq (m d : Nat) (l : Toks) : takePart (m + 1) d l = if next (.sign 126) l = true then (if 40 ≤ d then .error ⟨10, here l⟩ else (takePart m (d + 1) (l.drop 1)).map fun x => (Raw.neg x.1, x.2))
      else if next (.sign 40) l = true then (if 40 ≤ d then .error ⟨10, here l⟩ else (takeForm m (d + 1) (l.drop 1)).bind fun x => (takeSign 41 x.2).map fun m => (x.1, m))
      else (takeName l).map fun x => (Raw.var x.1.name, x.2) := by rw [takePart]; rfl
theorem tf_eq (m d : Nat) (l : Toks) : takeForm (m + 1) d l = (takePart m d l).bind fun x => if next (.sign 62) x.2 = true then (if 40 ≤ d then .error ⟨10, here x.2⟩ else (takeForm m (d + 1) (x.2.drop 1)).map fun y => (Raw.imp x.1 y.1, y.2)) else .ok x := by rw [takeForm]; rfl
theorem name_yes {x : PTok} {l : Toks} {n : List UInt8} (h : x.tok = .name n) (r : RESERVED.contains n = false) : takeName (x :: l) = .ok (⟨x.place, n⟩, l) := by
  obtain ⟨p, t⟩ := x
  cases h
  show (if RESERVED.contains n = true then _ else _) = _
  rw [r]; rfl
theorem name_no {x : PTok} {l : Toks} (h : nameTok x.tok = false) : takeName (x :: l) = .error ⟨3, x.place⟩ := by
  obtain ⟨p, t⟩ := x
  cases t with
  | name n =>
    show (if RESERVED.contains n = true then _ else _) = _
    have : RESERVED.contains n = true := by simpa [nameTok] using h
    rw [this]; rfl
  | num n => rfl
  | sign c => rfl
  | last => rfl
theorem sign_yes {x : PTok} {l : Toks} {c : Nat} (h : tokEq x.tok (.sign c) = true) : takeSign c (x :: l) = .ok l := by
  show (if tokEq x.tok (.sign c) = true then _ else _) = _
  rw [h]; rfl
theorem sign_no {x : PTok} {l : Toks} {c : Nat} (h : tokEq x.tok (.sign c) = false) : takeSign c (x :: l) = .error ⟨3, x.place⟩ := by
  show (if tokEq x.tok (.sign c) = true then _ else _) = _
  rw [h]; rfl
/-! faults that leave when some places have changed -/
def FaultKs (E : XK) (cA : Addr) (L : List Addr) (H : Hp) (c p : Int) : Prop := ∀ (d : Addr) (H' : Hp), H' d = some (.xd (faultFs c p)) → Keep L H H' → E (.ref cA) (some d) H'
theorem FaultKs.is {E : XK} {cA : Addr} {L : List Addr} {H H1 : Hp} {c p : Int} (h : FaultKs E cA L H c p) (k : Keep L H H1) : FaultIs E cA H1 c p := fun d H' hd s => h d H' hd (k.trans (.of_same s))
theorem FaultKs.keep {E : XK} {cA : Addr} {L M : List Addr} {H H1 : Hp} {c p : Int} (h : FaultKs E cA L H c p) (k : Keep L H H1) (hm : ∀ x ∈ M, x ∈ L) : FaultKs E cA M H1 c p := fun d H' hd s => h d H' hd (k.trans (s.mono hm))
theorem tok_sign {x : BTok} {u v : List UInt8} {s : Str} {t : BTok} (hs : s = bx v) (ht : TokW t v) (n : noNum t = true) (h : TokW x u) : decide (V.str (bx u) = V.str s) = tokEq x t := by
  rw [hs]; exact (str_dec _ _).trans (tok_beq h ht n)
theorem w126 : TokW (.sign 126) [126] := ⟨126, rfl, rfl, by decide⟩
theorem w40 : TokW (.sign 40) [40] := ⟨40, rfl, rfl, by decide⟩
theorem w41 : TokW (.sign 41) [41] := ⟨41, rfl, rfl, by decide⟩
theorem w62 : TokW (.sign 62) [62] := ⟨62, rfl, rfl, by decide⟩
theorem w59 : TokW (.sign 59) [59] := ⟨59, rfl, rfl, by decide⟩
theorem w58 : TokW (.sign 58) [58] := ⟨58, rfl, rfl, by decide⟩
theorem w44 : TokW (.sign 44) [44] := ⟨44, rfl, rfl, by decide⟩
theorem s126 : Str.ofString "~" = bx [126] := by decide +kernel
theorem s40 : Str.ofString "(" = bx [40] := by decide +kernel
theorem s41 : Str.ofString ")" = bx [41] := by decide +kernel
theorem s62 : Str.ofString ">" = bx [62] := by decide +kernel
theorem s59 : Str.ofString ";" = bx [59] := by decide +kernel
theorem s58 : Str.ofString ":" = bx [58] := by decide +kernel
theorem s44 : Str.ofString "," = bx [44] := by decide +kernel
end Shp
end
section
set_option maxRecDepth 100000
set_option maxHeartbeats 4000000
namespace Shp
open PySem PySem.Spec PyProof.Rows L2
open VapcmBase (PTok Toks tokEq RESERVED next here wrong takeName takeSign)
open Vapcma (takePart takeForm Raw Form rawNames formOf)
section
variable {P : Program} {w : World} {K : PySem.W.Frag} {mg : Str → Option Value} {base : Heap}
/-- what stands ahead of a part's reading -/
structure Ahead (K : PySem.W.Frag) (C : Addr) (H : Hp) (r dx D : Addr) (ts : List Addr) (all : Toks) (k : Nat) (u : Addr) (un : Nms) (d n : Nat) : Prop where
  R : RAt K C H r dx D ts all k
  hu : H u = some (.dK (nkv un 0))
  unk : un.length ≤ k
  hz : all.length ≤ 5000
  hd : d ≤ 40
  hn : 41 ≤ d + n
  E : Ending (all.drop k)
/-- what stands behind it -/
def Behind (Q : VK) (K : PySem.W.Frag) (C : Addr) (H : Hp) (r dx D : Addr) (ts : List Addr) (all : Toks) (k : Nat) (u : Addr) (un : Nms) (raw : Raw) (j : Nat) : Prop :=
  k < j → Ending (all.drop j) → (sgs2 un raw).length + k ≤ j → (names un raw).length + k ≤ un.length + j → ∀ (L : Addr) (H' : Hp), RAt K C H' r dx D ts all j → H' u = some (.dK (nkv (names un raw) 0)) → H' L = some (.lst (ivs (sgs2 un raw))) → Keep [r, u] H H' → Q (.ref L) H'
def sp_read_part (T : Top K mg) (n : Nat) : Sp := fun vs H Q E => ∃ (r dx D : Addr) (ts : List Addr) (all : Toks) (k : Nat) (u : Addr) (un : Nms) (d m : Nat),
  vs = [.ref r, .ref u, .int (d : Int)] ∧ Ahead K T.C_Reader H r dx D ts all k u un d n ∧ 2 * (all.length - k) + 1 ≤ m ∧
  (∀ raw j, takePart m d (all.drop k) = .ok (raw, all.drop j) → Behind Q K T.C_Reader H r dx D ts all k u un raw j) ∧
  (∀ f, takePart m d (all.drop k) = .error f → FaultKs E T.C_Fault [r, u] H (f.code : Int) (f.place : Int))
def sp_read_signs (T : Top K mg) (n : Nat) : Sp := fun vs H Q E => ∃ (r dx D : Addr) (ts : List Addr) (all : Toks) (k : Nat) (u : Addr) (un : Nms) (d m : Nat),
  vs = [.ref r, .ref u, .int (d : Int)] ∧ Ahead K T.C_Reader H r dx D ts all k u un d n ∧ 2 * (all.length - k) + 2 ≤ m ∧
  (∀ raw j, takeForm m d (all.drop k) = .ok (raw, all.drop j) → Behind Q K T.C_Reader H r dx D ts all k u un raw j) ∧
  (∀ f, takeForm m d (all.drop k) = .error f → FaultKs E T.C_Fault [r, u] H (f.code : Int) (f.place : Int))
theorem Keep.free {L : List Addr} {H H' : Hp} {a : Addr} (k : Keep L H H') (hL : ∀ x ∈ L, H' x ≠ none) (h : H' a = none) : H a = none := by
  cases e : H a with
  | none => rfl
  | some o =>
    by_cases c : a ∈ L
    · exact absurd h (hL a c)
    · rw [k a o e c] at h; cases h
theorem ivs_app (a b : List Int) : ivs (a ++ b) = ivs a ++ ivs b := List.map_append
theorem addN_len (un : Nms) (n : List UInt8) : (addN un n).length ≤ un.length + 1 := by
  unfold addN
  split
  · omega
  · simp
theorem ok_read_part_ (T : Top K mg) (TF : FaultT K T.C_Fault) {n : Nat} (G1 : FnOk P w K mg base (L2.CX P w) (2 * n + 4) T.d_read_part.f T.d_read_part.fd P_read_part (sp_read_part T n)) (G2 : FnOk P w K mg base (L2.CX P w) (2 * n + 5) T.d_read_signs.f T.d_read_signs.fd P_read_signs (sp_read_signs T n)) :
    FnOk P w K mg base (L2.CX P w) (2 * n + 6) T.d_read_part.f T.d_read_part.fd P_read_part (sp_read_part T (n + 1)) := by
  refine T.d_read_part.F.okX sc_read_part (fun vs H Q E h => by obtain ⟨_, _, _, _, _, _, _, _, _, _, rfl, _⟩ := h; rfl) (fun cdv A outer s H vs Q E hr h => ?_)
  refine ⟨_, (pss_cons (ps_if (pt_cmpR op_eq (pe_meth0 (pv 0) T.cl_Reader T.m_Reader_word.m (ok_Reader_word T) (hr.mono (by omega)) T.m_Reader_word.b .nil pass0) pe_str (nomark _)) (pss_cons (ps_expr (pe_meth (pv 0) T.cl_Reader T.m_Reader_take_nesting.m (ok_Reader_take_nesting T TF) (hr.mono (by omega)) T.m_Reader_take_nesting.b .nil (passes_call (takes_of rfl rfl rfl rfl) (fun _ _ _ _ h => h)) (pa_cons pe_str (pa_cons (pv 2) pa_nil))))
      (pss_one (ps_ret (pe_op op_cat (pe_lst (pa_cons (pe_glob rfl T.c_DENIES.choose_spec relI) pa_nil)) (pe_call G1 (hr.mono (by omega)) rfl T.d_read_part.mg T.d_read_part.F.kp T.d_read_part.b .nil (passes_call (takes_of rfl rfl rfl rfl) (fun _ _ _ _ h => h)) (pa_cons (pv 0) (pa_cons (pv 1) (pa_cons (pe_op op_add (pv 2) pe_int) pa_nil)))))))) pss_nil)
    (pss_cons (ps_if (pt_cmpR op_eq (pe_meth0 (pv 0) T.cl_Reader T.m_Reader_word.m (ok_Reader_word T) (hr.mono (by omega)) T.m_Reader_word.b .nil pass0) pe_str (nomark _)) (pss_cons (ps_expr (pe_meth (pv 0) T.cl_Reader T.m_Reader_take_nesting.m (ok_Reader_take_nesting T TF) (hr.mono (by omega)) T.m_Reader_take_nesting.b .nil (passes_call (takes_of rfl rfl rfl rfl) (fun _ _ _ _ h => h)) (pa_cons pe_str (pa_cons (pv 2) pa_nil))))
      (pss_cons (ps_set (i := 3) sc_read_part.nd rfl (Or.inl rfl) (pe_call G2 (hr.mono (by omega)) rfl T.d_read_signs.mg T.d_read_signs.F.kp T.d_read_signs.b .nil (passes_call (takes_of rfl rfl rfl rfl) (fun _ _ _ _ h => h)) (pa_cons (pv 0) (pa_cons (pv 1) (pa_cons (pe_op op_add (pv 2) pe_int) pa_nil)))))
      (pss_cons (ps_expr (pe_meth (pv 0) T.cl_Reader T.m_Reader_take.m (ok_Reader_take T TF) (hr.mono (by omega)) T.m_Reader_take.b .nil (passes_call (takes_of rfl rfl rfl rfl) (fun _ _ _ _ h => h)) (pa_cons pe_str pa_nil)))
      (pss_one (ps_ret (pv 3)))))) pss_nil)
    (pss_cons (ps_set (i := 4) sc_read_part.nd rfl (Or.inl rfl) (pe_meth0 (pv 0) T.cl_Reader T.m_Reader_take_name.m (ok_Reader_take_name T TF) (hr.mono (by omega)) T.m_Reader_take_name.b .nil (passes_call (takes_of rfl rfl rfl rfl) (fun _ _ _ _ h => h))))
    (pss_one (ps_ret (pe_lst (pa_cons (pe_dsetd (pv 1) (pv 4) (pe_op op_add (pe_glob rfl T.c_FIRST_UNKNOWN.choose_spec relI) (pe_callB call_lenD (by rfl) T.b_len PySem.boot_len (pa_cons (pv 1) pa_nil))) ⟨rfl, rfl, rfl, rfl⟩) pa_nil))))))), ?_⟩
  obtain ⟨r, dx, D, ts, all, k, u, un, d, m, rfl, ⟨hR, hu, hunk, haz, hd, hn, hE⟩, hm, kO, kE⟩ := h
  obtain ⟨x, hx, hdr⟩ := hE.head
  have hk : k < all.length := (List.getElem?_eq_some_iff.mp hx).1
  obtain ⟨m, rfl⟩ : ∃ m', m = m' + 1 := ⟨m - 1, by omega⟩
  rw [hdr] at kO kE
  have nru : r ≠ u := ne_of hR.o hu (by intro z; cases z)
  have nDu : D ≠ u := ne_of hR.t hu (by intro z; cases z)
  have rno := rF_no (m := Str.ofString "word") (by decide +kernel) (by decide +kernel) D
  refine ⟨_, rfl, r, dx, _, rfl, hR.o, rF_no (by decide +kernel) (by decide +kernel) _ _, r, dx, D, ts, all, k, x, rfl, hR, hx, fun w1 a1 a2 a3 => ?_⟩
  refine ⟨rfl, _, rfl, ?_⟩
  rw [tok_sign s126 w126 rfl a1]
  cases c1 : tokEq x.tok (.sign 126) with
  | true =>
    refine iteT rfl ?_
    have n1 : next (.sign 126) (x :: all.drop (k + 1)) = true := c1
    refine ⟨_, rfl, r, dx, _, rfl, hR.o, rF_no (by decide +kernel) (by decide +kernel) _ _, _, rfl, r, dx, D, ts, all, k, x, .sign 126, _, _, d, rfl, hR, hx, s126, w126, rfl, c1, fun hd' H1 hR1 kp1 => ?_, fun hd' => ?_⟩
    · refine ⟨(show 1 ≤ sizeLine by decide), fun p hp => ?_⟩
      have nrp : r ≠ p := ne_of_none hR1.o hp
      have nup : u ≠ p := ne_of_none (kp1 u _ hu (by simpa using Ne.symm nru)) hp
      have hE1 := hE.more hx (tokEq_last c1 (by intro z; cases z))
      have eq1 := tp_eq m d (x :: all.drop (k + 1))
      rw [if_pos n1, if_neg (by omega)] at eq1
      simp only [List.drop_succ_cons, List.drop_zero] at eq1
      have kp1' : Keep [r, u] H (upd H1 p (.lst [.int 1])) := (kp1.mono (by simp)).trans (Keep.new hp)
      refine ⟨_, rfl, _, rfl, _, rfl, _, _, rfl, rfl, r, dx, D, ts, all, k + 1, u, un, d + 1, m, rfl, ⟨hR1.same (same_new hp), ?_, by omega, haz, by omega, by omega, hE1⟩, by omega, ?_, ?_⟩
      · rw [upd_ne nup]; exact kp1 u _ hu (by simpa using Ne.symm nru)
      · intro raw j ht hkj hEj hs1 hs2 L H2 hR2 hu2 hL2 kp2
        have hp2 : H2 p = some (.lst [.int 1]) := kp2 p _ upd_same (by simp; exact ⟨Ne.symm nrp, Ne.symm nup⟩)
        have hjz : j ≤ all.length := by
          obtain ⟨y, hy, _⟩ := hEj.head
          exact Nat.le_of_lt (List.getElem?_eq_some_iff.mp hy).1
        refine ⟨p, L, _, _, rfl, rfl, hp2, hL2, small_ok (m := 10000) (by rw [ivs_len, List.length_singleton]; omega), fun t ht2 => ?_⟩
        refine kO (.neg raw) j (by rw [eq1, ht]; rfl) (by omega) hEj (by show (sgs2 un raw).length + 1 + k ≤ j; omega) (by show (names un raw).length + k ≤ un.length + j; omega) t _ (hR2.same (same_new ht2)) (same_new ht2 _ _ hu2) upd_same ((kp1'.trans kp2).trans (Keep.new ht2))
      · intro f hf
        exact (kE f (by rw [eq1, hf]; rfl)).keep kp1' (fun _ h => h)
    · refine (kE ⟨10, x.place⟩ ?_).is (Keep.refl _ _)
      rw [tp_eq, if_pos n1, if_pos hd']; rfl
  | false =>
    refine iteF rfl ?_
    have n1 : ¬ next (.sign 126) (x :: all.drop (k + 1)) = true := by rw [next_cons, c1]; exact Bool.false_ne_true
    refine ⟨_, rfl, r, dx, _, rfl, hR.o, rF_no (by decide +kernel) (by decide +kernel) _ _, r, dx, D, ts, all, k, x, rfl, hR, hx, fun w2 b1 b2 b3 => ?_⟩
    refine ⟨rfl, _, rfl, ?_⟩
    rw [tok_sign s40 w40 rfl b1]
    cases c2 : tokEq x.tok (.sign 40) with
    | true =>
      refine iteT rfl ?_
      have n2 : next (.sign 40) (x :: all.drop (k + 1)) = true := c2
      refine ⟨_, rfl, r, dx, _, rfl, hR.o, rF_no (by decide +kernel) (by decide +kernel) _ _, _, rfl, r, dx, D, ts, all, k, x, .sign 40, _, _, d, rfl, hR, hx, s40, w40, rfl, c2, fun hd' H1 hR1 kp1 => ?_, fun hd' => ?_⟩
      · have hE1 := hE.more hx (tokEq_last c2 (by intro z; cases z))
        have eq1 := tp_eq m d (x :: all.drop (k + 1))
        rw [if_neg n1, if_pos n2, if_neg (by omega)] at eq1
        simp only [List.drop_succ_cons, List.drop_zero] at eq1
        have kp1' : Keep [r, u] H H1 := kp1.mono (by simp)
        refine ⟨_, rfl, _, rfl, _, rfl, _, _, rfl, rfl, r, dx, D, ts, all, k + 1, u, un, d + 1, m, rfl, ⟨hR1, kp1 u _ hu (by simpa using Ne.symm nru), by omega, haz, by omega, by omega, hE1⟩, by omega, ?_, ?_⟩
        · intro raw j ht hkj hEj hs1 hs2 L H2 hR2 hu2 hL2 kp2
          obtain ⟨y, hy, hdy⟩ := hEj.head
          have hkp2 := kp1'.trans kp2
          have nLr : L ≠ r := ne_of hL2 hR2.o (by intro z; cases z)
          refine ⟨_, rfl, r, dx, _, rfl, hR2.o, rF_no (by decide +kernel) (by decide +kernel) _ _, r, dx, D, ts, all, j, y, .sign 41, _, _, rfl, hR2, hy, s41, w41, rfl, fun ht3 H3 hR3 kp3 => ?_, fun ht3 => ?_⟩
          · refine ⟨_, rfl, ?_⟩
            refine kO raw (j + 1) ?_ (by omega) (hEj.more hy (tokEq_last ht3 (by intro z; cases z))) (by omega) (by omega) L H3 hR3 (kp3 u _ hu2 (by simpa using Ne.symm nru)) (kp3 L _ hL2 (by simpa using nLr)) (hkp2.trans (kp3.mono (by simp)))
            rw [eq1, ht]
            show (takeSign 41 (all.drop j)).map _ = _
            rw [hdy, sign_yes ht3]; rfl
          · refine (kE ⟨3, y.place⟩ ?_).is hkp2
            rw [eq1, ht]
            show (takeSign 41 (all.drop j)).map _ = _
            rw [hdy, sign_no ht3]; rfl
        · intro f hf
          exact (kE f (by rw [eq1, hf]; rfl)).keep kp1' (fun _ h => h)
      · refine (kE ⟨10, x.place⟩ ?_).is (Keep.refl _ _)
        rw [tp_eq, if_neg n1, if_pos n2, if_pos hd']; rfl
    | false =>
      refine iteF rfl ?_
      have n2 : ¬ next (.sign 40) (x :: all.drop (k + 1)) = true := by rw [next_cons, c2]; exact Bool.false_ne_true
      have eq1 := tp_eq m d (x :: all.drop (k + 1))
      rw [if_neg n1, if_neg n2] at eq1
      refine ⟨_, rfl, r, dx, _, rfl, hR.o, rF_no (by decide +kernel) (by decide +kernel) _ _, r, dx, D, ts, all, k, x, rfl, hR, hx, fun nm hnm hres hnz hpl H1 hR1 kp1 => ?_, fun hno => ?_⟩
      · have eq2 : takePart (m + 1) d (x :: all.drop (k + 1)) = .ok (.var nm, all.drop (k + 1)) := by
          rw [eq1, name_yes hnm hres]; rfl
        have hu1 := kp1 u _ hu (by simpa using Ne.symm nru)
        have hE1 := hE.more hx (by rw [hnm]; intro z; cases z)
        have kp1' : Keep [r, u] H H1 := kp1.mono (by simp)
        have hlen : (nkv un 0).length < sizeLine := small_lt (m := 10000) (by rw [nkv_len]; omega)
        refine ⟨_, rfl, u, rfl, .inl ⟨_, .inl hu1⟩, _, rfl, _, rfl, u, _, rfl, hu1, _, _, rfl, rfl, _, Sum.inr (bx nm), hu1, rfl, hlen, ?_, ?_⟩
        · intro v hv
          rw [nkv_val] at hv
          by_cases c : nm ∈ un
          · rw [if_pos c] at hv
            cases hv
            refine ⟨(show 1 ≤ sizeLine by decide), fun p hp => ?_⟩
            have en : addN un nm = un := by unfold addN; rw [if_pos (by simpa using c)]
            refine kO (.var nm) (k + 1) eq2 (by omega) hE1 (by show 1 + k ≤ k + 1; omega) (by show (addN un nm).length + k ≤ _; rw [en]; omega) p _ (hR1.same (same_new hp)) ?_ ?_ (kp1'.trans (Keep.new hp))
            · show _ = some (HO.dK (nkv (addN un nm) 0))
              rw [en]; exact same_new hp _ _ hu1
            · rw [upd_same, Nat.zero_add]; rfl
          · rw [if_neg c] at hv; cases hv
        · intro hv
          rw [nkv_val] at hv
          by_cases c : nm ∈ un
          · rw [if_pos c] at hv; cases hv
          refine ⟨(show 1 ≤ sizeLine by decide), fun p hp => ?_⟩
          have en : addN un nm = un ++ [nm] := by unfold addN; rw [if_neg (by simpa using c)]
          have ev : (2 : Int) + ((nkv un 0).length : Nat) = ((un.length : Nat) : Int) + 2 := by rw [nkv_len]; omega
          have epk : putK (nkv un 0) (Sum.inr (bx nm)) (.int ((2 : Int) + ((nkv un 0).length : Nat))) = nkv (un ++ [nm]) 0 := by
            rw [ev, nkv_app]
            unfold putK
            rw [valV_any, nkv_val, if_neg c]
            show nkv un 0 ++ [(Sum.inr (bx nm), V.int (((un.length : Nat) : Int) + 2))] = nkv un 0 ++ [(Sum.inr (bx nm), V.int (((0 + un.length : Nat) : Int) + 2))]
            rw [Nat.zero_add]
          have nup : u ≠ p := fun e => by rw [e, upd_same] at hp; cases hp
          have kpu : Keep [r, u] H1 (upd H1 u (.dK (putK (nkv un 0) (Sum.inr (bx nm)) (.int ((2 : Int) + ((nkv un 0).length : Nat)))))) := Keep.upd (by simp)
          have hR2 := hR1.upd (o' := .dK (putK (nkv un 0) (Sum.inr (bx nm)) (.int ((2 : Int) + ((nkv un 0).length : Nat))))) hu1 (by intro _ q; cases q) (by intro _ _ q; cases q) nru nDu
          refine kO (.var nm) (k + 1) eq2 (by omega) hE1 (by show 1 + k ≤ k + 1; omega) (by have := addN_len un nm; show (addN un nm).length + k ≤ _; omega) p _ (hR2.same (same_new hp)) ?_ ?_ ((kp1'.trans kpu).trans (Keep.new hp))
          · rw [upd_ne nup, upd_same, epk]
            show _ = some (HO.dK (nkv (addN un nm) 0))
            rw [en]
          · rw [upd_same]
            show some (HO.lst [V.int ((2 : Int) + ((nkv un 0).length : Nat))]) = _
            rw [ev]
            show _ = some (HO.lst [V.int (((ixOf un nm : Nat) : Int) + 2)])
            rw [ix_new c]
      · refine (kE ⟨3, x.place⟩ ?_).is (Keep.refl _ _)
        rw [eq1, name_no hno]; rfl
theorem ok_read_signs_ (T : Top K mg) (TF : FaultT K T.C_Fault) {n : Nat} (G1 : FnOk P w K mg base (L2.CX P w) (2 * n + 6) T.d_read_part.f T.d_read_part.fd P_read_part (sp_read_part T (n + 1))) (G2 : FnOk P w K mg base (L2.CX P w) (2 * n + 5) T.d_read_signs.f T.d_read_signs.fd P_read_signs (sp_read_signs T n)) :
    FnOk P w K mg base (L2.CX P w) (2 * n + 7) T.d_read_signs.f T.d_read_signs.fd P_read_signs (sp_read_signs T (n + 1)) := by
  refine T.d_read_signs.F.okX sc_read_signs (fun vs H Q E h => by obtain ⟨_, _, _, _, _, _, _, _, _, _, rfl, _⟩ := h; rfl) (fun cdv A outer s H vs Q E hr h => ?_)
  refine ⟨_, (pss_cons (ps_set (i := 3) sc_read_signs.nd rfl (Or.inl rfl) (pe_call G1 (hr.mono (by omega)) rfl T.d_read_part.mg T.d_read_part.F.kp T.d_read_part.b .nil (passes_call (takes_of rfl rfl rfl rfl) (fun _ _ _ _ h => h)) (pa_cons (pv 0) (pa_cons (pv 1) (pa_cons (pv 2) pa_nil)))))
    (pss_cons (ps_if (pt_cmpR op_ne (pe_meth0 (pv 0) T.cl_Reader T.m_Reader_word.m (ok_Reader_word T) (hr.mono (by omega)) T.m_Reader_word.b .nil pass0) pe_str (nomark _)) (pss_one (ps_ret (pv 3))) pss_nil)
    (pss_cons (ps_expr (pe_meth (pv 0) T.cl_Reader T.m_Reader_take_nesting.m (ok_Reader_take_nesting T TF) (hr.mono (by omega)) T.m_Reader_take_nesting.b .nil (passes_call (takes_of rfl rfl rfl rfl) (fun _ _ _ _ h => h)) (pa_cons pe_str (pa_cons (pv 2) pa_nil))))
    (pss_one (ps_ret (pe_op op_cat (pe_op op_cat (pe_lst (pa_cons (pe_glob rfl T.c_IMPLIES.choose_spec relI) pa_nil)) (pv 3)) (pe_call G2 (hr.mono (by omega)) rfl T.d_read_signs.mg T.d_read_signs.F.kp T.d_read_signs.b .nil (passes_call (takes_of rfl rfl rfl rfl) (fun _ _ _ _ h => h)) (pa_cons (pv 0) (pa_cons (pv 1) (pa_cons (pe_op op_add (pv 2) pe_int) pa_nil)))))))))), ?_⟩
  obtain ⟨r, dx, D, ts, all, k, u, un, d, m, rfl, ⟨hR, hu, hunk, haz, hd, hn, hE⟩, hm, kO, kE⟩ := h
  obtain ⟨x, hx, hdr⟩ := hE.head
  have hk : k < all.length := (List.getElem?_eq_some_iff.mp hx).1
  obtain ⟨m, rfl⟩ : ∃ m', m = m' + 1 := ⟨m - 1, by omega⟩
  have nru : r ≠ u := ne_of hR.o hu (by intro z; cases z)
  have eq0 := tf_eq m d (all.drop k)
  refine ⟨_, rfl, _, rfl, _, rfl, r, dx, D, ts, all, k, u, un, d, m, rfl, ⟨hR, hu, hunk, haz, hd, hn, hE⟩, by omega, ?_, ?_⟩
  · intro raw j ht hkj hEj hs1 hs2 L H1 hR1 hu1 hL1 kp1
    rw [ht] at eq0
    obtain ⟨y, hy, hdy⟩ := hEj.head
    have hj : j < all.length := (List.getElem?_eq_some_iff.mp hy).1
    have eq1 : takeForm (m + 1) d (all.drop k) = if tokEq y.tok (.sign 62) = true then (if 40 ≤ d then .error ⟨10, y.place⟩ else (takeForm m (d + 1) (all.drop (j + 1))).map fun y => (Raw.imp raw y.1, y.2)) else .ok (raw, all.drop j) := by
      rw [eq0]
      show (if next (.sign 62) (all.drop j) = true then (if 40 ≤ d then .error ⟨10, here (all.drop j)⟩ else (takeForm m (d + 1) ((all.drop j).drop 1)).map fun y => (Raw.imp raw y.1, y.2)) else .ok (raw, all.drop j)) = _
      rw [hdy]
      rfl
    refine ⟨_, rfl, r, dx, _, rfl, hR1.o, rF_no (by decide +kernel) (by decide +kernel) _ _, r, dx, D, ts, all, j, y, rfl, hR1, hy, fun w1 a1 a2 a3 => ?_⟩
    refine ⟨rfl, _, rfl, ?_⟩
    rw [tok_sign s62 w62 rfl a1]
    cases c1 : tokEq y.tok (.sign 62) with
    | false =>
      refine iteT rfl ?_
      rw [c1, if_neg Bool.false_ne_true] at eq1
      refine ⟨_, rfl, ?_⟩
      exact kO raw j eq1 hkj hEj hs1 hs2 L H1 hR1 hu1 hL1 kp1
    | true =>
      refine iteF rfl ?_
      rw [c1, if_pos rfl] at eq1
      refine ⟨_, rfl, r, dx, _, rfl, hR1.o, rF_no (by decide +kernel) (by decide +kernel) _ _, _, rfl, r, dx, D, ts, all, j, y, .sign 62, _, _, d, rfl, hR1, hy, s62, w62, rfl, c1, fun hd' H2 hR2 kp2 => ?_, fun hd' => ?_⟩
      · rw [if_neg (by omega)] at eq1
        have nLr : L ≠ r := ne_of hL1 hR1.o (by intro z; cases z)
        have nLu : L ≠ u := ne_of hL1 hu1 (by intro z; cases z)
        have hL2 := kp2 L _ hL1 (by simpa using nLr)
        have hu2 := kp2 u _ hu1 (by simpa using Ne.symm nru)
        have hE2 := hEj.more hy (tokEq_last c1 (by intro z; cases z))
        refine ⟨(show 1 ≤ sizeLine by decide), fun p hp => ?_⟩
        have npL : p ≠ L := fun e => by rw [e, hL2] at hp; cases hp
        refine ⟨_, rfl, p, L, _, _, rfl, rfl, upd_same, same_new hp _ _ hL2, small_ok (m := 10000) (by rw [ivs_len, List.length_singleton]; omega), fun q hq => ?_⟩
        have kpq : Keep [r, u] H (upd (upd H2 p (.lst [.int 0])) q (.lst ([.int 0] ++ ivs (sgs2 un raw)))) := ((kp1.trans (kp2.mono (by simp))).trans (Keep.new hp)).trans (Keep.new hq)
        have smq : Same H2 (upd (upd H2 p (.lst [.int 0])) q (.lst ([.int 0] ++ ivs (sgs2 un raw)))) := (same_new hp).trans (same_new hq)
        refine ⟨_, rfl, _, rfl, _, rfl, _, _, rfl, rfl, r, dx, D, ts, all, j + 1, u, names un raw, d + 1, m, rfl, ⟨hR2.same smq, smq _ _ hu2, by omega, haz, by omega, by omega, hE2⟩, by omega, ?_, ?_⟩
        · intro raw2 j2 ht2 hkj2 hEj2 hs3 hs4 L2 H3 hR3 hu3 hL3 kp3
          obtain ⟨y2, hy2, _⟩ := hEj2.head
          have hj2 : j2 < all.length := (List.getElem?_eq_some_iff.mp hy2).1
          have nqr : q ≠ r := fun e => by rw [e, (same_new hp) _ _ hR2.o] at hq; cases hq
          have nqu : q ≠ u := fun e => by rw [e, (same_new hp) _ _ hu2] at hq; cases hq
          have hq3 := kp3 q _ upd_same (by simp; exact ⟨nqr, nqu⟩)
          refine ⟨q, L2, _, _, rfl, rfl, hq3, hL3, small_ok (m := 10000) (by rw [ivs_len, List.length_append, ivs_len, List.length_singleton]; omega), fun t ht => ?_⟩
          refine kO (.imp raw raw2) j2 (by rw [eq1, ht2]; rfl) (by omega) hEj2 ?_ (by show (names (names un raw) raw2).length + k ≤ _; omega) t _ (hR3.same (same_new ht)) (same_new ht _ _ hu3) ?_ ((kpq.trans kp3).trans (Keep.new ht))
          · show (0 :: (sgs2 un raw ++ sgs2 (names un raw) raw2)).length + k ≤ j2
            rw [List.length_cons, List.length_append]; omega
          · rw [upd_same]
            show _ = some (HO.lst (ivs (0 :: (sgs2 un raw ++ sgs2 (names un raw) raw2))))
            simp [ivs]
        · intro f hf
          exact (kE f (by rw [eq1, hf]; rfl)).keep kpq (fun _ h => h)
      · rw [if_pos hd'] at eq1
        exact (kE _ eq1).is kp1
  · intro f hf
    exact kE f (by rw [eq0, hf]; rfl)
theorem none_part (T : Top K mg) : FnOk P w K mg base (L2.CX P w) 4 T.d_read_part.f T.d_read_part.fd P_read_part (sp_read_part T 0) := by
  have no : ∀ vs H Q E, ¬ sp_read_part T 0 (K := K) vs H Q E := fun vs H Q E h => by
    obtain ⟨r, dx, D, ts, all, k, u, un, d, m, _, ⟨_, _, _, _, h1, h2, _⟩, _⟩ := h
    omega
  exact ⟨fun vs H Q E h => absurd h (no vs H Q E), fun A outer s H args us vs Q E _ _ _ _ h => absurd h (no vs H Q E)⟩
theorem none_signs (T : Top K mg) : FnOk P w K mg base (L2.CX P w) 5 T.d_read_signs.f T.d_read_signs.fd P_read_signs (sp_read_signs T 0) := by
  have no : ∀ vs H Q E, ¬ sp_read_signs T 0 (K := K) vs H Q E := fun vs H Q E h => by
    obtain ⟨r, dx, D, ts, all, k, u, un, d, m, _, ⟨_, _, _, _, h1, h2, _⟩, _⟩ := h
    omega
  exact ⟨fun vs H Q E h => absurd h (no vs H Q E), fun A outer s H args us vs Q E _ _ _ _ h => absurd h (no vs H Q E)⟩
theorem both_read (T : Top K mg) (TF : FaultT K T.C_Fault) : ∀ n : Nat, FnOk P w K mg base (L2.CX P w) (2 * n + 4) T.d_read_part.f T.d_read_part.fd P_read_part (sp_read_part T n) ∧ FnOk P w K mg base (L2.CX P w) (2 * n + 5) T.d_read_signs.f T.d_read_signs.fd P_read_signs (sp_read_signs T n)
  | 0 => ⟨none_part T, none_signs T⟩
  | n + 1 => by
    have ih := both_read T TF n
    have h1 := ok_read_part_ T TF ih.1 ih.2
    exact ⟨h1, ok_read_signs_ T TF h1 ih.2⟩
theorem ok_read_signs (T : Top K mg) (TF : FaultT K T.C_Fault) : FnOk P w K mg base (L2.CX P w) 87 T.d_read_signs.f T.d_read_signs.fd P_read_signs (sp_read_signs T 41) := (both_read T TF 41).2
end
end Shp
end
section
set_option maxRecDepth 100000
set_option maxHeartbeats 4000000
namespace Shp
open PySem PySem.Spec PyProof.Rows L2
open Vapcma (Form Text_ Axiom Row)
theorem u65 {k : Nat} {A : Around} (r : Room k A) : A.units + 65 < cLine := by have := r.un; omega
/-- the places of a text's object and of its lists -/
structure TA where
  a : Addr
  dx : Addr
  na : Addr
  so : Addr
  fo : Addr
  go : Addr
abbrev Src := Option (Nat × Nat)
/-- what the lists say -/
structure Tx where
  ns : Nms
  ss : List Src
  fs : List (Option Form)
  gs : List Form
section
variable {K : PySem.W.Frag} {H H' : Hp}
def tF (A : TA) : List (Str × V) := [("names", .ref A.na), ("sources", .ref A.so), ("formulas", .ref A.fo), ("goals", .ref A.go)]
theorem tF_names (A : TA) : (tF A).lookup ("names" : Str) = some (.ref A.na) := lkH
theorem tF_sources (A : TA) : (tF A).lookup ("sources" : Str) = some (.ref A.so) := (lkP (by decide +kernel)).trans lkH
theorem tF_formulas (A : TA) : (tF A).lookup ("formulas" : Str) = some (.ref A.fo) := (lkP (by decide +kernel)).trans ((lkP (by decide +kernel)).trans lkH)
theorem tF_goals (A : TA) : (tF A).lookup ("goals" : Str) = some (.ref A.go) := (lkP (by decide +kernel)).trans ((lkP (by decide +kernel)).trans ((lkP (by decide +kernel)).trans lkH))
theorem tF_no {m : Str} (h1 : (m == ("names" : Str)) = false) (h2 : (m == ("sources" : Str)) = false) (h3 : (m == ("formulas" : Str)) = false) (h4 : (m == ("goals" : Str)) = false) (A : TA) : (tF A).lookup m = none :=
  (lkP h1).trans ((lkP h2).trans ((lkP h3).trans ((lkP h4).trans rfl)))
def SrcAt (K : PySem.W.Frag) (H : Hp) (v : V) : Src → Prop
  | none => v = .non
  | some x => ∃ p, v = .ref p ∧ SqT K H p [.int (x.1 : Int), .int (x.2 : Int)]
def FrmAt (K : PySem.W.Frag) (H : Hp) (v : V) : Option Form → Prop
  | none => v = .non
  | some f => ∃ p, v = .ref p ∧ SqT K H p (ivs (enc f))
/-- tuples that stand in one heap stand in the other -/
def Tups (K : PySem.W.Frag) (H H' : Hp) : Prop := ∀ p xs, SqT K H p xs → SqT K H' p xs
theorem SrcAt.tups {v : V} {x : Src} (h : SrcAt K H v x) (t : Tups K H H') : SrcAt K H' v x := by
  cases x with
  | none => exact h
  | some x => obtain ⟨p, e, q⟩ := h; exact ⟨p, e, t _ _ q⟩
theorem FrmAt.tups {v : V} {x : Option Form} (h : FrmAt K H v x) (t : Tups K H H') : FrmAt K H' v x := by
  cases x with
  | none => exact h
  | some x => obtain ⟨p, e, q⟩ := h; exact ⟨p, e, t _ _ q⟩
/-- a text's object -/
structure TAt (K : PySem.W.Frag) (C : Addr) (H : Hp) (A : TA) (x : Tx) : Prop where
  o : H A.a = some (.ins C A.dx (tF A))
  n : H A.na = some (.lst (x.ns.map fun n => V.str (bx n)))
  s : ∃ vs, H A.so = some (.lst vs) ∧ Paired (SrcAt K H) vs x.ss
  f : ∃ vs, H A.fo = some (.lst vs) ∧ Paired (FrmAt K H) vs x.fs
  g : ∃ vs, H A.go = some (.lst vs) ∧ Paired (fun v g => FrmAt K H v (some g)) vs x.gs
  d1 : A.na ≠ A.so
  d2 : A.na ≠ A.fo
  d3 : A.na ≠ A.go
  d4 : A.so ≠ A.fo
  d5 : A.so ≠ A.go
  d6 : A.fo ≠ A.go
abbrev TA.lists (A : TA) : List Addr := [A.na, A.so, A.fo, A.go]
abbrev TA.all (A : TA) : List Addr := [A.a, A.na, A.so, A.fo, A.go]
/-- places that hold no tuple -/
def NoTup (H : Hp) (L : List Addr) : Prop := ∀ y ∈ L, ∃ o, H y = some o ∧ (∀ xs, o ≠ .tup xs) ∧ ∀ q u, o ≠ .frz q u
theorem Keep.tups {L : List Addr} (k : Keep L H H') (n : NoTup H L) : Tups K H H' := fun _ _ h => k.seqT n h
theorem NoTup.cons {y : Addr} {L : List Addr} {o : HO} (h : H y = some o) (h1 : ∀ xs, o ≠ .tup xs) (h2 : ∀ q u, o ≠ .frz q u) (n : NoTup H L) : NoTup H (y :: L) := fun z hz => by
  rcases List.mem_cons.mp hz with rfl | hz
  · exact ⟨o, h, h1, h2⟩
  · exact n z hz
theorem NoTup.nil : NoTup H [] := fun _ h => nomatch h
theorem TAt.keep {C : Addr} {A : TA} {x : Tx} {L : List Addr} (h : TAt K C H A x) (k : Keep L H H') (n : NoTup H L) (d : ∀ y ∈ L, y ∉ A.all) : TAt K C H' A x := by
  have t : Tups K H H' := k.tups n
  have no : ∀ y ∈ A.all, y ∉ L := fun y hy hl => d y hl hy
  obtain ⟨vs, s1, s2⟩ := h.s
  obtain ⟨ws, f1, f2⟩ := h.f
  obtain ⟨us, g1, g2⟩ := h.g
  exact ⟨k _ _ h.o (no _ (by simp)), k _ _ h.n (no _ (by simp)), ⟨vs, k _ _ s1 (no _ (by simp)), paired_mono (fun _ _ z => z.tups t) s2⟩, ⟨ws, k _ _ f1 (no _ (by simp)), paired_mono (fun _ _ z => z.tups t) f2⟩, ⟨us, k _ _ g1 (no _ (by simp)), paired_mono (fun _ _ z => FrmAt.tups z t) g2⟩, h.d1, h.d2, h.d3, h.d4, h.d5, h.d6⟩
theorem TAt.same {C : Addr} {A : TA} {x : Tx} (h : TAt K C H A x) (s : Same H H') : TAt K C H' A x := h.keep (L := []) (.of_same s) .nil (fun _ h => nomatch h)
theorem TAt.noTup {C : Addr} {A : TA} {x : Tx} (h : TAt K C H A x) : NoTup H A.all := by
  obtain ⟨vs, s1, s2⟩ := h.s
  obtain ⟨ws, f1, f2⟩ := h.f
  obtain ⟨us, g1, g2⟩ := h.g
  refine .cons h.o (by intro _ z; cases z) (by intro _ _ z; cases z) (.cons h.n (by intro _ z; cases z) (by intro _ _ z; cases z) (.cons s1 (by intro _ z; cases z) (by intro _ _ z; cases z) (.cons f1 (by intro _ z; cases z) (by intro _ _ z; cases z) (.cons g1 (by intro _ z; cases z) (by intro _ _ z; cases z) .nil))))
theorem NoTup.sub {L M : List Addr} (n : NoTup H M) (h : ∀ y ∈ L, y ∈ M) : NoTup H L := fun y hy => n y (h y hy)
theorem TAt.ne_a {C : Addr} {A : TA} {x : Tx} (h : TAt K C H A x) : A.a ∉ A.lists := by
  obtain ⟨vs, s1, s2⟩ := h.s
  obtain ⟨ws, f1, f2⟩ := h.f
  obtain ⟨us, g1, g2⟩ := h.g
  have e1 := ne_of h.o h.n (by intro z; cases z)
  have e2 := ne_of h.o s1 (by intro z; cases z)
  have e3 := ne_of h.o f1 (by intro z; cases z)
  have e4 := ne_of h.o g1 (by intro z; cases z)
  simp; exact ⟨e1, e2, e3, e4⟩
/-- the reader stands when the text's lists change -/
theorem RAt.keep {C : Addr} {r dx D : Addr} {ts : List Addr} {all : VapcmBase.Toks} {k : Nat} {L : List Addr} (h : RAt K C H r dx D ts all k) (e : Keep L H H') (n : NoTup H L) (nr : r ∉ L) (nD : D ∉ L) : RAt K C H' r dx D ts all k := by
  have t : Tups K H H' := e.tups n
  exact ⟨e _ _ h.o nr, e _ _ h.t nD, paired_mono (fun _ _ z => by obtain ⟨u, z1, z2⟩ := z; exact ⟨u, t _ _ z1, z2⟩) h.p⟩
theorem RAt.noTup {C : Addr} {r dx D : Addr} {ts : List Addr} {all : VapcmBase.Toks} {k : Nat} (h : RAt K C H r dx D ts all k) : NoTup H [r] := .cons h.o (by intro _ z; cases z) (by intro _ _ z; cases z) .nil
/-- the reader is no part of the text -/
theorem RAt.apart {C C' : Addr} {r dx D : Addr} {ts : List Addr} {all : VapcmBase.Toks} {k : Nat} {A : TA} {x : Tx} (h : RAt K C H r dx D ts all k) (t : TAt K C' H A x) : r ∉ A.all := by
  obtain ⟨vs, s1, s2⟩ := t.s
  obtain ⟨ws, f1, f2⟩ := t.f
  obtain ⟨us, g1, g2⟩ := t.g
  have e0 := ne_of h.o t.o (by intro z; cases z)
  have e1 := ne_of h.o t.n (by intro z; cases z)
  have e2 := ne_of h.o s1 (by intro z; cases z)
  have e3 := ne_of h.o f1 (by intro z; cases z)
  have e4 := ne_of h.o g1 (by intro z; cases z)
  simp; exact ⟨e0, e1, e2, e3, e4⟩
/-- a changed place less, where it was free -/
theorem Keep.thin {L M : List Addr} (k : Keep M H H') (h : ∀ x ∈ M, x ∈ L ∨ H x = none) : Keep L H H' := fun b o hb n => k b o hb fun m => by
  rcases h b m with q | q
  · exact n q
  · rw [q] at hb; cases hb
theorem FaultKs.of {E : XK} {cA : Addr} {L M : List Addr} {H1 : Hp} {c p : Int} (h : FaultKs E cA L H c p) (k : Keep M H H1) (hm : ∀ x ∈ M, x ∈ L ∨ H x = none) : FaultKs E cA M H1 c p := fun d H' hd s => h d H' hd ((k.trans s).thin hm)
end
end Shp
end
section
set_option maxRecDepth 100000
set_option maxHeartbeats 4000000
namespace Shp
open PySem PySem.Spec PyProof.Rows L2
open Vapcma (Form Text_ Axiom Row)
section
variable {P : Program} {w : World} {K : PySem.W.Frag} {mg : Str → Option Value} {base : Heap}
def sp_Text___init__ (T : Top K mg) : Sp := fun vs H Q _ => ∃ (p dx : Addr),
  vs = [.ref p] ∧ H p = some (.ins T.C_Text dx []) ∧
  ∀ (H' : Hp) (na so fo go : Addr), TAt K T.C_Text H' ⟨p, dx, na, so, fo, go⟩ ⟨[], [], [], []⟩ → (∀ y ∈ [na, so, fo, go], H y = none) → Keep [p] H H' → Q .non H'
theorem ok_Text___init__ (T : Top K mg) : FnOk P w K mg base CX0 1 T.m_Text___init__.f T.m_Text___init__.fd P_Text___init__ (sp_Text___init__ T) := by
  refine T.m_Text___init__.F.ok sc_Text___init__ (fun vs H Q E h => by obtain ⟨_, _, rfl, _⟩ := h; rfl) (fun cdv A outer s H vs Q E hr h => ?_)
  refine ⟨_, (pss_cons (ps_fld (pv 0) (pe_lst pa_nil) rfl)
    (pss_cons (ps_fld (pv 0) (pe_lst pa_nil) rfl)
    (pss_cons (ps_fld (pv 0) (pe_lst pa_nil) rfl)
    (pss_one (ps_fld (pv 0) (pe_lst pa_nil) rfl))))), ?_⟩
  obtain ⟨p, dx, rfl, hp, k⟩ := h
  refine ⟨Nat.zero_le _, fun l1 n1 => ?_⟩
  have p1 : p ≠ l1 := ne_of_none hp n1
  refine ⟨_, rfl, p, T.C_Text, dx, _, rfl, (by rw [upd_ne p1]; exact hp), T.cl_Text, T.n_Text_names, (by show 0 < 1000; decide), ?_⟩
  refine ⟨Nat.zero_le _, fun l2 n2 => ?_⟩
  have p2 : p ≠ l2 := ne_of_none (upd_same) n2
  have e12 : l1 ≠ l2 := by
    rintro rfl
    rw [upd_ne (Ne.symm p1), upd_same] at n2; cases n2
  refine ⟨_, rfl, p, T.C_Text, dx, _, rfl, (by rw [upd_ne p2, upd_same]), T.cl_Text, T.n_Text_sources, (by show 1 < 1000; decide), ?_⟩
  refine ⟨Nat.zero_le _, fun l3 n3 => ?_⟩
  have p3 : p ≠ l3 := ne_of_none (upd_same) n3
  have e23 : l2 ≠ l3 := by
    rintro rfl
    rw [upd_ne (Ne.symm p2), upd_same] at n3; cases n3
  have e13 : l1 ≠ l3 := by
    rintro rfl
    rw [upd_ne (Ne.symm p1), upd_ne e12, upd_ne (Ne.symm p1), upd_same] at n3; cases n3
  refine ⟨_, rfl, p, T.C_Text, dx, _, rfl, (by rw [upd_ne p3, upd_same]), T.cl_Text, T.n_Text_formulas, (by show 2 < 1000; decide), ?_⟩
  refine ⟨Nat.zero_le _, fun l4 n4 => ?_⟩
  have p4 : p ≠ l4 := ne_of_none (upd_same) n4
  have e34 : l3 ≠ l4 := by
    rintro rfl
    rw [upd_ne (Ne.symm p3), upd_same] at n4; cases n4
  have e24 : l2 ≠ l4 := by
    rintro rfl
    rw [upd_ne (Ne.symm p2), upd_ne e23, upd_ne (Ne.symm p2), upd_same] at n4; cases n4
  have e14 : l1 ≠ l4 := by
    rintro rfl
    rw [upd_ne (Ne.symm p1), upd_ne e13, upd_ne (Ne.symm p1), upd_ne e12, upd_ne (Ne.symm p1), upd_same] at n4; cases n4
  refine ⟨_, rfl, p, T.C_Text, dx, _, rfl, (by rw [upd_ne p4, upd_same]), T.cl_Text, T.n_Text_goals, (by show 3 < 1000; decide), ?_⟩
  have z2 : H l2 = none := by rw [upd_ne (Ne.symm p2), upd_ne (Ne.symm e12)] at n2; exact n2
  have z3 : H l3 = none := by rw [upd_ne (Ne.symm p3), upd_ne (Ne.symm e23), upd_ne (Ne.symm p3), upd_ne (Ne.symm e13)] at n3; exact n3
  have z4 : H l4 = none := by rw [upd_ne (Ne.symm p4), upd_ne (Ne.symm e34), upd_ne (Ne.symm p4), upd_ne (Ne.symm e24), upd_ne (Ne.symm p4), upd_ne (Ne.symm e14)] at n4; exact n4
  refine k _ l1 l2 l3 l4 ⟨?_, ?_, ⟨[], ?_, .nil⟩, ⟨[], ?_, .nil⟩, ⟨[], ?_, .nil⟩, e12, e13, e14, e23, e24, e34⟩ ?_ ?_
  · rw [upd_same]
    congr 2
  · show _ = some (HO.lst [])
    rw [upd_ne (Ne.symm p1), upd_ne e14, upd_ne (Ne.symm p1), upd_ne e13, upd_ne (Ne.symm p1), upd_ne e12, upd_ne (Ne.symm p1), upd_same]
  · show _ = some (HO.lst [])
    rw [upd_ne (Ne.symm p2), upd_ne e24, upd_ne (Ne.symm p2), upd_ne e23, upd_ne (Ne.symm p2), upd_same]
  · show _ = some (HO.lst [])
    rw [upd_ne (Ne.symm p3), upd_ne e34, upd_ne (Ne.symm p3), upd_same]
  · show _ = some (HO.lst [])
    rw [upd_ne (Ne.symm p4), upd_same]
  · intro y hy
    simp only [List.mem_cons, List.not_mem_nil, or_false] at hy
    rcases hy with rfl | rfl | rfl | rfl <;> assumption
  · intro b o hb hn
    have hbp : b ≠ p := by simpa using hn
    rw [upd_ne hbp, upd_ne (ne_of_none hb z4), upd_ne hbp, upd_ne (ne_of_none hb z3), upd_ne hbp, upd_ne (ne_of_none hb z2), upd_ne hbp, upd_ne (ne_of_none hb n1)]
    exact hb
def sp_Text_add_item (T : Top K mg) : Sp := fun vs H Q _ => ∃ (A : TA) (x : Tx) (n : List UInt8) (v2 v3 : V) (s : Src) (f : Option Form),
  vs = [.ref A.a, .str (bx n), v2, v3] ∧ TAt K T.C_Text H A x ∧ SrcAt K H v2 s ∧ FrmAt K H v3 f ∧ x.ns.length ≤ 10000 ∧ x.ss.length ≤ 10000 ∧ x.fs.length ≤ 10000 ∧
  ∀ H', TAt K T.C_Text H' A ⟨x.ns ++ [n], x.ss ++ [s], x.fs ++ [f], x.gs⟩ → Keep A.lists H H' → Q .non H'
theorem ok_Text_add_item (T : Top K mg) : FnOk P w K mg base CX0 1 T.m_Text_add_item.f T.m_Text_add_item.fd P_Text_add_item (sp_Text_add_item T) := by
  refine T.m_Text_add_item.F.ok sc_Text_add_item (fun vs H Q E h => by obtain ⟨_, _, _, _, _, _, _, rfl, _⟩ := h; rfl) (fun cdv A outer s H vs Q E hr h => ?_)
  refine ⟨_, (pss_cons (ps_expr (pe_bm PySem.F.plainAttrs_list PySem.F.slot_list_append PySem.F.type_list_append mt_append (pe_fld (pv 0) rfl) (pa_cons (pv 1) pa_nil)))
    (pss_cons (ps_expr (pe_bm PySem.F.plainAttrs_list PySem.F.slot_list_append PySem.F.type_list_append mt_append (pe_fld (pv 0) rfl) (pa_cons (pv 2) pa_nil)))
    (pss_one (ps_expr (pe_bm PySem.F.plainAttrs_list PySem.F.slot_list_append PySem.F.type_list_append mt_append (pe_fld (pv 0) rfl) (pa_cons (pv 3) pa_nil)))))), ?_⟩
  obtain ⟨A, x, n, v2, v3, s', f', rfl, hT, hs, hf, zn, zs, zf, hk⟩ := h
  obtain ⟨vs, s1, s2⟩ := hT.s
  obtain ⟨ws, f1, f2⟩ := hT.f
  obtain ⟨us, g1, g2⟩ := hT.g
  have ha := hT.ne_a
  simp only [TA.lists, List.mem_cons, List.not_mem_nil, or_false, not_or] at ha
  obtain ⟨a1, a2, a3, a4⟩ := ha
  refine ⟨_, rfl, A.a, _, A.dx, _, _, rfl, hT.o, T.cl_Text, T.n_Text_names, tF_names _, tyL hT.n, _, rfl, A.na, _, _, rfl, rfl, hT.n, small_lt (m := 10000) (by rw [List.length_map]; exact zn), ?_⟩
  have o1 : (upd H A.na (.lst ((x.ns.map fun n => V.str (bx n)) ++ [.str (bx n)]))) A.a = some (.ins T.C_Text A.dx (tF A)) := by rw [upd_ne a1]; exact hT.o
  have s3 : (upd H A.na (.lst ((x.ns.map fun n => V.str (bx n)) ++ [.str (bx n)]))) A.so = some (.lst vs) := by rw [upd_ne (Ne.symm hT.d1)]; exact s1
  have k1 : Keep A.lists H (upd H A.na (.lst ((x.ns.map fun n => V.str (bx n)) ++ [.str (bx n)]))) := Keep.upd (by simp)
  have g3 : (upd H A.na (.lst ((x.ns.map fun n => V.str (bx n)) ++ [.str (bx n)]))) A.go = some (.lst us) := by rw [upd_ne (Ne.symm hT.d3)]; exact g1
  have f3 : (upd H A.na (.lst ((x.ns.map fun n => V.str (bx n)) ++ [.str (bx n)]))) A.fo = some (.lst ws) := by rw [upd_ne (Ne.symm hT.d2)]; exact f1
  have n3 : (upd H A.na (.lst ((x.ns.map fun n => V.str (bx n)) ++ [.str (bx n)]))) A.na = some (.lst ((x.ns ++ [n]).map fun n => V.str (bx n))) := by rw [upd_same]; simp
  generalize upd H A.na (.lst ((x.ns.map fun n => V.str (bx n)) ++ [.str (bx n)])) = H1 at *
  refine ⟨_, rfl, A.a, _, A.dx, _, _, rfl, o1, T.cl_Text, T.n_Text_sources, tF_sources _, tyL s3, _, rfl, A.so, _, _, rfl, rfl, s3, small_lt (m := 10000) (by rw [s2.length]; exact zs), ?_⟩
  have o2 : (upd H1 A.so (.lst (vs ++ [v2]))) A.a = some (.ins T.C_Text A.dx (tF A)) := by rw [upd_ne a2]; exact o1
  have f4 : (upd H1 A.so (.lst (vs ++ [v2]))) A.fo = some (.lst ws) := by rw [upd_ne (Ne.symm hT.d4)]; exact f3
  have g4 : (upd H1 A.so (.lst (vs ++ [v2]))) A.go = some (.lst us) := by rw [upd_ne (Ne.symm hT.d5)]; exact g3
  have n4 : (upd H1 A.so (.lst (vs ++ [v2]))) A.na = some (.lst ((x.ns ++ [n]).map fun n => V.str (bx n))) := by rw [upd_ne hT.d1]; exact n3
  have s4 : (upd H1 A.so (.lst (vs ++ [v2]))) A.so = some (.lst (vs ++ [v2])) := upd_same
  have k2 : Keep A.lists H (upd H1 A.so (.lst (vs ++ [v2]))) := k1.trans (Keep.upd (by simp))
  generalize upd H1 A.so (.lst (vs ++ [v2])) = H2 at *
  refine ⟨_, rfl, A.a, _, A.dx, _, _, rfl, o2, T.cl_Text, T.n_Text_formulas, tF_formulas _, tyL f4, _, rfl, A.fo, _, _, rfl, rfl, f4, small_lt (m := 10000) (by rw [f2.length]; exact zf), ?_⟩
  have k3 : Keep A.lists H (upd H2 A.fo (.lst (ws ++ [v3]))) := k2.trans (Keep.upd (by simp))
  have t : Tups K H (upd H2 A.fo (.lst (ws ++ [v3]))) := k3.tups (hT.noTup.sub (by simp))
  refine hk _ ⟨?_, ?_, ⟨vs ++ [v2], ?_, ?_⟩, ⟨ws ++ [v3], upd_same, ?_⟩, ⟨us, ?_, ?_⟩, hT.d1, hT.d2, hT.d3, hT.d4, hT.d5, hT.d6⟩ k3
  · rw [upd_ne a3]; exact o2
  · rw [upd_ne hT.d2]; exact n4
  · rw [upd_ne hT.d4]; exact s4
  · exact paired_snoc (R := SrcAt K _) (hs.tups t) (paired_mono (fun _ _ z => z.tups t) s2)
  · exact paired_snoc (R := FrmAt K _) (hf.tups t) (paired_mono (fun _ _ z => z.tups t) f2)
  · rw [upd_ne (Ne.symm hT.d6)]; exact g4
  · exact paired_mono (fun _ _ z => FrmAt.tups z t) g2
def sp_Text_has_item (T : Top K mg) : Sp := fun vs H Q _ => ∃ (A : TA) (x : Tx) (i : Int),
  vs = [.ref A.a, .int i] ∧ TAt K T.C_Text H A x ∧ Q (.bl (decide (0 ≤ i ∧ i < (x.ns.length : Int)))) H
theorem ok_Text_has_item (T : Top K mg) : FnOk P w K mg base CX0 1 T.m_Text_has_item.f T.m_Text_has_item.fd P_Text_has_item (sp_Text_has_item T) := by
  refine T.m_Text_has_item.F.ok sc_Text_has_item (fun vs H Q E h => by obtain ⟨_, _, _, rfl, _⟩ := h; rfl) (fun cdv A outer s H vs Q E hr h => ?_)
  refine ⟨_, (pss_one (ps_ret (pe_chain op_le op_lt pe_int (pv 1) (pe_callB call_len (by rfl) T.b_len PySem.boot_len (pa_cons (pe_fld (pv 0) rfl) pa_nil))))), ?_⟩
  obtain ⟨A, x, i, rfl, hT, hq⟩ := h
  refine ⟨_, rfl, _, _, rfl, rfl, ?_⟩
  refine ⟨_, rfl, ?_⟩
  by_cases c : 0 ≤ i
  · refine iteT (by simp; exact c) ?_
    refine ⟨_, rfl, A.a, _, A.dx, _, _, rfl, hT.o, T.cl_Text, T.n_Text_names, tF_names _, _, _, rfl, .inl ⟨_, SqL.of hT.n, rfl⟩, _, _, rfl, rfl, ?_⟩
    have e : decide (0 ≤ i ∧ i < (x.ns.length : Int)) = decide (i < (x.ns.length : Int)) := by simp [c]
    rw [e] at hq
    show Q (.bl (decide (i < (((x.ns.map fun n => V.str (bx n)).length : Nat) : Int)))) H
    rw [List.length_map]
    exact hq
  · refine iteF (by simp; omega) ?_
    have e : decide (0 ≤ i ∧ i < (x.ns.length : Int)) = false := by simp; omega
    rw [e] at hq
    exact hq
/-- the sources as data -/
def srcD : Src → PyData
  | none => .none
  | some x => .tuple [.int (x.1 : Int), .int (x.2 : Int)]
def frmD : Option Form → PyData
  | none => .none
  | some f => .tuple ((enc f).map PyData.int)
theorem src_dp {H : Hp} {v : V} {x : Src} (h : SrcAt K H v x) : Dp K H v (srcD x) := by
  cases x with
  | none => rw [show v = .non from h]; exact .non
  | some x => obtain ⟨p, rfl, q⟩ := h; exact .tup q (.cons (.int _) (.cons (.int _) .nil))
theorem frm_dp {H : Hp} {v : V} {x : Option Form} (h : FrmAt K H v x) : Dp K H v (frmD x) := by
  cases x with
  | none => rw [show v = .non from h]; exact .non
  | some x => obtain ⟨p, rfl, q⟩ := h; exact dp_tup q
theorem dp_paired {α : Type} {H : Hp} {R : V → α → Prop} {g : α → PyData} (hR : ∀ v x, R v x → Dp K H v (g x)) : ∀ {vs : List V} {xs : List α}, Paired R vs xs → DpAll K H vs (xs.map g)
  | _, _, .nil => .nil
  | _, _, .cons h r => .cons (hR _ _ h) (dp_paired hR r)
theorem shaped_list {α : Type} {g : α → PyData} (h1 : ∀ x, (g x).canLay0 = true) (h2 : ∀ x, (g x).depth ≤ 1) (xs : List α) : SeqAt.shaped (.list (xs.map g)) = true := by
  have e1 : PyData.canLayAll0 (xs.map g) = true := by
    induction xs with
    | nil => rfl
    | cons x r ih => simp only [List.map_cons, PyData.canLayAll0, h1, ih, Bool.and_self]
  have e2 : PyData.depthAll (xs.map g) ≤ 1 := by
    induction xs with
    | nil => simp [PyData.depthAll]
    | cons x r ih => 
      have := h2 x
      simp only [List.map_cons, PyData.depthAll]
      have ih' := ih (by simp only [List.map_cons, PyData.canLayAll0, Bool.and_eq_true] at e1; exact e1.2)
      exact Nat.max_le.mpr ⟨this, ih'⟩
  simp only [SeqAt.shaped, PyData.canLay0, e1, PyData.depth]
  simp
  omega
theorem srcD_lay (x : Src) : (srcD x).canLay0 = true ∧ (srcD x).depth ≤ 1 ∧ SeqAt.shaped (srcD x) = true := by
  cases x with
  | none => exact ⟨rfl, (by simp [srcD, PyData.depth]), rfl⟩
  | some x => refine ⟨?_, ?_, ?_⟩ <;> simp [srcD, PyData.canLay0, PyData.canLayAll0, PyData.depth, PyData.depthAll, SeqAt.shaped]
theorem frmD_lay (x : Option Form) : (frmD x).canLay0 = true ∧ (frmD x).depth ≤ 1 ∧ SeqAt.shaped (frmD x) = true := by
  cases x with
  | none => exact ⟨rfl, (by simp [frmD, PyData.depth]), rfl⟩
  | some f =>
    obtain ⟨h1, h2⟩ := lay_ints (enc f)
    refine ⟨?_, ?_, shaped_ints _⟩
    · simp only [frmD, PyData.canLay0, h1]
    · simp only [frmD, PyData.depth, h2]; exact Nat.le_refl _
def noSrc (ss : List Src) : Nat := ss.countP fun x => x.isNone
def sp_Text_axiom_count (T : Top K mg) : Sp := fun vs H Q _ => ∃ (A : TA) (x : Tx),
  vs = [.ref A.a] ∧ TAt K T.C_Text H A x ∧ Q (.int (noSrc x.ss : Int)) H
theorem ok_Text_axiom_count (T : Top K mg) : FnOk P w K mg base CX0 1 T.m_Text_axiom_count.f T.m_Text_axiom_count.fd P_Text_axiom_count (sp_Text_axiom_count T) := by
  refine T.m_Text_axiom_count.F.ok sc_Text_axiom_count (fun vs H Q E h => by obtain ⟨_, _, rfl, _⟩ := h; rfl) (fun cdv A outer s H vs Q E hr h => ?_)
  refine ⟨_, (pss_one (ps_ret (pe_bm PySem.F.plainAttrs_list PySem.F.slot_list_count PySem.F.type_list_count (mt_cntD (u65 hr)) (pe_fld (pv 0) rfl) (pa_cons pe_non pa_nil)))), ?_⟩
  obtain ⟨A, x, rfl, hT, hq⟩ := h
  obtain ⟨vs, s1, s2⟩ := hT.s
  refine ⟨_, rfl, A.a, _, A.dx, _, _, rfl, hT.o, T.cl_Text, T.n_Text_sources, tF_sources _, tyL s1, A.so, .non, .none, x.ss.map srcD, rfl, rfl, .lst (SqL.of s1) (dp_paired (R := SrcAt K H) (g := srcD) (fun _ _ z => src_dp z) s2), .non, shaped_list (fun y => (srcD_lay y).1) (fun y => (srcD_lay y).2.1) _, rfl, ?_⟩
  have e : (x.ss.map srcD).countP (fun z => PyData.eqv z .none) = noSrc x.ss := by
    rw [List.countP_map]
    unfold noSrc
    congr 1
    funext y
    cases y <;> simp [srcD, PyData.eqv]
  rw [e]
  exact hq
def sp_Text_row_count (T : Top K mg) : Sp := fun vs H Q _ => ∃ (A : TA) (x : Tx),
  vs = [.ref A.a] ∧ TAt K T.C_Text H A x ∧ Q (.int ((x.ss.length : Int) - (noSrc x.ss : Int))) H
theorem ok_Text_row_count (T : Top K mg) : FnOk P w K mg base CX0 2 T.m_Text_row_count.f T.m_Text_row_count.fd P_Text_row_count (sp_Text_row_count T) := by
  refine T.m_Text_row_count.F.ok sc_Text_row_count (fun vs H Q E h => by obtain ⟨_, _, rfl, _⟩ := h; rfl) (fun cdv A outer s H vs Q E hr h => ?_)
  refine ⟨_, (pss_one (ps_ret (pe_op op_sub (pe_callB call_len (by rfl) T.b_len PySem.boot_len (pa_cons (pe_fld (pv 0) rfl) pa_nil)) (pe_meth0 (pv 0) T.cl_Text T.m_Text_axiom_count.m (ok_Text_axiom_count T) (hr.mono (by decide)) T.m_Text_axiom_count.b .nil pass0)))), ?_⟩
  obtain ⟨A, x, rfl, hT, hq⟩ := h
  obtain ⟨vs, s1, s2⟩ := hT.s
  refine ⟨_, rfl, A.a, _, A.dx, _, _, rfl, hT.o, T.cl_Text, T.n_Text_sources, tF_sources _, _, _, rfl, .inl ⟨_, SqL.of s1, rfl⟩, _, rfl, A.a, A.dx, _, rfl, hT.o, tF_no (by decide +kernel) (by decide +kernel) (by decide +kernel) (by decide +kernel) _, A, x, rfl, hT, _, _, rfl, rfl, ?_⟩
  rw [s2.length]
  exact hq
def detF (f g : Option Form) : Option Form := f.bind fun f => g.bind fun g => Vapcma.detach f g
def sp_Text_detached_from (T : Top K mg) : Sp := fun vs H Q _ => ∃ (A : TA) (x : Tx) (p : Addr) (i j : Nat) (f g : Option Form),
  vs = [.ref A.a, .ref p] ∧ TAt K T.C_Text H A x ∧ SqT K H p [.int (i : Int), .int (j : Int)] ∧ x.fs[i]? = some f ∧ x.fs[j]? = some g ∧ (∀ f ∈ x.fs, ∀ z, f = some z → Vapcma.size z ≤ 1000) ∧
  ∀ (v : V) (H' : Hp), Same H H' → FrmAt K H' v (detF f g) → Q v H'
theorem ok_Text_detached_from (T : Top K mg) : FnOk P w K mg base CX0 5 T.m_Text_detached_from.f T.m_Text_detached_from.fd P_Text_detached_from (sp_Text_detached_from T) := by
  refine T.m_Text_detached_from.F.ok sc_Text_detached_from (fun vs H Q E h => by obtain ⟨_, _, _, _, _, _, _, rfl, _⟩ := h; rfl) (fun cdv A outer s H vs Q E hr h => ?_)
  refine ⟨_, (pss_cons (ps_set (i := 2) sc_Text_detached_from.nd rfl (Or.inl rfl) (pe_ix ix_list (pe_fld (pv 0) rfl) (pe_ix ix_tup (pv 1) pe_int (fun _ _ => rfl)) (fun _ _ => rfl)))
    (pss_cons (ps_set (i := 3) sc_Text_detached_from.nd rfl (Or.inl rfl) (pe_ix ix_list (pe_fld (pv 0) rfl) (pe_ix ix_tup (pv 1) pe_int (fun _ _ => rfl)) (fun _ _ => rfl)))
    (pss_cons (ps_if (PW.pt (pw_or (pt_cmpR op_isN (pv 2) pe_non (nomark _)) (pw_or1 (pt_cmpR op_isN (pv 3) pe_non (nomark _))))) (pss_one (ps_ret pe_non)) pss_nil)
    (pss_one (ps_ret (pe_call (ok_detached T) (hr.mono (by decide)) rfl T.d_detached.mg T.d_detached.F.kp T.d_detached.b .nil pass0 (pa_cons (pv 2) (pa_cons (pv 3) pa_nil)))))))), ?_⟩
  obtain ⟨A, x, p, i, j, f, g, rfl, hT, hp, hi, hj, hz, hq⟩ := h
  obtain ⟨ws, f1, f2⟩ := hT.f
  obtain ⟨v1, i1, i2⟩ := Shp.paired_get f2 hi
  obtain ⟨v2, j1, j2⟩ := Shp.paired_get f2 hj
  refine ⟨_, rfl, A.a, _, A.dx, _, _, rfl, hT.o, T.cl_Text, T.n_Text_formulas, tF_formulas _, _, rfl, _, _, _, _, rfl, rfl, hp, atI_nat' (i := 0) rfl, _, _, _, _, rfl, rfl, SqL.of f1, atI_nat' i1, ?_⟩
  refine ⟨_, rfl, A.a, _, A.dx, _, _, rfl, hT.o, T.cl_Text, T.n_Text_formulas, tF_formulas _, _, rfl, _, _, _, _, rfl, rfl, hp, atI_nat' (i := 1) rfl, _, _, _, _, rfl, rfl, SqL.of f1, atI_nat' j1, ?_⟩
  refine ⟨_, rfl, rfl, _, rfl, ?_⟩
  cases f with
  | none =>
    have i3 : v1 = .non := i2
    refine iteT (decide_eq_true i3) ?_
    exact hq .non H (Same.refl _) rfl
  | some f =>
    obtain ⟨p1, rfl, q1⟩ := i2
    refine iteF (by simp) ?_
    refine ⟨_, rfl, rfl, _, rfl, ?_⟩
    cases g with
    | none =>
      have j3 : v2 = .non := j2
      refine iteT (decide_eq_true j3) ?_
      exact hq .non H (Same.refl _) rfl
    | some g =>
      obtain ⟨p2, rfl, q2⟩ := j2
      refine iteF (by simp) ?_
      refine ⟨_, rfl, _, rfl, p1, p2, f, g, rfl, q1, q2, hz _ (List.mem_of_getElem? hi) _ rfl, hz _ (List.mem_of_getElem? hj) _ rfl, fun h hh p3 H' sm hp3 => hq _ H' sm ?_, fun hh H' sm => hq _ H' sm ?_⟩
      · show FrmAt K H' (.ref p3) (Vapcma.detach f g)
        rw [hh]; exact ⟨p3, rfl, hp3⟩
      · show FrmAt K H' .non (Vapcma.detach f g)
        rw [hh]; rfl
end
end Shp
end
section
set_option maxRecDepth 100000
set_option maxHeartbeats 4000000
namespace Shp
open PySem PySem.Spec PyProof.Rows L2
open VapcmBase (PTok Toks tokEq RESERVED next here wrong takeName takeSign)
open Vapcma (takePart takeForm Raw Form rawNames formOf takeFormula newName takeOld)
section
variable {P : Program} {w : World} {K : PySem.W.Frag} {mg : Str → Option Value} {base : Heap}
/-- a formula whose unknowns are numbered as they come -/
def AsRead (f : Form) : Prop := ∃ r : Raw, f = formOf (rawNames r).eraseDups r
theorem tform_eq (l : Toks) : takeFormula l = (takeForm (2 * l.length + 2) 0 l).bind fun x => (takeSign 59 x.2).bind fun m => if 40 < Vapcma.size (formOf (rawNames x.1).eraseDups x.1) then .error ⟨9, here l⟩ else .ok (formOf (rawNames x.1).eraseDups x.1, m) := rfl
def sp_read_formula (T : Top K mg) : Sp := fun vs H Q E => ∃ (r dx D : Addr) (ts : List Addr) (all : Toks) (k : Nat),
  vs = [.ref r] ∧ RAt K T.C_Reader H r dx D ts all k ∧ all.length ≤ 5000 ∧ Ending (all.drop k) ∧
  (∀ f j, takeFormula (all.drop k) = .ok (f, all.drop j) → k < j → Ending (all.drop j) → Vapcma.size f ≤ 40 → AsRead f → ∀ (p : Addr) (H' : Hp), RAt K T.C_Reader H' r dx D ts all j → SqT K H' p (ivs (enc f)) → Keep [r] H H' → Q (.ref p) H') ∧
  (∀ f, takeFormula (all.drop k) = .error f → FaultKs E T.C_Fault [r] H (f.code : Int) (f.place : Int))
theorem ok_read_formula (T : Top K mg) (TF : FaultT K T.C_Fault) : FnOk P w K mg base (L2.CX P w) 88 T.d_read_formula.f T.d_read_formula.fd P_read_formula (sp_read_formula T) := by
  refine T.d_read_formula.F.okX sc_read_formula (fun vs H Q E h => by obtain ⟨_, _, _, _, _, _, rfl, _⟩ := h; rfl) (fun cdv A outer s H vs Q E hr h => ?_)
  refine ⟨_, (pss_cons (ps_set (i := 1) sc_read_formula.nd rfl (Or.inl rfl) (pe_meth0 (pv 0) T.cl_Reader T.m_Reader_here.m (ok_Reader_here T) (hr.mono (by decide)) T.m_Reader_here.b .nil pass0))
    (pss_cons (ps_set (i := 2) sc_read_formula.nd rfl (Or.inl rfl) (pe_call (ok_read_signs T TF) (hr.mono (by decide)) rfl T.d_read_signs.mg T.d_read_signs.F.kp T.d_read_signs.b .nil (passes_call (takes_of rfl rfl rfl rfl) (fun _ _ _ _ h => h)) (pa_cons (pv 0) (pa_cons pe_dnewK (pa_cons pe_int pa_nil)))))
    (pss_cons (ps_expr (pe_meth (pv 0) T.cl_Reader T.m_Reader_take.m (ok_Reader_take T TF) (hr.mono (by decide)) T.m_Reader_take.b .nil (passes_call (takes_of rfl rfl rfl rfl) (fun _ _ _ _ h => h)) (pa_cons pe_str pa_nil)))
    (pss_cons (ps_if (pt_cmpR op_gt (pe_callB call_len (by rfl) T.b_len PySem.boot_len (pa_cons (pv 2) pa_nil)) (pe_glob rfl T.c_MOST_SIGNS.choose_spec relI) (nomark _)) (pss_one (ps_raise rfl (takes_of rfl rfl rfl rfl) (pmk_eown TF.own TF.iC TF.tI (ok_Fault___init__ T TF) (hr.mono (by decide)) TF.b .nil pass0 rfl T.mg_Fault (pa_cons (pe_glob rfl T.c_TOO_MANY_SIGNS.choose_spec relI) (pa_cons (pv 1) pa_nil))))) pss_nil)
    (pss_one (ps_ret (pe_callTy call_tuple_of (by rfl) T.b_tuple (by decide +kernel) (pa_cons (pv 2) pa_nil)))))))), ?_⟩
  obtain ⟨r, dx, D, ts, all, k, rfl, hR, haz, hE, kO, kE⟩ := h
  obtain ⟨x, hx, hdr⟩ := hE.head
  have hk : k < all.length := (List.getElem?_eq_some_iff.mp hx).1
  refine ⟨_, rfl, r, dx, _, rfl, hR.o, rF_no (by decide +kernel) (by decide +kernel) _ _, r, dx, D, ts, all, k, x, rfl, hR, hx, ?_⟩
  refine ⟨_, rfl, fun u hu => ?_⟩
  have nru : r ≠ u := ne_of_none hR.o hu
  have kpu : Keep [r, u] H (upd H u (.dK [])) := Keep.new hu
  have thin : ∀ y ∈ [r, u], y ∈ [r] ∨ H y = none := fun y hy => by
    simp only [List.mem_cons, List.not_mem_nil, or_false] at hy ⊢
    rcases hy with rfl | rfl
    · exact .inl rfl
    · exact .inr hu
  have eq0 := tform_eq (all.drop k)
  refine ⟨r, dx, D, ts, all, k, u, [], 0, 2 * (all.drop k).length + 2, rfl, ⟨hR.same (same_new hu), upd_same, Nat.zero_le _, haz, by omega, by omega, hE⟩, by rw [List.length_drop]; omega, ?_, ?_⟩
  · intro raw j ht hkj hEj hs1 hs2 L H1 hR1 hu1 hL1 kp1
    rw [ht] at eq0
    obtain ⟨y, hy, hdy⟩ := hEj.head
    have eq1 : takeFormula (all.drop k) = (takeSign 59 (all.drop j)).bind fun m => if 40 < Vapcma.size (formOf (rawNames raw).eraseDups raw) then .error ⟨9, x.place⟩ else .ok (formOf (rawNames raw).eraseDups raw, m) := by
      rw [eq0, hdr]; rfl
    rw [hdy] at eq1
    refine ⟨_, rfl, r, dx, _, rfl, hR1.o, rF_no (by decide +kernel) (by decide +kernel) _ _, r, dx, D, ts, all, j, y, .sign 59, _, _, rfl, hR1, hy, s59, w59, rfl, fun ht3 H2 hR2 kp2 => ?_, fun ht3 => ?_⟩
    · rw [sign_yes ht3] at eq1
      have eq2 : takeFormula (all.drop k) = if 40 < Vapcma.size (formOf (rawNames raw).eraseDups raw) then .error ⟨9, x.place⟩ else .ok (formOf (rawNames raw).eraseDups raw, all.drop (j + 1)) := eq1
      have nLr : L ≠ r := ne_of hL1 hR1.o (by intro z; cases z)
      have hL2 := kp2 L _ hL1 (by simpa using nLr)
      have hlen : (ivs (sgs2 [] raw)).length = Vapcma.size (formOf (rawNames raw).eraseDups raw) := by rw [ivs_len, sgs2_all, enc_len]
      have kpa : Keep [r, u] H H2 := (kpu.trans kp1).trans (kp2.mono (by simp))
      refine ⟨_, rfl, _, _, rfl, .inl ⟨_, SqL.of hL2, rfl⟩, _, _, rfl, rfl, _, rfl, ?_⟩
      rw [hlen]
      by_cases c : 40 < Vapcma.size (formOf (rawNames raw).eraseDups raw)
      · refine iteT (by simp; omega) ?_
        rw [if_pos c] at eq2
        refine ⟨_, rfl, raise_fault ?_⟩
        exact FaultKs.is (kE _ eq2) (kpa.thin thin)
      · refine iteF (by simp; omega) ?_
        rw [if_neg c] at eq2
        refine ⟨_, rfl, L, _, rfl, .inl ⟨SqL.of hL2, fun p hp => ?_⟩⟩
        refine kO _ (j + 1) eq2 (by omega) (hEj.more hy (tokEq_last ht3 (by intro z; cases z))) (by omega) ⟨raw, rfl⟩ p _ (hR2.same (same_new hp)) ?_ ((kpa.trans (Keep.new hp)).thin thin)
        rw [← sgs2_all]
        exact SqT.of upd_same
    · rw [sign_no ht3] at eq1
      exact FaultKs.is (kE _ eq1) ((kpu.trans kp1).thin thin)
  · intro f hf
    exact (kE f (by rw [eq0, hf]; rfl)).of kpu thin
def sp_read_new_name (T : Top K mg) : Sp := fun vs H Q E => ∃ (r dx D : Addr) (ts : List Addr) (all : Toks) (k : Nat) (A : TA) (x : Tx),
  vs = [.ref r, .ref A.a] ∧ RAt K T.C_Reader H r dx D ts all k ∧ TAt K T.C_Text H A x ∧ Ending (all.drop k) ∧
  (∀ n, newName x.ns (all.drop k) = .ok (n, all.drop (k + 1)) → Ending (all.drop (k + 1)) → n.length ≤ 16 → PlainB n → ∀ (H' : Hp), RAt K T.C_Reader H' r dx D ts all (k + 1) → Keep [r] H H' → Q (.str (bx n)) H') ∧
  (∀ f, newName x.ns (all.drop k) = .error f → FaultKs E T.C_Fault [r] H (f.code : Int) (f.place : Int))
theorem names_in (ns : Nms) (n : List UInt8) : inV (.str (bx n)) (ns.map fun n => V.str (bx n)) = ns.contains n := by
  induction ns with
  | nil => rfl
  | cons m r ih =>
    simp only [List.map_cons, inV, List.any_cons, List.contains_cons] at ih ⊢
    rw [ih]
    congr 1
    show (bx m == bx n) = _
    rw [bx_beq, Bool.beq_comm]
theorem names_flat (ns : Nms) : (ns.map fun n => V.str (bx n)).all flatV = true := by simp [flatV]
theorem ok_read_new_name (T : Top K mg) (TF : FaultT K T.C_Fault) : FnOk P w K mg base (L2.CX P w) 4 T.d_read_new_name.f T.d_read_new_name.fd P_read_new_name (sp_read_new_name T) := by
  refine T.d_read_new_name.F.okX sc_read_new_name (fun vs H Q E h => by obtain ⟨_, _, _, _, _, _, _, _, rfl, _⟩ := h; rfl) (fun cdv A outer s H vs Q E hr h => ?_)
  refine ⟨_, (pss_cons (ps_set (i := 2) sc_read_new_name.nd rfl (Or.inl rfl) (pe_meth0 (pv 0) T.cl_Reader T.m_Reader_here.m (ok_Reader_here T) (hr.mono (by decide)) T.m_Reader_here.b .nil pass0))
    (pss_cons (ps_set (i := 3) sc_read_new_name.nd rfl (Or.inl rfl) (pe_meth0 (pv 0) T.cl_Reader T.m_Reader_take_name.m (ok_Reader_take_name T TF) (hr.mono (by decide)) T.m_Reader_take_name.b .nil (passes_call (takes_of rfl rfl rfl rfl) (fun _ _ _ _ h => h))))
    (pss_cons (ps_if (pt_cmpR op_in_seq (pv 3) (pe_fld (pv 1) rfl) rfl) (pss_one (ps_raise rfl (takes_of rfl rfl rfl rfl) (pmk_eown TF.own TF.iC TF.tI (ok_Fault___init__ T TF) (hr.mono (by decide)) TF.b .nil pass0 rfl T.mg_Fault (pa_cons (pe_glob rfl T.c_NAME_TAKEN.choose_spec relI) (pa_cons (pv 2) pa_nil))))) pss_nil)
    (pss_one (ps_ret (pv 3)))))), ?_⟩
  obtain ⟨r, dx, D, ts, all, k, A, z, rfl, hR, hT, hE, kO, kE⟩ := h
  obtain ⟨x, hx, hdr⟩ := hE.head
  rw [hdr] at kO kE
  refine ⟨_, rfl, r, dx, _, rfl, hR.o, rF_no (by decide +kernel) (by decide +kernel) _ _, r, dx, D, ts, all, k, x, rfl, hR, hx, ?_⟩
  refine ⟨_, rfl, r, dx, _, rfl, hR.o, rF_no (by decide +kernel) (by decide +kernel) _ _, r, dx, D, ts, all, k, x, rfl, hR, hx, fun n hn hres hnz hpl H1 hR1 kp1 => ?_, fun hno => ?_⟩
  · have hT1 : TAt K T.C_Text H1 A z := hT.keep kp1 hR.noTup (fun y hy => by rw [List.mem_singleton.mp hy]; exact hR.apart hT)
    have eq1 : newName z.ns (x :: all.drop (k + 1)) = if z.ns.contains n = true then .error ⟨5, x.place⟩ else .ok (n, all.drop (k + 1)) := by
      show (takeName (x :: all.drop (k + 1))).bind _ = _
      rw [name_yes hn hres]; rfl
    refine ⟨_, rfl, _, rfl, A.a, _, A.dx, _, _, rfl, hT1.o, T.cl_Text, T.n_Text_names, tF_names _, A.na, _, rfl, .inl (SqL.of hT1.n), rfl, names_flat _, _, rfl, ?_⟩
    rw [if_neg Bool.false_ne_true, names_in]
    cases c : z.ns.contains n with
    | true =>
      refine iteT rfl ?_
      rw [c, if_pos rfl] at eq1
      refine ⟨_, rfl, raise_fault ?_⟩
      exact FaultKs.is (kE _ eq1) kp1
    | false =>
      refine iteF rfl ?_
      rw [c, if_neg Bool.false_ne_true] at eq1
      refine ⟨_, rfl, ?_⟩
      exact kO n eq1 (hE.more hx (by rw [hn]; intro z; cases z)) hnz hpl H1 hR1 kp1
  · refine FaultKs.is (kE ⟨3, x.place⟩ ?_) (Keep.refl _ _)
    show (takeName (x :: all.drop (k + 1))).bind _ = _
    rw [name_no hno]; rfl
def sp_read_item (T : Top K mg) : Sp := fun vs H Q E => ∃ (r dx D : Addr) (ts : List Addr) (all : Toks) (k : Nat) (A : TA) (x : Tx),
  vs = [.ref r, .ref A.a] ∧ RAt K T.C_Reader H r dx D ts all k ∧ TAt K T.C_Text H A x ∧ Ending (all.drop k) ∧
  (∀ i, takeOld x.ns (all.drop k) = .ok (i, all.drop (k + 1)) → Ending (all.drop (k + 1)) → i < x.ns.length → ∀ (H' : Hp), RAt K T.C_Reader H' r dx D ts all (k + 1) → Keep [r] H H' → Q (.int (i : Int)) H') ∧
  (∀ f, takeOld x.ns (all.drop k) = .error f → FaultKs E T.C_Fault [r] H (f.code : Int) (f.place : Int))
theorem ok_read_item (T : Top K mg) (TF : FaultT K T.C_Fault) : FnOk P w K mg base (L2.CX P w) 4 T.d_read_item.f T.d_read_item.fd P_read_item (sp_read_item T) := by
  refine T.d_read_item.F.okX sc_read_item (fun vs H Q E h => by obtain ⟨_, _, _, _, _, _, _, _, rfl, _⟩ := h; rfl) (fun cdv A outer s H vs Q E hr h => ?_)
  refine ⟨_, (pss_cons (ps_set (i := 2) sc_read_item.nd rfl (Or.inl rfl) (pe_meth0 (pv 0) T.cl_Reader T.m_Reader_here.m (ok_Reader_here T) (hr.mono (by decide)) T.m_Reader_here.b .nil pass0))
    (pss_cons (ps_set (i := 3) sc_read_item.nd rfl (Or.inl rfl) (pe_meth0 (pv 0) T.cl_Reader T.m_Reader_take_name.m (ok_Reader_take_name T TF) (hr.mono (by decide)) T.m_Reader_take_name.b .nil (passes_call (takes_of rfl rfl rfl rfl) (fun _ _ _ _ h => h))))
    (pss_cons (ps_if (pt_cmpR op_notIn_seq (pv 3) (pe_fld (pv 1) rfl) rfl) (pss_one (ps_raise rfl (takes_of rfl rfl rfl rfl) (pmk_eown TF.own TF.iC TF.tI (ok_Fault___init__ T TF) (hr.mono (by decide)) TF.b .nil pass0 rfl T.mg_Fault (pa_cons (pe_glob rfl T.c_NAME_UNKNOWN.choose_spec relI) (pa_cons (pv 2) pa_nil))))) pss_nil)
    (pss_one (ps_ret (pe_bm PySem.F.plainAttrs_list PySem.F.slot_list_index PySem.F.type_list_index mt_index (pe_fld (pv 1) rfl) (pa_cons (pv 3) pa_nil))))))), ?_⟩
  obtain ⟨r, dx, D, ts, all, k, A, z, rfl, hR, hT, hE, kO, kE⟩ := h
  obtain ⟨x, hx, hdr⟩ := hE.head
  rw [hdr] at kO kE
  refine ⟨_, rfl, r, dx, _, rfl, hR.o, rF_no (by decide +kernel) (by decide +kernel) _ _, r, dx, D, ts, all, k, x, rfl, hR, hx, ?_⟩
  refine ⟨_, rfl, r, dx, _, rfl, hR.o, rF_no (by decide +kernel) (by decide +kernel) _ _, r, dx, D, ts, all, k, x, rfl, hR, hx, fun n hn hres hnz hpl H1 hR1 kp1 => ?_, fun hno => ?_⟩
  · have hT1 : TAt K T.C_Text H1 A z := hT.keep kp1 hR.noTup (fun y hy => by rw [List.mem_singleton.mp hy]; exact hR.apart hT)
    have eq1 : takeOld z.ns (x :: all.drop (k + 1)) = match z.ns.findIdx? (fun y => y == n) with
        | none => .error ⟨8, x.place⟩
        | some i => .ok (i, all.drop (k + 1)) := by
      show (takeName (x :: all.drop (k + 1))).bind _ = _
      rw [name_yes hn hres]; rfl
    refine ⟨_, rfl, _, rfl, A.a, _, A.dx, _, _, rfl, hT1.o, T.cl_Text, T.n_Text_names, tF_names _, A.na, _, rfl, .inl (SqL.of hT1.n), rfl, names_flat _, _, rfl, ?_⟩
    rw [if_pos rfl, names_in]
    cases c : z.ns.contains n with
    | false =>
      refine iteT rfl ?_
      have : z.ns.findIdx? (fun y => y == n) = none := by
        rw [List.findIdx?_eq_none_iff]
        intro y hy
        simp only [beq_eq_false_iff_ne, ne_eq]
        rintro rfl
        have : z.ns.contains y = true := by simpa using hy
        rw [c] at this; cases this
      rw [this] at eq1
      refine ⟨_, rfl, raise_fault ?_⟩
      exact FaultKs.is (kE _ eq1) kp1
    | true =>
      refine iteF rfl ?_
      have hm : n ∈ z.ns := by simpa using c
      have hlt : z.ns.findIdx (fun y => y == n) < z.ns.length := List.findIdx_lt_length_of_exists ⟨n, hm, by simp⟩
      have : z.ns.findIdx? (fun y => y == n) = some (z.ns.findIdx (fun y => y == n)) := by
        rw [List.findIdx?_eq_some_iff_findIdx_eq]
        exact ⟨hlt, rfl⟩
      rw [this] at eq1
      have hat := List.findIdx_getElem (w := hlt)
      refine ⟨_, rfl, A.a, _, A.dx, _, _, rfl, hT1.o, T.cl_Text, T.n_Text_names, tF_names _, tyL hT1.n, _, rfl, A.na, z.ns.map (fun n => V.str (bx n)), .str (bx n), z.ns.findIdx (fun y => y == n), .str (bx z.ns[z.ns.findIdx (fun y => y == n)]), rfl, rfl, SqL.of hT1.n, rfl, names_flat _, ?_, ?_, ?_, ?_⟩
      · rw [List.getElem?_map, List.getElem?_eq_getElem hlt]; rfl
      · show (bx _ == bx n) = true
        rw [bx_beq]; exact hat
      · intro m z' hm hz'
        rw [List.getElem?_map, List.getElem?_eq_getElem (by omega)] at hz'
        cases hz'
        show (bx _ == bx n) = false
        rw [bx_beq]
        have := List.not_of_lt_findIdx hm
        simpa using this
      · exact kO _ eq1 (hE.more hx (by rw [hn]; intro z; cases z)) hlt H1 hR1 kp1
  · refine FaultKs.is (kE ⟨3, x.place⟩ ?_) (Keep.refl _ _)
    show (takeName (x :: all.drop (k + 1))).bind _ = _
    rw [name_no hno]; rfl
def sp_begins (T : Top K mg) : Sp := fun vs H Q E => ∃ (r dx D : Addr) (ts : List Addr) (all : Toks) (k : Nat) (x : PTok) (t : BTok) (s : Str) (u : List UInt8) (a b : Int),
  vs = [.ref r, .str s, .int a, .int b] ∧ RAt K T.C_Reader H r dx D ts all k ∧ all[k]? = some x ∧ s = bx u ∧ TokW t u ∧ noNum t = true ∧
  (tokEq x.tok t = false → Q (.bl false) H) ∧
  (tokEq x.tok t = true → a ≠ b → ∀ H', RAt K T.C_Reader H' r dx D ts all (k + 1) → Keep [r] H H' → Q (.bl true) H') ∧
  (tokEq x.tok t = true → a = b → FaultIs E T.C_Fault H 4 (x.place : Int))
theorem ok_begins (T : Top K mg) (TF : FaultT K T.C_Fault) : FnOk P w K mg base (L2.CX P w) 4 T.d_begins.f T.d_begins.fd P_begins (sp_begins T) := by
  refine T.d_begins.F.okX sc_begins (fun vs H Q E h => by obtain ⟨_, _, _, _, _, _, _, _, _, _, _, _, rfl, _⟩ := h; rfl) (fun cdv A outer s H vs Q E hr h => ?_)
  refine ⟨_, (pss_cons (ps_if (pt_cmpR op_ne (pe_meth0 (pv 0) T.cl_Reader T.m_Reader_word.m (ok_Reader_word T) (hr.mono (by decide)) T.m_Reader_word.b .nil pass0) (pv 1) (nomark _)) (pss_one (ps_ret pe_bl)) pss_nil)
    (pss_cons (ps_if (pt_cmpR op_eq (pv 2) (pv 3) (nomark _)) (pss_one (ps_raise rfl (takes_of rfl rfl rfl rfl) (pmk_eown TF.own TF.iC TF.tI (ok_Fault___init__ T TF) (hr.mono (by decide)) TF.b .nil pass0 rfl T.mg_Fault (pa_cons (pe_glob rfl T.c_ONE_TOO_MANY.choose_spec relI) (pa_cons (pe_meth0 (pv 0) T.cl_Reader T.m_Reader_here.m (ok_Reader_here T) (hr.mono (by decide)) T.m_Reader_here.b .nil pass0) pa_nil))))) pss_nil)
    (pss_cons (ps_expr (pe_meth (pv 0) T.cl_Reader T.m_Reader_take.m (ok_Reader_take T TF) (hr.mono (by decide)) T.m_Reader_take.b .nil (passes_call (takes_of rfl rfl rfl rfl) (fun _ _ _ _ h => h)) (pa_cons (pv 1) pa_nil)))
    (pss_one (ps_ret pe_bl))))), ?_⟩
  obtain ⟨r, dx, D, ts, all, k, x, t, z, v, a, b, rfl, hR, hx, rfl, hv, hn, kF, kT, kE⟩ := h
  refine ⟨_, rfl, r, dx, _, rfl, hR.o, rF_no (by decide +kernel) (by decide +kernel) _ _, r, dx, D, ts, all, k, x, rfl, hR, hx, fun u h1 h2 h3 => ?_⟩
  refine ⟨_, rfl, rfl, _, rfl, ?_⟩
  rw [tok_sign rfl hv hn h1]
  cases c : tokEq x.tok t with
  | false =>
    refine iteT rfl ?_
    exact kF c
  | true =>
    refine iteF rfl ?_
    refine ⟨_, rfl, _, rfl, rfl, _, rfl, ?_⟩
    by_cases e : a = b
    · refine iteT (by simp [e]) ?_
      refine ⟨_, rfl, r, dx, _, rfl, hR.o, rF_no (by decide +kernel) (by decide +kernel) _ _, r, dx, D, ts, all, k, x, rfl, hR, hx, raise_fault (kE c e)⟩
    · refine iteF (by simp [e]) ?_
      refine ⟨_, rfl, r, dx, _, rfl, hR.o, rF_no (by decide +kernel) (by decide +kernel) _ _, _, rfl, r, dx, D, ts, all, k, x, t, _, v, rfl, hR, hx, rfl, hv, hn, fun _ H' h1 h2 => kT c e H' h1 h2, fun q => by rw [c] at q; cases q⟩
end
end Shp
end
section
set_option maxRecDepth 100000
set_option maxHeartbeats 4000000
namespace Shp
open PySem PySem.Spec PyProof.Rows L2
open Vapcma (Raw Form rawNames formOf Text_ Axiom Row normal rename vars)
theorem vars_formOf (ns : Nms) : ∀ r : Raw, vars (formOf ns r) = (rawNames r).map (ixOf ns)
  | .var n => rfl
  | .imp a b => by
    show vars (formOf ns a) ++ vars (formOf ns b) = (rawNames a ++ rawNames b).map (ixOf ns)
    rw [vars_formOf ns a, vars_formOf ns b, List.map_append]
  | .neg a => vars_formOf ns a
theorem ixs_range : ∀ l : Nms, (l.reverse.map (ixOf l.reverse.eraseDups)).eraseDups = List.range l.reverse.eraseDups.length
  | [] => rfl
  | n :: l => by
    have ih := ixs_range l
    rw [List.reverse_cons, dupsG_snoc, List.map_append]
    generalize l.reverse = m at *
    show (m.map (ixOf (addN m.eraseDups n)) ++ [ixOf (addN m.eraseDups n) n]).eraseDups = _
    by_cases c : n ∈ m
    · have e : addN m.eraseDups n = m.eraseDups := by unfold addN; rw [if_pos (by simpa using c)]
      rw [e, dups_snoc, if_pos (List.mem_map.mpr ⟨n, c, rfl⟩), ih]
    · have c' : n ∉ m.eraseDups := fun h => c (List.mem_eraseDups.mp h)
      have e : addN m.eraseDups n = m.eraseDups ++ [n] := by unfold addN; rw [if_neg (by simpa using c)]
      have e2 : m.map (ixOf (addN m.eraseDups n)) = m.map (ixOf m.eraseDups) := by
        refine List.map_congr_left fun y hy => ?_
        rw [e, ix_app (List.mem_eraseDups.mpr hy)]
      have e3 : ixOf (addN m.eraseDups n) n = m.eraseDups.length := by
        have := @ix_add m.eraseDups [] n
        rw [List.append_nil] at this
        rw [this, ix_new c']
      have nin : m.eraseDups.length ∉ m.map (ixOf m.eraseDups) := by
        intro h
        obtain ⟨y, hy, hy2⟩ := List.mem_map.mp h
        have : ixOf m.eraseDups y < m.eraseDups.length := List.findIdx_lt_length_of_exists ⟨y, List.mem_eraseDups.mpr hy, by simp⟩
        omega
      rw [e2, e3, dups_snoc, if_neg nin, ih, e, List.length_append, List.length_singleton, List.range_succ]
theorem find_range {m v : Nat} (h : v < m) : (List.range m).findIdx (fun x => x == v) = v := by
  rw [List.findIdx_eq (by simpa using h)]
  refine ⟨by simp, fun j hj => ?_⟩
  simp; omega
theorem rename_fix {g : Nat → Nat} : ∀ {f : Form}, (∀ v ∈ vars f, g v = v) → rename g f = f
  | .var v, h => by show Form.var (g v) = _; rw [h v (by simp [vars])]
  | .imp a b, h => by
    show Form.imp (rename g a) (rename g b) = _
    rw [rename_fix (fun v hv => h v (by simp [vars, hv])), rename_fix (fun v hv => h v (by simp [vars, hv]))]
  | .neg a, h => by show Form.neg (rename g a) = _; rw [rename_fix (fun v hv => h v (by simpa [vars] using hv))]
theorem AsRead.normal {f : Form} (h : AsRead f) : Vapcma.normal f = f := by
  obtain ⟨r, rfl⟩ := h
  show rename (fun v => (vars (formOf (rawNames r).eraseDups r)).eraseDups.findIdx fun x => x == v) _ = _
  refine rename_fix fun v hv => ?_
  rw [vars_formOf] at hv ⊢
  have e := ixs_range (rawNames r).reverse
  rw [List.reverse_reverse] at e
  rw [e]
  obtain ⟨y, hy, rfl⟩ := List.mem_map.mp hv
  exact find_range (List.findIdx_lt_length_of_exists ⟨y, List.mem_eraseDups.mpr hy, by simp⟩)
/-- a text as its lists -/
def txOf (t : Text_) : Tx := ⟨t.axioms.map (fun a => a.name) ++ t.rows.map (fun r => r.name), t.axioms.map (fun _ => none) ++ t.rows.map (fun r => some (r.i, r.j)), Vapcma.formulas t, t.goals⟩
theorem tx_ns (t : Text_) : (txOf t).ns.length = t.axioms.length + t.rows.length := by simp [txOf]
theorem tx_ss (t : Text_) : (txOf t).ss.length = t.axioms.length + t.rows.length := by simp [txOf]
theorem noSrc_app (a b : List Src) : noSrc (a ++ b) = noSrc a + noSrc b := List.countP_append
theorem tx_no (t : Text_) : noSrc (txOf t).ss = t.axioms.length := by
  have h1 : ∀ l : List Axiom, noSrc (l.map fun _ => none) = l.length := fun l => by
    induction l with
    | nil => rfl
    | cons x r ih => rw [List.map_cons]; show noSrc ([none] ++ _) = _; rw [noSrc_app, ih, List.length_cons]; show 1 + _ = _; omega
  have h2 : ∀ l : List Vapcma.Row, noSrc (l.map fun r => some (r.i, r.j)) = 0 := fun l => by
    induction l with
    | nil => rfl
    | cons x r ih => rw [List.map_cons]; show noSrc ([some (x.i, x.j)] ++ _) = _; rw [noSrc_app, ih]; rfl
  show noSrc (t.axioms.map _ ++ t.rows.map _) = _
  rw [noSrc_app, h1, h2]; rfl
theorem fo_rows : ∀ (rs : List Vapcma.Row) (l : List (Option Form)), (rs.foldl Vapcma.addRow l).length = l.length + rs.length
  | [], l => rfl
  | r :: rs, l => by
    rw [List.foldl_cons, fo_rows rs]
    unfold Vapcma.addRow
    rw [List.length_append, List.length_singleton, List.length_cons]; omega
theorem tx_fs (t : Text_) : (txOf t).fs.length = t.axioms.length + t.rows.length := by
  show (Vapcma.formulas t).length = _
  unfold Vapcma.formulas
  rw [fo_rows, List.length_map]
theorem fo_ax (as_ : List Axiom) (a : Axiom) (gs : List Form) (h : AsRead a.f) : Vapcma.formulas ⟨as_ ++ [a], [], gs⟩ = Vapcma.formulas ⟨as_, [], gs⟩ ++ [some a.f] := by
  show ((as_ ++ [a]).map fun a => some (normal a.f)) = (as_.map fun a => some (normal a.f)) ++ [some a.f]
  rw [List.map_append, List.map_singleton, h.normal]
theorem fo_row (as_ : List Axiom) (rs : List Vapcma.Row) (r : Vapcma.Row) (gs : List Form) : Vapcma.formulas ⟨as_, rs ++ [r], gs⟩ = Vapcma.formulas ⟨as_, rs, gs⟩ ++ [detF (((Vapcma.formulas ⟨as_, rs, gs⟩)[r.i]?).getD none) (((Vapcma.formulas ⟨as_, rs, gs⟩)[r.j]?).getD none)] := by
  show (rs ++ [r]).foldl Vapcma.addRow _ = _
  rw [List.foldl_append]; rfl
structure TOk (t : Text_) : Prop where
  na : t.axioms.length ≤ 6
  nr : t.rows.length ≤ 24
  ng : t.goals.length ≤ 4
  ax : ∀ a ∈ t.axioms, Vapcma.size a.f ≤ 40 ∧ AsRead a.f ∧ a.name.length ≤ 16 ∧ PlainB a.name
  rw : ∀ n r, t.rows[n]? = some r → r.i < t.axioms.length + n ∧ r.j < t.axioms.length + n ∧ r.name.length ≤ 16 ∧ PlainB r.name
  gl : ∀ g ∈ t.goals, Vapcma.size g ≤ 40 ∧ AsRead g
theorem size_ren (g : Nat → Nat) : ∀ f : Form, Vapcma.size (rename g f) = Vapcma.size f
  | .var v => rfl
  | .imp a b => by show Vapcma.size (rename g a) + Vapcma.size (rename g b) + 1 = _; rw [size_ren g a, size_ren g b]; rfl
  | .neg a => by show Vapcma.size (rename g a) + 1 = _; rw [size_ren g a]; rfl
theorem det_size {f g h : Form} (e : Vapcma.detach f g = some h) : Vapcma.size h ≤ 60 := by
  unfold Vapcma.detach at e
  cases f with
  | var v => cases e; decide
  | neg a => cases e
  | imp a b =>
    simp only [Option.bind_eq_some_iff] at e
    obtain ⟨r, _, e⟩ := e
    by_cases c : Vapcma.SIZE < Vapcma.size r
    · rw [if_pos c] at e; cases e
    · rw [if_neg c] at e; cases e
      show Vapcma.size (rename _ r) ≤ 60
      rw [size_ren]
      exact Nat.le_of_not_lt c
theorem detF_size {f g : Option Form} {h : Form} (e : detF f g = some h) : Vapcma.size h ≤ 60 := by
  unfold detF at e
  simp only [Option.bind_eq_some_iff] at e
  obtain ⟨a, _, b, _, e⟩ := e
  exact det_size e
theorem fos_rows : ∀ (rs : List Vapcma.Row) (l : List (Option Form)), (∀ f ∈ l, ∀ z, f = some z → Vapcma.size z ≤ 60) → ∀ f ∈ rs.foldl Vapcma.addRow l, ∀ z, f = some z → Vapcma.size z ≤ 60
  | [], l, h => h
  | r :: rs, l, h => by
    rw [List.foldl_cons]
    refine fos_rows rs _ fun f hf z hz => ?_
    unfold Vapcma.addRow at hf
    rcases List.mem_append.mp hf with hf | hf
    · exact h f hf z hz
    · rw [List.mem_singleton] at hf
      rw [hf] at hz
      exact detF_size hz
theorem TOk.sizes {t : Text_} (h : TOk t) : ∀ f ∈ Vapcma.formulas t, ∀ z, f = some z → Vapcma.size z ≤ 60 := by
  refine fos_rows _ _ fun f hf z hz => ?_
  obtain ⟨a, ha, rfl⟩ := List.mem_map.mp hf
  cases hz
  have := h.ax a ha
  rw [this.2.1.normal]; omega
end Shp
end
section
set_option maxRecDepth 100000
set_option maxHeartbeats 4000000
namespace Shp
open PySem PySem.Spec PyProof.Rows L2
open VapcmBase (PTok Toks tokEq RESERVED next here wrong takeName takeSign word nextWord)
open Vapcma (takePart takeForm Raw Form rawNames formOf takeFormula newName takeOld takeAxioms takeRows takeGoals Axiom Text_)
section
variable {P : Program} {w : World} {K : PySem.W.Frag} {mg : Str → Option Value} {base : Heap}
/-- the reader and the text -/
structure Rd2 (K : PySem.W.Frag) (CR CT : Addr) (H : Hp) (r dx D : Addr) (ts : List Addr) (all : Toks) (k : Nat) (A : TA) (x : Tx) : Prop where
  R : RAt K CR H r dx D ts all k
  T : TAt K CT H A x
  nD : D ∉ A.all
  hz : all.length ≤ 5000
  E : Ending (all.drop k)
theorem Rd2.step {CR CT : Addr} {H H' : Hp} {r dx D : Addr} {ts : List Addr} {all : Toks} {k j : Nat} {A : TA} {x : Tx} (h : Rd2 K CR CT H r dx D ts all k A x) (R : RAt K CR H' r dx D ts all j) (kp : Keep [r] H H') (E : Ending (all.drop j)) : Rd2 K CR CT H' r dx D ts all j A x :=
  ⟨R, h.T.keep kp h.R.noTup (fun y hy => by rw [List.mem_singleton.mp hy]; exact h.R.apart h.T), h.nD, h.hz, E⟩
theorem Rd2.add {CR CT : Addr} {H H' : Hp} {r dx D : Addr} {ts : List Addr} {all : Toks} {k : Nat} {A : TA} {x x' : Tx} (h : Rd2 K CR CT H r dx D ts all k A x) (T : TAt K CT H' A x') (kp : Keep A.lists H H') : Rd2 K CR CT H' r dx D ts all k A x' :=
  ⟨h.R.keep kp (h.T.noTup.sub (by simp)) (fun m => h.R.apart h.T (by simp at m ⊢; exact .inr m)) (fun m => h.nD (by simp at m ⊢; exact .inr m)), T, h.nD, h.hz, h.E⟩
theorem Rd2.same {CR CT : Addr} {H H' : Hp} {r dx D : Addr} {ts : List Addr} {all : Toks} {k : Nat} {A : TA} {x : Tx} (h : Rd2 K CR CT H r dx D ts all k A x) (s : Same H H') : Rd2 K CR CT H' r dx D ts all k A x :=
  ⟨h.R.same s, h.T.same s, h.nD, h.hz, h.E⟩
theorem wAx : TokW (.name (word "axiom")) (word "axiom") := ⟨rfl, 97, _, rfl, by decide, by decide⟩
theorem wRow : TokW (.name (word "row")) (word "row") := ⟨rfl, 114, _, rfl, by decide, by decide⟩
theorem wGoal : TokW (.name (word "goal")) (word "goal") := ⟨rfl, 103, _, rfl, by decide, by decide⟩
theorem sAx : Str.ofString "axiom" = bx (word "axiom") := by decide +kernel
theorem sRow : Str.ofString "row" = bx (word "row") := by decide +kernel
theorem sGoal : Str.ofString "goal" = bx (word "goal") := by decide +kernel
theorem ta_eq (n : Nat) (as_ : List Axiom) (l : Toks) : takeAxioms (n + 1) as_ l = if nextWord "axiom" l = true then (if 6 ≤ as_.length then .error ⟨4, here l⟩ else (newName (as_.map fun a => a.name) (l.drop 1)).bind fun x => (takeSign 58 x.2).bind fun r => (takeFormula r).bind fun f => takeAxioms n (as_ ++ [⟨x.1, f.1⟩]) f.2) else if as_.isEmpty = true then wrong l else .ok (as_, l) := by rw [takeAxioms]; rfl
def sp_read_axioms (T : Top K mg) : Sp := fun vs H Q E => ∃ (r dx D : Addr) (ts : List Addr) (all : Toks) (k : Nat) (A : TA) (x : PTok),
  vs = [.ref r, .ref A.a] ∧ Rd2 K T.C_Reader T.C_Text H r dx D ts all k A (txOf ⟨[], [], []⟩) ∧ all[k]? = some x ∧ tokEq x.tok (.name (word "axiom")) = true ∧
  (∀ as_ j, takeAxioms ((all.drop k).length + 1) [] (all.drop k) = .ok (as_, all.drop j) → TOk ⟨as_, [], []⟩ → ∀ H', Rd2 K T.C_Reader T.C_Text H' r dx D ts all j A (txOf ⟨as_, [], []⟩) → Keep (r :: A.lists) H H' → Q .non H') ∧
  (∀ f, takeAxioms ((all.drop k).length + 1) [] (all.drop k) = .error f → FaultKs E T.C_Fault (r :: A.lists) H (f.code : Int) (f.place : Int))
theorem tok_none : TOk ⟨[], [], []⟩ := ⟨by simp, by simp, by simp, by simp, by simp, by simp⟩
theorem ok_read_axioms (T : Top K mg) (TF : FaultT K T.C_Fault) : FnOk P w K mg base (L2.CX P w) 89 T.d_read_axioms.f T.d_read_axioms.fd P_read_axioms (sp_read_axioms T) := by
  refine T.d_read_axioms.F.okX sc_read_axioms (fun vs H Q E h => by obtain ⟨_, _, _, _, _, _, _, _, rfl, _⟩ := h; rfl) (fun cdv A outer s H vs Q E hr h => ?_)
  refine ⟨_, (pss_one (ps_while (passes_of rfl) (pt_val (pe_call (ok_begins T TF) (hr.mono (by decide)) rfl T.d_begins.mg T.d_begins.F.kp T.d_begins.b .nil (passes_call (takes_of rfl rfl rfl rfl) (fun _ _ _ _ h => h)) (pa_cons (pv 0) (pa_cons pe_str (pa_cons (pe_meth0 (pv 1) T.cl_Text T.m_Text_axiom_count.m (ok_Text_axiom_count T) (hr.mono (by decide)) T.m_Text_axiom_count.b .nil pass0) (pa_cons (pe_glob rfl T.c_MOST_AXIOMS.choose_spec relI) pa_nil)))))) (pss_cons (ps_set (i := 2) sc_read_axioms.nd rfl (Or.inl rfl) (pe_call (ok_read_new_name T TF) (hr.mono (by decide)) rfl T.d_read_new_name.mg T.d_read_new_name.F.kp T.d_read_new_name.b .nil (passes_call (takes_of rfl rfl rfl rfl) (fun _ _ _ _ h => h)) (pa_cons (pv 0) (pa_cons (pv 1) pa_nil))))
      (pss_cons (ps_expr (pe_meth (pv 0) T.cl_Reader T.m_Reader_take.m (ok_Reader_take T TF) (hr.mono (by decide)) T.m_Reader_take.b .nil (passes_call (takes_of rfl rfl rfl rfl) (fun _ _ _ _ h => h)) (pa_cons pe_str pa_nil)))
      (pss_one (ps_expr (pe_meth (pv 1) T.cl_Text T.m_Text_add_item.m (ok_Text_add_item T) (hr.mono (by decide)) T.m_Text_add_item.b .nil pass0 (pa_cons (pv 2) (pa_cons pe_non (pa_cons (pe_call (ok_read_formula T TF) (hr.mono (by decide)) rfl T.d_read_formula.mg T.d_read_formula.F.kp T.d_read_formula.b .nil (passes_call (takes_of rfl rfl rfl rfl) (fun _ _ _ _ h => h)) (pa_cons (pv 0) pa_nil)) pa_nil)))))))))), ?_⟩
  obtain ⟨r, dx, D, ts, all, k, A, x0, rfl, hD, hx0, hax, kO, kE⟩ := h
  generalize hR0 : takeAxioms ((all.drop k).length + 1) [] (all.drop k) = R0 at kO kE
  refine ⟨fun m σ H' => ∃ (j f : Nat) (as_ : List Axiom) (v2 : Option V), m = all.length - j ∧ σ = [some (.ref r), some (.ref A.a), v2] ∧ Rd2 K T.C_Reader T.C_Text H' r dx D ts all j A (txOf ⟨as_, [], []⟩) ∧ TOk ⟨as_, [], []⟩ ∧ Keep (r :: A.lists) H H' ∧
    R0 = takeAxioms f as_ (all.drop j) ∧ all.length - j + 1 ≤ f ∧ (as_ = [] → ∀ x, all[j]? = some x → tokEq x.tok (.name (word "axiom")) = true),
    ⟨_, k, _, [], none, rfl, rfl, hD, tok_none, Keep.refl _ _, hR0.symm, by rw [List.length_drop]; exact Nat.le_refl _, fun _ x hx => by rw [hx0] at hx; cases hx; exact hax⟩, ?_⟩
  rintro m σ H' ⟨j, f, as_, v2, rfl, rfl, hS, hok, kp, heq, hf, hem⟩
  obtain ⟨x, hx, hdx⟩ := hS.E.head
  have hj : j < all.length := (List.getElem?_eq_some_iff.mp hx).1
  obtain ⟨f, rfl⟩ : ∃ f', f = f' + 1 := ⟨f - 1, by omega⟩
  rw [hdx, ta_eq] at heq
  have hcnt : (noSrc (txOf ⟨as_, [], []⟩).ss : Int) = (as_.length : Int) := by rw [tx_no]
  refine ⟨_, rfl, _, rfl, A.a, A.dx, _, rfl, hS.T.o, tF_no (by decide +kernel) (by decide +kernel) (by decide +kernel) (by decide +kernel) _, A, _, rfl, hS.T, r, dx, D, ts, all, j, x, .name (word "axiom"), _, _, _, _, rfl, hS.R, hx, sAx, wAx, rfl, fun c => ?_, fun c hne H1 hR1 kp1 => ?_, fun c he => ?_⟩
  · refine ⟨_, rfl, iteF rfl ?_⟩
    have nx : ¬ nextWord "axiom" (x :: all.drop (j + 1)) = true := by show ¬ tokEq x.tok _ = true; rw [c]; exact Bool.false_ne_true
    have ne : ¬ as_.isEmpty = true := fun h => by
      have := hem (by simpa using h) x hx
      rw [c] at this; cases this
    rw [if_neg nx, if_neg ne, ← hdx] at heq
    exact kO as_ j heq hok H' hS kp
  · refine ⟨_, rfl, iteT rfl ?_⟩
    refine ⟨_, fun _ _ h => h, ?_⟩
    have nx : nextWord "axiom" (x :: all.drop (j + 1)) = true := c
    have hlt : ¬ 6 ≤ as_.length := fun h => hne (by have := hok.na; rw [hcnt]; show (as_.length : Int) = 6; simp at this; omega)
    rw [if_pos nx, if_neg hlt] at heq
    simp only [List.drop_succ_cons, List.drop_zero] at heq
    have hE1 := hS.E.more hx (tokEq_last c (by intro z; cases z))
    have hS1 := hS.step hR1 kp1 hE1
    have sub1 : ∀ y ∈ [r], y ∈ r :: A.lists := by simp
    have kpa := kp.trans (kp1.mono sub1)
    have ens : (txOf ⟨as_, [], []⟩).ns = as_.map fun a => a.name := by simp [txOf]
    refine ⟨_, rfl, _, rfl, r, dx, D, ts, all, j + 1, A, _, rfl, hR1, hS1.T, hE1, fun n hn hE2 hnz hpl H2 hR2 kp2 => ?_, fun ft hft => ?_⟩
    · rw [ens] at hn
      rw [hn] at heq
      have hS2 := hS1.step hR2 kp2 hE2
      have kpb := kpa.trans (kp2.mono sub1)
      obtain ⟨y, hy, hdy⟩ := hE2.head
      have heq2 : R0 = (takeSign 58 (y :: all.drop (j + 1 + 1 + 1))).bind fun r => (takeFormula r).bind fun f_1 => takeAxioms f (as_ ++ [⟨n, f_1.1⟩]) f_1.2 := by rw [heq, ← hdy]; rfl
      refine ⟨_, rfl, r, dx, _, rfl, hR2.o, rF_no (by decide +kernel) (by decide +kernel) _ _, r, dx, D, ts, all, j + 1 + 1, y, .sign 58, _, _, rfl, hR2, hy, s58, w58, rfl, fun c3 H3 hR3 kp3 => ?_, fun c3 => ?_⟩
      · rw [sign_yes c3] at heq2
        have hE3 := hE2.more hy (tokEq_last c3 (by intro z; cases z))
        have hS3 := hS2.step hR3 kp3 hE3
        have kpc := kpb.trans (kp3.mono sub1)
        have heq3 : R0 = (takeFormula (all.drop (j + 1 + 1 + 1))).bind fun f_1 => takeAxioms f (as_ ++ [⟨n, f_1.1⟩]) f_1.2 := heq2
        refine ⟨_, rfl, A.a, A.dx, _, rfl, hS3.T.o, tF_no (by decide +kernel) (by decide +kernel) (by decide +kernel) (by decide +kernel) _, _, rfl, _, rfl, r, dx, D, ts, all, j + 1 + 1 + 1, rfl, hR3, hS.hz, hE3, fun fm j4 hfm hj4 hE4 hz4 har p H4 hR4 hp4 kp4 => ?_, fun ft hft => ?_⟩
        · have hS4 := hS3.step hR4 kp4 hE4
          have kpd := kpc.trans (kp4.mono sub1)
          rw [hfm] at heq3
          have hfl := tx_fs ⟨as_, [], []⟩
          have hsl := tx_ss ⟨as_, [], []⟩
          have hnl := tx_ns ⟨as_, [], []⟩
          have hna : as_.length ≤ 6 := hok.na
          simp only [List.length_nil, Nat.add_zero] at hfl hsl hnl
          refine ⟨A, _, n, .non, .ref p, none, some fm, rfl, hS4.T, rfl, ⟨p, rfl, hp4⟩, by omega, by omega, by omega, fun H5 hT5 kp5 => ?_⟩
          have ex : (⟨(txOf ⟨as_, [], []⟩).ns ++ [n], (txOf ⟨as_, [], []⟩).ss ++ [none], (txOf ⟨as_, [], []⟩).fs ++ [some fm], (txOf ⟨as_, [], []⟩).gs⟩ : Tx) = txOf ⟨as_ ++ [⟨n, fm⟩], [], []⟩ := by
            have := fo_ax as_ ⟨n, fm⟩ [] har
            show (⟨_, _, Vapcma.formulas ⟨as_, [], []⟩ ++ [some fm], _⟩ : Tx) = ⟨_, _, Vapcma.formulas ⟨as_ ++ [⟨n, fm⟩], [], []⟩, _⟩
            rw [this]
            simp [txOf]
          rw [ex] at hT5
          have hS5 := hS4.add hT5 kp5
          obtain ⟨z4, hz4', _⟩ := hE4.head
          have heq4 : R0 = takeAxioms f (as_ ++ [(⟨n, fm⟩ : Axiom)]) (all.drop j4) := heq3
          have hj4l := (List.getElem?_eq_some_iff.mp hz4').1
          refine ⟨_, by omega, j4, f, as_ ++ [(⟨n, fm⟩ : Axiom)], _, rfl, rfl, hS5, ⟨by simp; omega, by simp, by simp, ?_, by simp, by simp⟩, kpd.trans (kp5.mono (fun y hy => List.mem_cons_of_mem _ hy)), heq4, by omega, fun h => by simp at h⟩
          intro a ha
          rcases List.mem_append.mp ha with ha | ha
          · exact hok.ax a ha
          · rw [List.mem_singleton] at ha
            subst ha
            exact ⟨hz4, har, hnz, hpl⟩
        · exact (kE ft (by rw [heq3, hft]; rfl)).keep kpc sub1
      · rw [sign_no c3] at heq2
        exact FaultKs.is (kE ⟨3, y.place⟩ heq2) kpb
    · rw [ens] at hft
      exact (kE ft (by rw [heq, hft]; rfl)).keep kpa sub1
  · refine FaultKs.is (kE ⟨4, x.place⟩ ?_) kp
    have nx : nextWord "axiom" (x :: all.drop (j + 1)) = true := c
    rw [hcnt] at he
    have : (6 : Nat) ≤ as_.length := by
      have h2 : (as_.length : Int) = 6 := he
      omega
    rw [heq, if_pos nx, if_pos this]; rfl
end
end Shp
end
section
set_option maxRecDepth 100000
set_option maxHeartbeats 4000000
namespace Shp
open PySem PySem.Spec PyProof.Rows L2
open VapcmBase (PTok Toks tokEq RESERVED next here wrong takeName takeSign word nextWord)
open Vapcma (takePart takeForm Raw Form rawNames formOf takeFormula newName takeOld takeAxioms takeRows takeGoals Axiom Text_)
section
variable {P : Program} {w : World} {K : PySem.W.Frag} {mg : Str → Option Value} {base : Heap}
theorem tr_eq (ns : Nms) (n : Nat) (rs : List Vapcma.Row) (l : Toks) : takeRows ns (n + 1) rs l = if nextWord "row" l = true then (if 24 ≤ rs.length then .error ⟨4, here l⟩ else
      (newName (ns ++ rs.map fun r => r.name) (l.drop 1)).bind fun x => (takeSign 58 x.2).bind fun r => (takeOld (ns ++ rs.map fun r => r.name) r).bind fun i => (takeSign 44 i.2).bind fun r => (takeOld (ns ++ rs.map fun r => r.name) r).bind fun j => (takeSign 59 j.2).bind fun m => takeRows ns n (rs ++ [⟨x.1, i.1, j.1⟩]) m) else .ok (rs, l) := by rw [takeRows]; rfl
def sp_read_rows (T : Top K mg) : Sp := fun vs H Q E => ∃ (r dx D : Addr) (ts : List Addr) (all : Toks) (k : Nat) (A : TA) (as_ : List Axiom),
  vs = [.ref r, .ref A.a] ∧ Rd2 K T.C_Reader T.C_Text H r dx D ts all k A (txOf ⟨as_, [], []⟩) ∧ TOk ⟨as_, [], []⟩ ∧
  (∀ rs j, takeRows (as_.map fun a => a.name) ((all.drop k).length + 1) [] (all.drop k) = .ok (rs, all.drop j) → TOk ⟨as_, rs, []⟩ → ∀ H', Rd2 K T.C_Reader T.C_Text H' r dx D ts all j A (txOf ⟨as_, rs, []⟩) → Keep (r :: A.lists) H H' → Q .non H') ∧
  (∀ f, takeRows (as_.map fun a => a.name) ((all.drop k).length + 1) [] (all.drop k) = .error f → FaultKs E T.C_Fault (r :: A.lists) H (f.code : Int) (f.place : Int))
theorem tx_row (as_ : List Axiom) (rs : List Vapcma.Row) (r : Vapcma.Row) (gs : List Form) {f g : Option Form} (hf : (Vapcma.formulas ⟨as_, rs, gs⟩)[r.i]? = some f) (hg : (Vapcma.formulas ⟨as_, rs, gs⟩)[r.j]? = some g) :
    (⟨(txOf ⟨as_, rs, gs⟩).ns ++ [r.name], (txOf ⟨as_, rs, gs⟩).ss ++ [some (r.i, r.j)], (txOf ⟨as_, rs, gs⟩).fs ++ [detF f g], (txOf ⟨as_, rs, gs⟩).gs⟩ : Tx) = txOf ⟨as_, rs ++ [r], gs⟩ := by
  have := fo_row as_ rs r gs
  rw [hf, hg] at this
  show (⟨_, _, Vapcma.formulas ⟨as_, rs, gs⟩ ++ [detF f g], _⟩ : Tx) = ⟨_, _, Vapcma.formulas ⟨as_, rs ++ [r], gs⟩, _⟩
  rw [this]
  simp [txOf]
theorem tok_row {as_ : List Axiom} {rs : List Vapcma.Row} {gs : List Form} {n : List UInt8} {i j : Nat} (h : TOk ⟨as_, rs, gs⟩) (z : rs.length < 24) (hi : i < as_.length + rs.length) (hj : j < as_.length + rs.length) (hn : n.length ≤ 16) (hp : PlainB n) : TOk ⟨as_, rs ++ [⟨n, i, j⟩], gs⟩ := by
  refine ⟨h.na, by simp; omega, h.ng, h.ax, ?_, h.gl⟩
  intro m r hr
  by_cases c : m < rs.length
  · exact h.rw m r (by simpa [List.getElem?_append_left c] using hr)
  · have hm : m < (rs ++ [(⟨n, i, j⟩ : Vapcma.Row)]).length := (List.getElem?_eq_some_iff.mp hr).1
    rw [List.length_append, List.length_singleton] at hm
    obtain rfl : m = rs.length := by omega
    simp at hr
    subst hr
    exact ⟨hi, hj, hn, hp⟩
theorem ok_read_rows (T : Top K mg) (TF : FaultT K T.C_Fault) : FnOk P w K mg base (L2.CX P w) 7 T.d_read_rows.f T.d_read_rows.fd P_read_rows (sp_read_rows T) := by
  refine T.d_read_rows.F.okX sc_read_rows (fun vs H Q E h => by obtain ⟨_, _, _, _, _, _, _, _, rfl, _⟩ := h; rfl) (fun cdv A outer s H vs Q E hr h => ?_)
  refine ⟨_, (pss_one (ps_while (passes_of rfl) (pt_val (pe_call (ok_begins T TF) (hr.mono (by decide)) rfl T.d_begins.mg T.d_begins.F.kp T.d_begins.b .nil (passes_call (takes_of rfl rfl rfl rfl) (fun _ _ _ _ h => h)) (pa_cons (pv 0) (pa_cons pe_str (pa_cons (pe_meth0 (pv 1) T.cl_Text T.m_Text_row_count.m (ok_Text_row_count T) (hr.mono (by decide)) T.m_Text_row_count.b .nil pass0) (pa_cons (pe_glob rfl T.c_MOST_ROWS.choose_spec relI) pa_nil)))))) (pss_cons (ps_set (i := 2) sc_read_rows.nd rfl (Or.inl rfl) (pe_call (ok_read_new_name T TF) (hr.mono (by decide)) rfl T.d_read_new_name.mg T.d_read_new_name.F.kp T.d_read_new_name.b .nil (passes_call (takes_of rfl rfl rfl rfl) (fun _ _ _ _ h => h)) (pa_cons (pv 0) (pa_cons (pv 1) pa_nil))))
      (pss_cons (ps_expr (pe_meth (pv 0) T.cl_Reader T.m_Reader_take.m (ok_Reader_take T TF) (hr.mono (by decide)) T.m_Reader_take.b .nil (passes_call (takes_of rfl rfl rfl rfl) (fun _ _ _ _ h => h)) (pa_cons pe_str pa_nil)))
      (pss_cons (ps_set (i := 3) sc_read_rows.nd rfl (Or.inl rfl) (pe_call (ok_read_item T TF) (hr.mono (by decide)) rfl T.d_read_item.mg T.d_read_item.F.kp T.d_read_item.b .nil (passes_call (takes_of rfl rfl rfl rfl) (fun _ _ _ _ h => h)) (pa_cons (pv 0) (pa_cons (pv 1) pa_nil))))
      (pss_cons (ps_expr (pe_meth (pv 0) T.cl_Reader T.m_Reader_take.m (ok_Reader_take T TF) (hr.mono (by decide)) T.m_Reader_take.b .nil (passes_call (takes_of rfl rfl rfl rfl) (fun _ _ _ _ h => h)) (pa_cons pe_str pa_nil)))
      (pss_cons (ps_set (i := 4) sc_read_rows.nd rfl (Or.inl rfl) (pe_tup (pa_cons (pv 3) (pa_cons (pe_call (ok_read_item T TF) (hr.mono (by decide)) rfl T.d_read_item.mg T.d_read_item.F.kp T.d_read_item.b .nil (passes_call (takes_of rfl rfl rfl rfl) (fun _ _ _ _ h => h)) (pa_cons (pv 0) (pa_cons (pv 1) pa_nil))) pa_nil))))
      (pss_cons (ps_expr (pe_meth (pv 0) T.cl_Reader T.m_Reader_take.m (ok_Reader_take T TF) (hr.mono (by decide)) T.m_Reader_take.b .nil (passes_call (takes_of rfl rfl rfl rfl) (fun _ _ _ _ h => h)) (pa_cons pe_str pa_nil)))
      (pss_one (ps_expr (pe_meth (pv 1) T.cl_Text T.m_Text_add_item.m (ok_Text_add_item T) (hr.mono (by decide)) T.m_Text_add_item.b .nil pass0 (pa_cons (pv 2) (pa_cons (pv 4) (pa_cons (pe_meth (pv 1) T.cl_Text T.m_Text_detached_from.m (ok_Text_detached_from T) (hr.mono (by decide)) T.m_Text_detached_from.b .nil pass0 (pa_cons (pv 4) pa_nil)) pa_nil)))))))))))))), ?_⟩
  obtain ⟨r, dx, D, ts, all, k, A, as_, rfl, hD, hok0, kO, kE⟩ := h
  generalize hR0 : takeRows (as_.map fun a => a.name) ((all.drop k).length + 1) [] (all.drop k) = R0 at kO kE
  refine ⟨fun m σ H' => ∃ (j f : Nat) (rs : List Vapcma.Row) (v2 v3 v4 : Option V), m = all.length - j ∧ σ = [some (.ref r), some (.ref A.a), v2, v3, v4] ∧ Rd2 K T.C_Reader T.C_Text H' r dx D ts all j A (txOf ⟨as_, rs, []⟩) ∧ TOk ⟨as_, rs, []⟩ ∧ Keep (r :: A.lists) H H' ∧
    R0 = takeRows (as_.map fun a => a.name) f rs (all.drop j) ∧ all.length - j + 1 ≤ f,
    ⟨_, k, _, [], none, none, none, rfl, rfl, hD, hok0, Keep.refl _ _, hR0.symm, by rw [List.length_drop]; exact Nat.le_refl _⟩, ?_⟩
  rintro m σ H' ⟨j, f, rs, v2, v3, v4, rfl, rfl, hS, hok, kp, heq, hf⟩
  obtain ⟨x, hx, hdx⟩ := hS.E.head
  have hj : j < all.length := (List.getElem?_eq_some_iff.mp hx).1
  obtain ⟨f, rfl⟩ : ∃ f', f = f' + 1 := ⟨f - 1, by omega⟩
  rw [hdx, tr_eq] at heq
  have hcnt : (((txOf ⟨as_, rs, []⟩).ss.length : Nat) : Int) - (noSrc (txOf ⟨as_, rs, []⟩).ss : Int) = (rs.length : Int) := by rw [tx_no, tx_ss]; show ((as_.length + rs.length : Nat) : Int) - (as_.length : Int) = _; omega
  refine ⟨_, rfl, _, rfl, A.a, A.dx, _, rfl, hS.T.o, tF_no (by decide +kernel) (by decide +kernel) (by decide +kernel) (by decide +kernel) _, A, _, rfl, hS.T, r, dx, D, ts, all, j, x, .name (word "row"), _, _, _, _, rfl, hS.R, hx, sRow, wRow, rfl, fun c => ?_, fun c hne H1 hR1 kp1 => ?_, fun c he => ?_⟩
  · refine ⟨_, rfl, iteF rfl ?_⟩
    have nx : ¬ nextWord "row" (x :: all.drop (j + 1)) = true := by show ¬ tokEq x.tok _ = true; rw [c]; exact Bool.false_ne_true
    rw [if_neg nx, ← hdx] at heq
    exact kO rs j heq hok H' hS kp
  · refine ⟨_, rfl, iteT rfl ?_⟩
    refine ⟨_, fun _ _ h => h, ?_⟩
    have nx : nextWord "row" (x :: all.drop (j + 1)) = true := c
    rw [hcnt] at hne
    have hnr : rs.length ≤ 24 := hok.nr
    have hna : as_.length ≤ 6 := hok.na
    have hlt : rs.length < 24 := by
      have : (rs.length : Int) ≠ 24 := hne
      omega
    rw [if_pos nx, if_neg (by omega)] at heq
    simp only [List.drop_succ_cons, List.drop_zero] at heq
    have hE1 := hS.E.more hx (tokEq_last c (by intro z; cases z))
    have hS1 := hS.step hR1 kp1 hE1
    have sub1 : ∀ y ∈ [r], y ∈ r :: A.lists := by simp
    have kpa := kp.trans (kp1.mono sub1)
    have ens : (txOf ⟨as_, rs, []⟩).ns = (as_.map fun a => a.name) ++ rs.map fun r => r.name := rfl
    have hfl := tx_fs ⟨as_, rs, []⟩
    have hsl := tx_ss ⟨as_, rs, []⟩
    have hnl := tx_ns ⟨as_, rs, []⟩
    simp only at hfl hsl hnl
    refine ⟨_, rfl, _, rfl, r, dx, D, ts, all, j + 1, A, _, rfl, hR1, hS1.T, hE1, fun n hn hE2 hnz hpl H2 hR2 kp2 => ?_, fun ft hft => ?_⟩
    · rw [ens] at hn
      rw [hn] at heq
      have hS2 := hS1.step hR2 kp2 hE2
      have kpb := kpa.trans (kp2.mono sub1)
      obtain ⟨y, hy, hdy⟩ := hE2.head
      have heq2 : R0 = (takeSign 58 (all.drop (j + 1 + 1))).bind fun r => (takeOld (txOf ⟨as_, rs, []⟩).ns r).bind fun i => (takeSign 44 i.2).bind fun r => (takeOld (txOf ⟨as_, rs, []⟩).ns r).bind fun j => (takeSign 59 j.2).bind fun m => takeRows (as_.map fun a => a.name) f (rs ++ [⟨n, i.1, j.1⟩]) m := heq
      rw [hdy] at heq2
      refine ⟨_, rfl, r, dx, _, rfl, hR2.o, rF_no (by decide +kernel) (by decide +kernel) _ _, r, dx, D, ts, all, j + 1 + 1, y, .sign 58, _, _, rfl, hR2, hy, s58, w58, rfl, fun c3 H3 hR3 kp3 => ?_, fun c3 => ?_⟩
      · rw [sign_yes c3] at heq2
        have hE3 := hE2.more hy (tokEq_last c3 (by intro z; cases z))
        have hS3 := hS2.step hR3 kp3 hE3
        have kpc := kpb.trans (kp3.mono sub1)
        have heq3 : R0 = (takeOld (txOf ⟨as_, rs, []⟩).ns (all.drop (j + 1 + 1 + 1))).bind fun i => (takeSign 44 i.2).bind fun r => (takeOld (txOf ⟨as_, rs, []⟩).ns r).bind fun j => (takeSign 59 j.2).bind fun m => takeRows (as_.map fun a => a.name) f (rs ++ [⟨n, i.1, j.1⟩]) m := heq2
        refine ⟨_, rfl, _, rfl, r, dx, D, ts, all, j + 1 + 1 + 1, A, _, rfl, hR3, hS3.T, hE3, fun i hi hE4 hil H4 hR4 kp4 => ?_, fun ft hft => ?_⟩
        · rw [hi] at heq3
          have hS4 := hS3.step hR4 kp4 hE4
          have kpd := kpc.trans (kp4.mono sub1)
          obtain ⟨y4, hy4, hdy4⟩ := hE4.head
          have heq4 : R0 = (takeSign 44 (all.drop (j + 1 + 1 + 1 + 1))).bind fun r => (takeOld (txOf ⟨as_, rs, []⟩).ns r).bind fun j => (takeSign 59 j.2).bind fun m => takeRows (as_.map fun a => a.name) f (rs ++ [⟨n, i, j.1⟩]) m := heq3
          rw [hdy4] at heq4
          refine ⟨_, rfl, r, dx, _, rfl, hR4.o, rF_no (by decide +kernel) (by decide +kernel) _ _, r, dx, D, ts, all, j + 1 + 1 + 1 + 1, y4, .sign 44, _, _, rfl, hR4, hy4, s44, w44, rfl, fun c5 H5 hR5 kp5 => ?_, fun c5 => ?_⟩
          · rw [sign_yes c5] at heq4
            have hE5 := hE4.more hy4 (tokEq_last c5 (by intro z; cases z))
            have hS5 := hS4.step hR5 kp5 hE5
            have kpe := kpd.trans (kp5.mono sub1)
            have heq5 : R0 = (takeOld (txOf ⟨as_, rs, []⟩).ns (all.drop (j + 1 + 1 + 1 + 1 + 1))).bind fun j => (takeSign 59 j.2).bind fun m => takeRows (as_.map fun a => a.name) f (rs ++ [⟨n, i, j.1⟩]) m := heq4
            refine ⟨_, rfl, _, rfl, _, rfl, r, dx, D, ts, all, j + 1 + 1 + 1 + 1 + 1, A, _, rfl, hR5, hS5.T, hE5, fun i2 hi2 hE6 hil2 H6 hR6 kp6 => ?_, fun ft hft => ?_⟩
            · rw [hi2] at heq5
              have hS6 := hS5.step hR6 kp6 hE6
              have kpf := kpe.trans (kp6.mono sub1)
              obtain ⟨y6, hy6, hdy6⟩ := hE6.head
              have heq6 : R0 = (takeSign 59 (all.drop (j + 1 + 1 + 1 + 1 + 1 + 1))).bind fun m => takeRows (as_.map fun a => a.name) f (rs ++ [⟨n, i, i2⟩]) m := heq5
              rw [hdy6] at heq6
              refine ⟨(show 2 ≤ sizeLine by decide), fun p hp => ?_⟩
              have hS7 := hS6.same (same_new (o := .tup [.int (i : Int), .int (i2 : Int)]) hp)
              have kpg := kpf.trans (Keep.new (o := .tup [.int (i : Int), .int (i2 : Int)]) hp)
              have hpT : SqT K (upd H6 p (.tup [.int (i : Int), .int (i2 : Int)])) p [.int (i : Int), .int (i2 : Int)] := SqT.of upd_same
              generalize upd H6 p (.tup [.int (i : Int), .int (i2 : Int)]) = H7 at *
              refine ⟨_, rfl, r, dx, _, rfl, hS7.R.o, rF_no (by decide +kernel) (by decide +kernel) _ _, r, dx, D, ts, all, j + 1 + 1 + 1 + 1 + 1 + 1, y6, .sign 59, _, _, rfl, hS7.R, hy6, s59, w59, rfl, fun c8 H8 hR8 kp8 => ?_, fun c8 => ?_⟩
              · rw [sign_yes c8] at heq6
                have hE8 := hE6.more hy6 (tokEq_last c8 (by intro z; cases z))
                have hS8 := hS7.step hR8 kp8 hE8
                have kph := kpg.trans (kp8.mono sub1)
                have hp8 : SqT K H8 p [.int (i : Int), .int (i2 : Int)] := kp8.tups hS7.R.noTup _ _ hpT
                have heq8 : R0 = takeRows (as_.map fun a => a.name) f (rs ++ [(⟨n, i, i2⟩ : Vapcma.Row)]) (all.drop (j + 1 + 1 + 1 + 1 + 1 + 1 + 1)) := heq6
                rw [hnl] at hil hil2
                obtain ⟨g1, hg1⟩ : ∃ g, (txOf ⟨as_, rs, []⟩).fs[i]? = some g := ⟨_, List.getElem?_eq_getElem (by omega)⟩
                obtain ⟨g2, hg2⟩ : ∃ g, (txOf ⟨as_, rs, []⟩).fs[i2]? = some g := ⟨_, List.getElem?_eq_getElem (by omega)⟩
                refine ⟨_, rfl, A.a, A.dx, _, rfl, hS8.T.o, tF_no (by decide +kernel) (by decide +kernel) (by decide +kernel) (by decide +kernel) _, _, rfl, _, rfl, _, rfl, A.a, A.dx, _, rfl, hS8.T.o, tF_no (by decide +kernel) (by decide +kernel) (by decide +kernel) (by decide +kernel) _, _, rfl, A, _, p, i, i2, g1, g2, rfl, hS8.T, hp8, hg1, hg2, fun f hf z hz => Nat.le_trans (hok.sizes f hf z hz) (by decide), fun v9 H9 sm9 hv9 => ?_⟩
                have hS9 := hS8.same sm9
                refine ⟨A, _, n, .ref p, v9, some (i, i2), detF g1 g2, rfl, hS9.T, ⟨p, rfl, same_seqT sm9 hp8⟩, hv9, by omega, by omega, by omega, fun H10 hT10 kp10 => ?_⟩
                rw [tx_row as_ rs ⟨n, i, i2⟩ [] hg1 hg2] at hT10
                have hS10 := hS9.add hT10 kp10
                obtain ⟨z8, hz8, _⟩ := hE8.head
                have hz8l := (List.getElem?_eq_some_iff.mp hz8).1
                exact ⟨_, by omega, j + 1 + 1 + 1 + 1 + 1 + 1 + 1, f, rs ++ [(⟨n, i, i2⟩ : Vapcma.Row)], _, _, _, rfl, rfl, hS10, tok_row hok hlt hil hil2 hnz hpl, (kph.trans (Keep.of_same sm9)).trans (kp10.mono (fun y hy => List.mem_cons_of_mem _ hy)), heq8, by omega⟩
              · rw [sign_no c8] at heq6
                exact FaultKs.is (kE ⟨3, y6.place⟩ heq6) kpg
            · exact (kE ft (by rw [heq5, hft]; rfl)).keep kpe sub1
          · rw [sign_no c5] at heq4
            exact FaultKs.is (kE ⟨3, y4.place⟩ heq4) kpd
        · exact (kE ft (by rw [heq3, hft]; rfl)).keep kpc sub1
      · rw [sign_no c3] at heq2
        exact FaultKs.is (kE ⟨3, y.place⟩ heq2) kpb
    · rw [ens] at hft
      exact (kE ft (by rw [heq, hft]; rfl)).keep kpa sub1
  · refine FaultKs.is (kE ⟨4, x.place⟩ ?_) kp
    have nx : nextWord "row" (x :: all.drop (j + 1)) = true := c
    rw [hcnt] at he
    have : (24 : Nat) ≤ rs.length := by
      have h2 : (rs.length : Int) = 24 := he
      omega
    rw [heq, if_pos nx, if_pos this]; rfl
end
end Shp
end
section
set_option maxRecDepth 100000
set_option maxHeartbeats 4000000
namespace Shp
open PySem PySem.Spec PyProof.Rows L2
open VapcmBase (PTok Toks tokEq RESERVED next here wrong takeName takeSign word nextWord)
open Vapcma (takePart takeForm Raw Form rawNames formOf takeFormula newName takeOld takeAxioms takeRows takeGoals Axiom Text_ readText)
section
variable {P : Program} {w : World} {K : PySem.W.Frag} {mg : Str → Option Value} {base : Heap}
theorem tg_eq (n : Nat) (gs : List Form) (l : Toks) : takeGoals (n + 1) gs l = if next .last l = true then .ok gs else if nextWord "goal" l = true then (if 4 ≤ gs.length then .error ⟨4, here l⟩ else (takeFormula (l.drop 1)).bind fun f => takeGoals n (gs ++ [f.1]) f.2) else wrong l := by rw [takeGoals]; rfl
theorem last_eq {t : BTok} (h : tokEq t .last = true) : t = .last := by cases t <;> first | rfl | cases h
def sp_read_goals (T : Top K mg) : Sp := fun vs H Q E => ∃ (r dx D : Addr) (ts : List Addr) (all : Toks) (k : Nat) (A : TA) (as_ : List Axiom) (rs : List Vapcma.Row),
  vs = [.ref r, .ref A.a] ∧ Rd2 K T.C_Reader T.C_Text H r dx D ts all k A (txOf ⟨as_, rs, []⟩) ∧ TOk ⟨as_, rs, []⟩ ∧
  (∀ gs j, takeGoals ((all.drop k).length + 1) [] (all.drop k) = (if next .last (all.drop j) = true then .ok gs else wrong (all.drop j)) → TOk ⟨as_, rs, gs⟩ → ∀ H', Rd2 K T.C_Reader T.C_Text H' r dx D ts all j A (txOf ⟨as_, rs, gs⟩) → Keep (r :: A.lists) H H' → Q .non H') ∧
  (∀ f, takeGoals ((all.drop k).length + 1) [] (all.drop k) = .error f → FaultKs E T.C_Fault (r :: A.lists) H (f.code : Int) (f.place : Int))
theorem ok_read_goals (T : Top K mg) (TF : FaultT K T.C_Fault) : FnOk P w K mg base (L2.CX P w) 89 T.d_read_goals.f T.d_read_goals.fd P_read_goals (sp_read_goals T) := by
  refine T.d_read_goals.F.okX sc_read_goals (fun vs H Q E h => by obtain ⟨_, _, _, _, _, _, _, _, _, rfl, _⟩ := h; rfl) (fun cdv A outer s H vs Q E hr h => ?_)
  refine ⟨_, (pss_one (ps_while (passes_of rfl) (pt_val (pe_call (ok_begins T TF) (hr.mono (by decide)) rfl T.d_begins.mg T.d_begins.F.kp T.d_begins.b .nil (passes_call (takes_of rfl rfl rfl rfl) (fun _ _ _ _ h => h)) (pa_cons (pv 0) (pa_cons pe_str (pa_cons (pe_callB call_len (by rfl) T.b_len PySem.boot_len (pa_cons (pe_fld (pv 1) rfl) pa_nil)) (pa_cons (pe_glob rfl T.c_MOST_GOALS.choose_spec relI) pa_nil)))))) (pss_one (ps_expr (pe_bm PySem.F.plainAttrs_list PySem.F.slot_list_append PySem.F.type_list_append mt_append (pe_fld (pv 1) rfl) (pa_cons (pe_call (ok_read_formula T TF) (hr.mono (by decide)) rfl T.d_read_formula.mg T.d_read_formula.F.kp T.d_read_formula.b .nil (passes_call (takes_of rfl rfl rfl rfl) (fun _ _ _ _ h => h)) (pa_cons (pv 0) pa_nil)) pa_nil)))))), ?_⟩
  obtain ⟨r, dx, D, ts, all, k, A, as_, rs, rfl, hD, hok0, kO, kE⟩ := h
  generalize hR0 : takeGoals ((all.drop k).length + 1) [] (all.drop k) = R0 at kO kE
  refine ⟨fun m σ H' => ∃ (j f : Nat) (gs : List Form), m = all.length - j ∧ σ = [some (.ref r), some (.ref A.a)] ∧ Rd2 K T.C_Reader T.C_Text H' r dx D ts all j A (txOf ⟨as_, rs, gs⟩) ∧ TOk ⟨as_, rs, gs⟩ ∧ Keep (r :: A.lists) H H' ∧
    R0 = takeGoals f gs (all.drop j) ∧ all.length - j + 1 ≤ f,
    ⟨_, k, _, [], rfl, rfl, hD, hok0, Keep.refl _ _, hR0.symm, by rw [List.length_drop]; exact Nat.le_refl _⟩, ?_⟩
  rintro m σ H' ⟨j, f, gs, rfl, rfl, hS, hok, kp, heq, hf⟩
  obtain ⟨x, hx, hdx⟩ := hS.E.head
  have hj : j < all.length := (List.getElem?_eq_some_iff.mp hx).1
  obtain ⟨f, rfl⟩ : ∃ f', f = f' + 1 := ⟨f - 1, by omega⟩
  rw [hdx, tg_eq] at heq
  obtain ⟨us, g1, g2⟩ := hS.T.g
  have hul : us.length = gs.length := g2.length
  refine ⟨_, rfl, _, rfl, A.a, _, A.dx, _, _, rfl, hS.T.o, T.cl_Text, T.n_Text_goals, tF_goals _, _, _, rfl, .inl ⟨_, SqL.of g1, rfl⟩, r, dx, D, ts, all, j, x, .name (word "goal"), _, _, _, _, rfl, hS.R, hx, sGoal, wGoal, rfl, fun c => ?_, fun c hne H1 hR1 kp1 => ?_, fun c he => ?_⟩
  · refine ⟨_, rfl, iteF rfl ?_⟩
    have nx : ¬ nextWord "goal" (x :: all.drop (j + 1)) = true := by show ¬ tokEq x.tok _ = true; rw [c]; exact Bool.false_ne_true
    rw [if_neg nx, ← hdx] at heq
    exact kO gs j heq hok H' hS kp
  · refine ⟨_, rfl, iteT rfl ?_⟩
    refine ⟨_, fun _ _ h => h, ?_⟩
    have nx : nextWord "goal" (x :: all.drop (j + 1)) = true := c
    have nl : ¬ next .last (x :: all.drop (j + 1)) = true := fun h => by
      exact tokEq_last c (by intro z; cases z) (last_eq h)
    have hng : gs.length ≤ 4 := hok.ng
    have hlt : gs.length < 4 := by
      have h2 : ((us.length : Nat) : Int) ≠ 4 := hne
      omega
    rw [if_neg nl, if_pos nx, if_neg (by omega)] at heq
    simp only [List.drop_succ_cons, List.drop_zero] at heq
    have hE1 := hS.E.more hx (tokEq_last c (by intro z; cases z))
    have hS1 := hS.step hR1 kp1 hE1
    have sub1 : ∀ y ∈ [r], y ∈ r :: A.lists := by simp
    have kpa := kp.trans (kp1.mono sub1)
    obtain ⟨us1, g3, g4⟩ := hS1.T.g
    refine ⟨_, rfl, A.a, _, A.dx, _, _, rfl, hS1.T.o, T.cl_Text, T.n_Text_goals, tF_goals _, tyL g3, _, rfl, r, dx, D, ts, all, j + 1, rfl, hR1, hS.hz, hE1, fun fm j4 hfm hj4 hE4 hz4 har p H4 hR4 hp4 kp4 => ?_, fun ft hft => ?_⟩
    · rw [hfm] at heq
      have hS4 := hS1.step hR4 kp4 hE4
      have kpd := kpa.trans (kp4.mono sub1)
      obtain ⟨us4, g5, g6⟩ := hS4.T.g
      have hul4 : us4.length = gs.length := g6.length
      refine ⟨A.go, us4, _, rfl, rfl, g5, small_lt (m := 10000) (by omega), ?_⟩
      have kp5 : Keep A.lists H4 (upd H4 A.go (.lst (us4 ++ [.ref p]))) := Keep.upd (by simp)
      have tp : Tups K H4 (upd H4 A.go (.lst (us4 ++ [.ref p]))) := kp5.tups (hS4.T.noTup.sub (by simp))
      have hT := hS4.T
      obtain ⟨vs, s1, s2⟩ := hT.s
      obtain ⟨ws, f1, f2⟩ := hT.f
      have na := hT.ne_a
      simp only [TA.lists, List.mem_cons, List.not_mem_nil, or_false, not_or] at na
      have hT5 : TAt K T.C_Text (upd H4 A.go (.lst (us4 ++ [.ref p]))) A (txOf ⟨as_, rs, gs ++ [fm]⟩) := by
        refine ⟨by rw [upd_ne na.2.2.2]; exact hT.o, by rw [upd_ne hT.d3]; exact hT.n, ⟨vs, by rw [upd_ne hT.d5]; exact s1, paired_mono (fun _ _ z => z.tups tp) s2⟩, ⟨ws, by rw [upd_ne hT.d6]; exact f1, paired_mono (fun _ _ z => z.tups tp) f2⟩, ⟨us4 ++ [.ref p], upd_same, ?_⟩, hT.d1, hT.d2, hT.d3, hT.d4, hT.d5, hT.d6⟩
        exact paired_snoc (R := fun v g => FrmAt K _ v (some g)) ⟨p, rfl, tp _ _ hp4⟩ (paired_mono (fun _ _ z => FrmAt.tups z tp) g6)
      have hS5 := hS4.add hT5 kp5
      obtain ⟨z4, hz4', _⟩ := hE4.head
      have hj4l := (List.getElem?_eq_some_iff.mp hz4').1
      have heq4 : R0 = takeGoals f (gs ++ [fm]) (all.drop j4) := heq
      refine ⟨_, by omega, j4, f, gs ++ [fm], rfl, rfl, hS5, ⟨hok.na, hok.nr, by simp; omega, hok.ax, hok.rw, ?_⟩, kpd.trans (kp5.mono (fun y hy => List.mem_cons_of_mem _ hy)), heq4, by omega⟩
      intro g hg
      rcases List.mem_append.mp hg with hg | hg
      · exact hok.gl g hg
      · rw [List.mem_singleton] at hg
        subst hg
        exact ⟨hz4, har⟩
    · exact (kE ft (by rw [heq, hft]; rfl)).keep kpa sub1
  · refine FaultKs.is (kE ⟨4, x.place⟩ ?_) kp
    have nx : nextWord "goal" (x :: all.drop (j + 1)) = true := c
    have nl : ¬ next .last (x :: all.drop (j + 1)) = true := fun h => by
      exact tokEq_last c (by intro z; cases z) (last_eq h)
    have : (4 : Nat) ≤ gs.length := by
      have h2 : ((us.length : Nat) : Int) = 4 := he
      omega
    rw [heq, if_neg nl, if_pos nx, if_pos this]; rfl
def sp_Reader___init__ (T : Top K mg) : Sp := fun vs H Q _ => ∃ (p dx D : Addr),
  vs = [.ref p, .ref D] ∧ H p = some (.ins T.C_Reader dx []) ∧ ∀ (H' : Hp), H' p = some (.ins T.C_Reader dx (rF D 0)) → Keep [p] H H' → Q .non H'
theorem ok_Reader___init__ (T : Top K mg) : FnOk P w K mg base CX0 1 T.m_Reader___init__.f T.m_Reader___init__.fd P_Reader___init__ (sp_Reader___init__ T) := by
  refine T.m_Reader___init__.F.ok sc_Reader___init__ (fun vs H Q E h => by obtain ⟨_, _, _, rfl, _⟩ := h; rfl) (fun cdv A outer s H vs Q E hr h => ?_)
  refine ⟨_, (pss_cons (ps_fld (pv 0) (pv 1) rfl)
    (pss_one (ps_fld (pv 0) pe_int rfl))), ?_⟩
  obtain ⟨p, dx, D, rfl, hp, k⟩ := h
  refine ⟨_, rfl, _, rfl, p, T.C_Reader, dx, _, rfl, hp, T.cl_Reader, T.n_Reader_tokens, (by show 0 < 1000; decide), ?_⟩
  refine ⟨_, rfl, p, T.C_Reader, dx, _, rfl, upd_same, T.cl_Reader, T.n_Reader_at, (by show 1 < 1000; decide), ?_⟩
  refine k _ ?_ ((Keep.upd (by simp)).trans (Keep.upd (by simp)))
  rw [upd_same]
  congr 2
theorem FaultIs.ks {E : XK} {cA : Addr} {L : List Addr} {H H1 : Hp} {c p : Int} (h : FaultIs E cA H c p) (s : Same H H1) (n : ∀ x ∈ L, H x = none) : FaultKs E cA L H1 c p := fun d H' hd k => h d H' hd (Keep.same s k n)
def sp_read_text (T : Top K mg) : Sp := fun vs H Q E => ∃ (a : Addr) (bs : List UInt8),
  vs = [.ref a] ∧ SqL K H a (bs.map fun b => V.int ((b.toNat : Nat) : Int)) ∧
  (∀ t, Vapcma.read bs = .ok t → TOk t → ∀ (A : TA) (H' : Hp), TAt K T.C_Text H' A (txOf t) → Same H H' → (∀ y ∈ A.all, H y = none) → Q (.ref A.a) H') ∧
  (∀ f, Vapcma.read bs = .error f → FaultIs E T.C_Fault H (f.code : Int) (f.place : Int))
theorem sLast : Str.ofString "" = bx [] := by decide +kernel
theorem rt_eq (l : Toks) : readText l = (takeAxioms (l.length + 1) [] l).bind fun a => (takeRows (a.1.map fun x => x.name) (a.2.length + 1) [] a.2).bind fun r => (takeGoals (r.2.length + 1) [] r.2).map fun g => ⟨a.1, r.1, g⟩ := rfl
theorem ok_read_text (T : Top K mg) (TF : FaultT K T.C_Fault) : FnOk P w K mg base (L2.CX P w) 90 T.d_read_text.f T.d_read_text.fd P_read_text (sp_read_text T) := by
  refine T.d_read_text.F.okX sc_read_text (fun vs H Q E h => by obtain ⟨_, _, rfl, _⟩ := h; rfl) (fun cdv A outer s H vs Q E hr h => ?_)
  refine ⟨_, (pss_cons (ps_if (pt_cmpR op_gt (pe_callB call_len (by rfl) T.b_len PySem.boot_len (pa_cons (pv 0) pa_nil)) (pe_glob rfl T.c_MOST_BYTES.choose_spec relI) (nomark _)) (pss_one (ps_raise rfl (takes_of rfl rfl rfl rfl) (pmk_eown TF.own TF.iC TF.tI (ok_Fault___init__ T TF) (hr.mono (by decide)) TF.b .nil pass0 rfl T.mg_Fault (pa_cons (pe_glob rfl T.c_TEXT_TOO_LONG.choose_spec relI) (pa_cons (pe_glob rfl T.c_MOST_BYTES.choose_spec relI) pa_nil))))) pss_nil)
    (pss_cons (ps_set (i := 1) sc_read_text.nd rfl (Or.inl rfl) (pe_make T.m_Reader___init__.M (ok_Reader___init__ T) (hr.mono (by decide)) rfl T.mg_Reader T.m_Reader___init__.b .nil pass0 (pa_cons (pe_call (ok_tokens_of T TF) (hr.mono (by decide)) rfl T.d_tokens_of.mg T.d_tokens_of.F.kp T.d_tokens_of.b .nil (passes_call (takes_of rfl rfl rfl rfl) (fun _ _ _ _ h => h)) (pa_cons (pv 0) pa_nil)) pa_nil)))
    (pss_cons (ps_set (i := 2) sc_read_text.nd rfl (Or.inl rfl) (pe_make0 T.m_Text___init__.M (ok_Text___init__ T) (hr.mono (by decide)) rfl T.mg_Text T.m_Text___init__.b .nil pass0))
    (pss_cons (ps_if (pt_cmpR op_ne (pe_meth0 (pv 1) T.cl_Reader T.m_Reader_word.m (ok_Reader_word T) (hr.mono (by decide)) T.m_Reader_word.b .nil pass0) pe_str (nomark _)) (pss_one (ps_raise rfl (takes_of rfl rfl rfl rfl) (pmk_eown TF.own TF.iC TF.tI (ok_Fault___init__ T TF) (hr.mono (by decide)) TF.b .nil pass0 rfl T.mg_Fault (pa_cons (pe_glob rfl T.c_NOT_ALLOWED.choose_spec relI) (pa_cons (pe_meth0 (pv 1) T.cl_Reader T.m_Reader_here.m (ok_Reader_here T) (hr.mono (by decide)) T.m_Reader_here.b .nil pass0) pa_nil))))) pss_nil)
    (pss_cons (ps_expr (pe_call (ok_read_axioms T TF) (hr.mono (by decide)) rfl T.d_read_axioms.mg T.d_read_axioms.F.kp T.d_read_axioms.b .nil (passes_call (takes_of rfl rfl rfl rfl) (fun _ _ _ _ h => h)) (pa_cons (pv 1) (pa_cons (pv 2) pa_nil))))
    (pss_cons (ps_expr (pe_call (ok_read_rows T TF) (hr.mono (by decide)) rfl T.d_read_rows.mg T.d_read_rows.F.kp T.d_read_rows.b .nil (passes_call (takes_of rfl rfl rfl rfl) (fun _ _ _ _ h => h)) (pa_cons (pv 1) (pa_cons (pv 2) pa_nil))))
    (pss_cons (ps_expr (pe_call (ok_read_goals T TF) (hr.mono (by decide)) rfl T.d_read_goals.mg T.d_read_goals.F.kp T.d_read_goals.b .nil (passes_call (takes_of rfl rfl rfl rfl) (fun _ _ _ _ h => h)) (pa_cons (pv 1) (pa_cons (pv 2) pa_nil))))
    (pss_cons (ps_expr (pe_meth (pv 1) T.cl_Reader T.m_Reader_take.m (ok_Reader_take T TF) (hr.mono (by decide)) T.m_Reader_take.b .nil (passes_call (takes_of rfl rfl rfl rfl) (fun _ _ _ _ h => h)) (pa_cons (pe_glob rfl T.c_END.choose_spec relS) pa_nil)))
    (pss_one (ps_ret (pv 2))))))))))), ?_⟩
  obtain ⟨a, bs, rfl, ha, kO, kE⟩ := h
  have hrd : Vapcma.read bs = (if 4096 < bs.length then .error ⟨1, 4096⟩ else LX 0 bs).bind readText := rfl
  refine ⟨_, rfl, _, _, rfl, .inl ⟨_, ha, rfl⟩, _, _, rfl, rfl, _, rfl, ?_⟩
  rw [List.length_map]
  by_cases c : 4096 < bs.length
  · refine iteT (by simp; omega) ?_
    rw [if_pos c] at hrd
    exact raise_fault (kE ⟨1, 4096⟩ hrd)
  refine iteF (by simp; omega) ?_
  rw [if_neg c] at hrd
  refine ⟨_, rfl, a, bs, rfl, ha, by omega, fun all hall D ts H1 sm1 hD1 hp1 hEn htz nD => ?_, fun f hf => kE f (by rw [hrd, hf]; rfl)⟩
  rw [hall] at hrd
  have hrd2 : Vapcma.read bs = readText all := hrd
  rw [rt_eq] at hrd2
  have haz : all.length ≤ 5000 := by have := hp1.length; omega
  intro r dx hr hdx hne
  refine ⟨r, dx, D, rfl, upd_same, fun H2 hr2 kp2 => ⟨rfl, ?_⟩⟩
  have sm2 : Same H1 H2 := fun c o q => kp2 c o (by rw [upd_ne (ne_of_none q hr), upd_ne (ne_of_none q hdx)]; exact q) (by simp; exact fun e => by rw [e, hr] at q; cases q)
  have hR2 : RAt K T.C_Reader H2 r dx D ts all 0 := ⟨hr2, sm2 _ _ hD1, paired_mono (fun _ _ z => z.same sm2) hp1⟩
  intro ta tdx hta htdx htne
  refine ⟨ta, tdx, rfl, upd_same, fun H3 na so fo go hT3 nls kp3 => ⟨rfl, ?_⟩⟩
  have sm3 : Same H2 H3 := fun c o q => kp3 c o (by rw [upd_ne (ne_of_none q hta), upd_ne (ne_of_none q htdx)]; exact q) (by simp; exact fun e => by rw [e, hta] at q; cases q)
  have fr : ∀ c, (upd (upd H2 tdx (.own ta)) ta (.ins T.C_Text tdx [])) c = none → H2 c = none := fun c h => by
    by_cases e : c = ta
    · rw [e]; exact hta
    · rw [upd_ne e] at h
      by_cases e2 : c = tdx
      · rw [e2]; exact htdx
      · rw [upd_ne e2] at h; exact h
  have sm12 := sm1.trans sm2
  have hE0 : Ending (all.drop 0) := hEn
  have hS : Rd2 K T.C_Reader T.C_Text H3 r dx D ts all 0 ⟨ta, tdx, na, so, fo, go⟩ (txOf ⟨[], [], []⟩) := by
    refine ⟨hR2.same sm3, hT3, ?_, haz, hE0⟩
    intro m
    have hD2 := sm2 _ _ hD1
    simp only [TA.all, List.mem_cons, List.not_mem_nil, or_false] at m
    rcases m with e | m
    · rw [e, hta] at hD2; cases hD2
    · rw [fr _ (nls D (by simpa using m))] at hD2; cases hD2
  have hfree : ∀ x ∈ r :: TA.lists ⟨ta, tdx, na, so, fo, go⟩, H x = none := fun x hx => by
    rcases List.mem_cons.mp hx with rfl | hx
    · exact sm1.free hr
    · exact sm12.free (fr x (nls x hx))
  have sm03 : Same H H3 := sm12.trans sm3
  have hfa : H ta = none := sm12.free hta
  generalize hA : (⟨ta, tdx, na, so, fo, go⟩ : TA) = A at *
  obtain rfl : ta = A.a := by rw [← hA]
  obtain ⟨x, hx, hdx0⟩ := hE0.head
  have kX : ∀ f, Vapcma.read bs = .error f → FaultKs E T.C_Fault (r :: A.lists) H3 (f.code : Int) (f.place : Int) := fun f hf => (kE f hf).ks sm03 hfree
  clear kp2 kp3 hT3 nls fr hta htdx htne hr hdx hne
  refine ⟨_, rfl, r, dx, _, rfl, hS.R.o, rF_no (by decide +kernel) (by decide +kernel) _ _, r, dx, D, ts, all, 0, x, rfl, hS.R, hx, fun u h1 h2 h3 => ?_⟩
  refine ⟨rfl, _, rfl, ?_⟩
  rw [tok_sign sAx wAx rfl h1]
  cases cx : tokEq x.tok (.name (word "axiom")) with
  | false =>
    refine iteT rfl ?_
    refine ⟨_, rfl, r, dx, _, rfl, hS.R.o, rF_no (by decide +kernel) (by decide +kernel) _ _, r, dx, D, ts, all, 0, x, rfl, hS.R, hx, raise_fault (FaultKs.is (kX ⟨3, x.place⟩ ?_) (Keep.refl _ _))⟩
    have e0 : all = x :: all.drop 1 := hdx0
    have nx : ¬ nextWord "axiom" all = true := by rw [e0]; show ¬ tokEq x.tok _ = true; rw [cx]; exact Bool.false_ne_true
    rw [hrd2, ta_eq, if_neg nx]
    rw [e0]; rfl
  | true =>
    refine iteF rfl ?_
    refine ⟨_, rfl, _, rfl, r, dx, D, ts, all, 0, A, x, rfl, hS, hx, cx, fun as_ j ht hok H4 hS4 kp4 => ?_, fun f hf => kX f (by rw [hrd2]; show (takeAxioms ((all.drop 0).length + 1) [] (all.drop 0)).bind _ = _; rw [hf]; rfl)⟩
    have hrd3 : Vapcma.read bs = (takeRows (as_.map fun x => x.name) ((all.drop j).length + 1) [] (all.drop j)).bind fun r => (takeGoals (r.2.length + 1) [] r.2).map fun g => ⟨as_, r.1, g⟩ := by
      rw [hrd2]
      show (takeAxioms ((all.drop 0).length + 1) [] (all.drop 0)).bind _ = _
      rw [ht]; rfl
    refine ⟨_, rfl, _, rfl, r, dx, D, ts, all, j, A, as_, rfl, hS4, hok, fun rs j2 ht2 hok2 H5 hS5 kp5 => ?_, fun f hf => (kX f (by rw [hrd3, hf]; rfl)).keep kp4 (fun _ h => h)⟩
    have hrd4 : Vapcma.read bs = (takeGoals ((all.drop j2).length + 1) [] (all.drop j2)).map fun g => ⟨as_, rs, g⟩ := by
      rw [hrd3, ht2]; rfl
    have kp45 := kp4.trans kp5
    refine ⟨_, rfl, _, rfl, r, dx, D, ts, all, j2, A, as_, rs, rfl, hS5, hok2, fun gs j3 ht3 hok3 H6 hS6 kp6 => ?_, fun f hf => (kX f (by rw [hrd4, hf]; rfl)).keep kp45 (fun _ h => h)⟩
    rw [ht3] at hrd4
    have kp456 := kp45.trans kp6
    obtain ⟨y, hy, hdy⟩ := hS6.E.head
    rw [hdy] at hrd4
    refine ⟨_, rfl, r, dx, _, rfl, hS6.R.o, rF_no (by decide +kernel) (by decide +kernel) _ _, r, dx, D, ts, all, j3, y, .last, _, _, rfl, hS6.R, hy, sLast, rfl, rfl, fun c9 H7 hR7 kp7 => ?_, fun c9 => ?_⟩
    · have nl : next .last (y :: all.drop (j3 + 1)) = true := c9
      rw [if_pos nl] at hrd4
      refine ⟨_, rfl, ?_⟩
      have hT7 : TAt K T.C_Text H7 A (txOf ⟨as_, rs, gs⟩) := hS6.T.keep kp7 hS6.R.noTup (fun y hy => by rw [List.mem_singleton.mp hy]; exact hS6.R.apart hS6.T)
      exact kO ⟨as_, rs, gs⟩ hrd4 hok3 A H7 hT7 (Keep.same sm03 (kp456.trans (kp7.mono (by simp))) hfree) (fun y hy => by
        rcases List.mem_cons.mp hy with rfl | hy
        · exact hfa
        · exact hfree y (List.mem_cons_of_mem _ hy))
    · have nl : ¬ next .last (y :: all.drop (j3 + 1)) = true := by show ¬ tokEq y.tok _ = true; rw [c9]; exact Bool.false_ne_true
      rw [if_neg nl] at hrd4
      exact FaultKs.is (kX ⟨3, y.place⟩ hrd4) kp456
end
end Shp
end
section
set_option maxRecDepth 100000
set_option maxHeartbeats 4000000
namespace Shp
open PySem PySem.Spec PyProof.Rows L2
open Vapcma (Form Text_ Axiom)
section
variable {P : Program} {w : World} {K : PySem.W.Frag} {mg : Str → Option Value} {base : Heap}
def optV : Option Nat → V
  | none => .non
  | some k => .int (k : Int)
def isIn (f : Form) (g : Option Form) : Bool := g.any fun g => Vapcma.instanceOf g f
theorem first_eq (fs : List (Option Form)) (f : Form) : Vapcmb.firstAsGeneral fs f = fs.findIdx? (isIn f) := rfl
def sp_first_with_instance (T : Top K mg) : Sp := fun vs H Q _ => ∃ (A : TA) (x : Tx) (p : Addr) (f : Form),
  vs = [.ref A.a, .ref p] ∧ TAt K T.C_Text H A x ∧ SqT K H p (ivs (enc f)) ∧ (∀ g ∈ x.fs, ∀ z, g = some z → Vapcma.size z ≤ 1000) ∧ ∀ H', Same H H' → Q (optV (Vapcmb.firstAsGeneral x.fs f)) H'
theorem ok_first_with_instance (T : Top K mg) : FnOk P w K mg base CX0 3 T.d_first_with_instance.f T.d_first_with_instance.fd P_first_with_instance (sp_first_with_instance T) := by
  refine T.d_first_with_instance.F.ok sc_first_with_instance (fun vs H Q E h => by obtain ⟨_, _, _, _, rfl, _⟩ := h; rfl) (fun cdv A outer s H vs Q E hr h => ?_)
  refine ⟨_, (pss_cons (ps_for PassesOwn.never rfl (pi_enum (by rfl) T.b_enumerate (pa_cons (pe_fld (pv 0) rfl) pa_nil)) (pg_tup rfl (pgs_cons (pg_name (i := 2) sc_first_with_instance.nd rfl (Or.inl rfl)) (pgs_cons (pg_name (i := 3) sc_first_with_instance.nd rfl (Or.inl rfl)) pgs_nil)))
      (pss_one (ps_if (PW.pt (pw_and (pt_cmpR op_notN (pv 3) pe_non (nomark _)) (pw_and1 (pt_val (pe_call (ok_is_instance T) (hr.mono (by decide)) rfl T.d_is_instance.mg T.d_is_instance.F.kp T.d_is_instance.b .nil pass0 (pa_cons (pv 1) (pa_cons (pv 3) pa_nil))))))) (pss_one (ps_ret (pv 2))) pss_nil)))
    (pss_one (ps_ret pe_non))), ?_⟩
  obtain ⟨A, x, p, f, rfl, hT, hp, hz, hq⟩ := h
  obtain ⟨ws, f1, f2⟩ := hT.f
  have hwl := f2.length
  refine ⟨_, rfl, A.a, _, A.dx, _, _, rfl, hT.o, T.cl_Text, T.n_Text_formulas, tF_formulas _, A.fo, ws, rfl, SqL.of f1, for_it walk_enum (fun i σ H' => ∃ (v2 v3 : Option V), σ = [some (.ref A.a), some (.ref p), v2, v3] ∧ Same H H' ∧ ∀ j g, j < i → x.fs[j]? = some g → isIn f g = false)
    ⟨none, none, rfl, Same.refl _, fun j g h => absurd h (by omega)⟩ (fun i σ H' _ ⟨_, _, _, sm, _⟩ => SqL.of (sm _ _ f1)) ?_ ?_⟩
  · rintro i y σ H1 H2 hi ⟨v2, v3, rfl, sm, hno⟩ ⟨Tp, x1, x2, rfl, hTp, rfl, e1, e2⟩
    cases e1
    have e2 : ws[i]? = some x2 := e2
    obtain ⟨g, hg, hgv⟩ : ∃ g, x.fs[i]? = some g ∧ FrmAt K H x2 g := by
      have hlt : i < x.fs.length := by omega
      obtain ⟨v, h1, h2⟩ := Shp.paired_get f2 (List.getElem?_eq_getElem hlt)
      rw [e2] at h1; cases h1
      exact ⟨_, List.getElem?_eq_getElem hlt, h2⟩
    have sm2 : Same H (upd H1 Tp (.tup [.int (i : Nat), x2])) := same_newer sm hTp
    refine ⟨Tp, _, rfl, SqT.of upd_same, rfl, _, _, rfl, _, _, rfl, rfl, ?_⟩
    generalize upd H1 Tp (.tup [.int (i : Nat), x2]) = H3 at *
    refine ⟨_, rfl, rfl, _, rfl, ?_⟩
    cases g with
    | none =>
      have e3 : x2 = .non := hgv
      refine iteF (by simp [e3]) ?_
      refine ⟨_, _, rfl, sm2, fun j g hj hgj => ?_⟩
      by_cases c : j = i
      · subst c; rw [hg] at hgj; cases hgj; rfl
      · exact hno j g (by omega) hgj
    | some g =>
      obtain ⟨pg, rfl, hpg⟩ := hgv
      refine iteT (by simp) ?_
      refine ⟨_, rfl, _, rfl, p, pg, f, g, rfl, same_seqT sm2 hp, same_seqT sm2 hpg, hz _ (List.mem_of_getElem? hg) _ rfl, fun H4 sm4 => ?_⟩
      refine ⟨_, rfl, ?_⟩
      cases c : Vapcma.instanceOf g f with
      | true =>
        refine iteT rfl ?_
        refine ⟨_, rfl, ?_⟩
        have e : Vapcmb.firstAsGeneral x.fs f = some i := by
          have hlt : i < x.fs.length := (List.getElem?_eq_some_iff.mp hg).1
          rw [first_eq, List.findIdx?_eq_some_iff_getElem]
          refine ⟨hlt, ?_, fun j hj => ?_⟩
          · rw [List.getElem?_eq_getElem hlt] at hg
            rw [Option.some.inj hg]; exact c
          · rw [hno j _ hj (List.getElem?_eq_getElem (by omega))]; exact Bool.false_ne_true
        have := hq H4 (sm2.trans sm4)
        rw [e] at this
        exact this
      | false =>
        refine iteF rfl ?_
        refine ⟨_, _, rfl, sm2.trans sm4, fun j g' hj hgj => ?_⟩
        by_cases c2 : j = i
        · subst c2; rw [hg] at hgj; cases hgj; exact c
        · exact hno j g' (by omega) hgj
  · rintro σ H1 ⟨v2, v3, rfl, sm, hno⟩
    have e : Vapcmb.firstAsGeneral x.fs f = none := by
      rw [first_eq, List.findIdx?_eq_none_iff]
      intro g hg
      obtain ⟨j, hj⟩ := List.mem_iff_getElem?.mp hg
      exact hno j g (by have := (List.getElem?_eq_some_iff.mp hj).1; omega) hj
    have := hq H1 sm
    rw [e] at this
    exact this
/-- what the targets are -/
def tgt (x : Tx) : List Nat := x.gs.filterMap fun g => Vapcmb.firstAsGeneral x.fs g
def sp_targets (T : Top K mg) : Sp := fun vs H Q _ => ∃ (A : TA) (x : Tx),
  vs = [.ref A.a] ∧ TAt K T.C_Text H A x ∧ (∀ g ∈ x.fs, ∀ z, g = some z → Vapcma.size z ≤ 1000) ∧ x.gs.length ≤ 10000 ∧ ∀ (D : Addr) (H' : Hp), Same H H' → H' D = some (.lst (nvs (tgt x))) → Q (.ref D) H'
theorem ok_targets (T : Top K mg) : FnOk P w K mg base CX0 4 T.d_targets.f T.d_targets.fd P_targets (sp_targets T) := by
  refine T.d_targets.F.ok sc_targets (fun vs H Q E h => by obtain ⟨_, _, rfl, _⟩ := h; rfl) (fun cdv A outer s H vs Q E hr h => ?_)
  refine ⟨_, (pss_cons (ps_setLc (i := 1) (own := [("goal", 2)]) rfl sc_targets.nd rfl rfl (sw_true rfl rfl rfl (by decide +kernel)) (pi_list (pe_fld (pv 0) rfl)) (blkOk_by (N := N_targets) (sc := defScope s_targets) (by decide +kernel)) (fun _ _ _ _ _ => (pg_name (i := 2) sc_targets.nd rfl (Or.inl rfl))) (fun _ _ _ _ _ => pts_nil) (fun _ _ _ _ _ => (pe_call (ok_first_with_instance T) (hr.mono (by decide)) rfl T.d_first_with_instance.mg T.d_first_with_instance.F.kp T.d_first_with_instance.b .nil pass0 (pa_cons (pv 0) (pa_cons (pv 2) pa_nil)))))
    (pss_one (ps_ret (pe_lc (own := [("number", 3)]) rfl sc_targets.nd (pi_list (pv 1)) (blkOk_by (N := N_targets) (sc := defScope s_targets) (by decide +kernel)) (fun _ _ _ _ _ => (pg_name (i := 3) sc_targets.nd rfl (Or.inl rfl))) (fun _ _ _ _ _ => (pts_one (pt_cmpR op_notN (pv 3) pe_non (nomark _)))) (fun _ _ _ _ _ => (pv 3)))))), ?_⟩
  obtain ⟨A, x, rfl, hT, hz, hgz, hq⟩ := h
  obtain ⟨us, g1, g2⟩ := hT.g
  have hul := g2.length
  refine ⟨_, rfl, A.a, _, A.dx, _, _, rfl, hT.o, T.cl_Text, T.n_Text_goals, tF_goals _, ?_⟩
  refine ⟨_, rfl, ⟨_, SqL.of g1⟩, fun D hD => ?_⟩
  refine lc_list (K := K) (a := A.go) (xs := us) (fun t H' => Same H H' ∧ H' D = some (.lst ((x.gs.take t).map fun g => optV (Vapcmb.firstAsGeneral x.fs g)))) ⟨same_new hD, upd_same⟩ (fun t H' _ e => SqL.of (e.1 _ _ g1)) ?_ ?_
  · rintro t y H' hy ⟨sm, hd⟩
    obtain ⟨g, hg, q, rfl, hqT⟩ : ∃ g, x.gs[t]? = some g ∧ FrmAt K H y (some g) := by
      have hlt : t < x.gs.length := by have := (List.getElem?_eq_some_iff.mp hy).1; omega
      obtain ⟨v, h1, h2⟩ := Shp.paired_get g2 (List.getElem?_eq_getElem hlt)
      rw [hy] at h1; cases h1
      exact ⟨_, List.getElem?_eq_getElem hlt, h2⟩
    refine ⟨rfl, _, rfl, _, rfl, A, x, q, g, rfl, hT.same sm, same_seqT sm hqT, hz, fun H2 sm2 => ?_⟩
    refine ⟨_, sm2 _ _ hd, small_lt (m := 10000) (by rw [List.length_map, List.length_take]; omega), same_old (sm.trans sm2) hD, ?_⟩
    rw [upd_same, take_more0 hg, List.map_append]; rfl
  · rintro H' ⟨sm, hd⟩
    rw [hul, List.take_length] at hd
    refine ⟨_, rfl, D, rfl, ⟨_, SqL.of hd⟩, fun D2 hD2 => ?_⟩
    refine lc_list (K := K) (a := D) (xs := x.gs.map fun g => optV (Vapcmb.firstAsGeneral x.fs g)) (fun t H2 => Same H' H2 ∧ H2 D2 = some (.lst (nvs ((x.gs.take t).filterMap fun g => Vapcmb.firstAsGeneral x.fs g)))) ⟨same_new hD2, upd_same⟩ (fun t H2 _ e => SqL.of (e.1 _ _ hd)) ?_ ?_
    · rintro t y H2 hy ⟨sm2, hd2⟩
      obtain ⟨g, hg, rfl⟩ : ∃ g, x.gs[t]? = some g ∧ y = optV (Vapcmb.firstAsGeneral x.fs g) := by
        simp only [List.getElem?_map, Option.map_eq_some_iff] at hy
        obtain ⟨g, h1, h2⟩ := hy
        exact ⟨g, h1, h2.symm⟩
      refine ⟨rfl, _, rfl, rfl, _, rfl, ?_⟩
      cases c : Vapcmb.firstAsGeneral x.fs g with
      | none =>
        refine iteF rfl ?_
        refine ⟨sm2, ?_⟩
        rw [hd2, take_more0 hg, List.filterMap_append]
        simp [c]
      | some i =>
        refine iteT rfl ?_
        refine ⟨_, rfl, _, hd2, small_lt (m := 10000) ?_, same_old sm2 hD2, ?_⟩
        · rw [nvs_len]
          refine Nat.le_trans (List.length_filterMap_le _ _) ?_
          rw [List.length_take]; omega
        · rw [upd_same, take_more0 hg, List.filterMap_append]
          simp [c, nvs, optV]
    · rintro H2 ⟨sm2, hd2⟩
      rw [List.length_map, List.take_length] at hd2
      exact hq D2 H2 (sm.trans sm2) hd2
end
end Shp
end
section
set_option maxRecDepth 100000
set_option maxHeartbeats 4000000
namespace Shp
open PySem PySem.Spec PyProof.Rows L2
open Vapcma (Form Text_ Axiom)
/-- what an item hangs on -/
inductive Hang (ss : List Src) : Nat → Nat → Prop
  | refl (k : Nat) : Hang ss k k
  | left {k i j m : Nat} : ss[k]? = some (some (i, j)) → Hang ss i m → Hang ss k m
  | right {k i j m : Nat} : ss[k]? = some (some (i, j)) → Hang ss j m → Hang ss k m
structure WfS (ss : List Src) (ax : Nat) : Prop where
  lo : ∀ k, k < ax → ss[k]? = some none
  rows : ∀ k x, ss[k]? = some (some x) → ax ≤ k ∧ x.1 < k ∧ x.2 < k
  le : ax ≤ ss.length
  rest : ∀ k, ax ≤ k → k < ss.length → ∃ x, ss[k]? = some (some x)
theorem tx_at_ax (t : Text_) {k : Nat} (h : k < t.axioms.length) : (txOf t).ss[k]? = some none := by
  show (t.axioms.map _ ++ t.rows.map _)[k]? = _
  rw [List.getElem?_append_left (by simpa using h), List.getElem?_map, List.getElem?_eq_getElem h]; rfl
theorem tx_at_row (t : Text_) (n : Nat) : (txOf t).ss[t.axioms.length + n]? = (t.rows[n]?).map fun r => some (r.i, r.j) := by
  show (t.axioms.map _ ++ t.rows.map _)[t.axioms.length + n]? = _
  rw [List.getElem?_append_right (by simp), List.getElem?_map, List.length_map, Nat.add_sub_cancel_left]
theorem tx_row_at (t : Text_) {k : Nat} {x : Nat × Nat} (h : (txOf t).ss[k]? = some (some x)) : ∃ n r, k = t.axioms.length + n ∧ t.rows[n]? = some r ∧ x = (r.i, r.j) := by
  by_cases c : k < t.axioms.length
  · rw [tx_at_ax t c] at h; cases h
  · obtain ⟨n, rfl⟩ : ∃ n, k = t.axioms.length + n := ⟨k - t.axioms.length, by omega⟩
    rw [tx_at_row] at h
    cases hr : t.rows[n]? with
    | none => rw [hr] at h; cases h
    | some r => rw [hr] at h; cases h; exact ⟨n, r, rfl, hr, rfl⟩
theorem TOk.wf {t : Text_} (h : TOk t) : WfS (txOf t).ss t.axioms.length := by
  refine ⟨fun k hk => tx_at_ax t hk, fun k x hx => ?_, by rw [tx_ss]; omega, fun k h1 h2 => ?_⟩
  · obtain ⟨n, r, rfl, hr, rfl⟩ := tx_row_at t hx
    have := h.rw n r hr
    exact ⟨by omega, this.1, this.2.1⟩
  · rw [tx_ss] at h2
    obtain ⟨n, rfl⟩ : ∃ n, k = t.axioms.length + n := ⟨k - t.axioms.length, by omega⟩
    rw [tx_at_row, List.getElem?_eq_getElem (by omega)]
    exact ⟨_, rfl⟩
theorem Hang.le {ss : List Src} {ax : Nat} (w : WfS ss ax) {i k : Nat} (h : Hang ss i k) : k ≤ i := by
  induction h with
  | refl k => exact Nat.le_refl _
  | left e _ ih => have := (w.rows _ _ e).2.1; dsimp at this; omega
  | right e _ ih => have := (w.rows _ _ e).2.2; dsimp at this; omega
theorem needs_sub (t : Text_) : ∀ (n : Nat) (l : List Nat) (k : Nat), k ∈ Vapcma.needsBy t n l → ∃ x ∈ l, Hang (txOf t).ss x k
  | 0, l, k, h => ⟨k, h, .refl _⟩
  | n + 1, l, k, h => by
    unfold Vapcma.needsBy at h
    cases hr : t.rows[n]? with
    | none => rw [hr] at h; exact needs_sub t n l k h
    | some r =>
      rw [hr] at h
      dsimp only at h
      by_cases c : l.contains (t.axioms.length + n) = true
      · rw [if_pos c] at h
        obtain ⟨x, hx, hh⟩ := needs_sub t n _ k h
        have e : (txOf t).ss[t.axioms.length + n]? = some (some (r.i, r.j)) := by rw [tx_at_row, hr]; rfl
        have hm : t.axioms.length + n ∈ l := by simpa using c
        rcases List.mem_append.mp hx with hx | hx
        · exact ⟨x, hx, hh⟩
        · simp only [List.mem_cons, List.not_mem_nil, or_false] at hx
          rcases hx with rfl | rfl
          · exact ⟨_, hm, .left e hh⟩
          · exact ⟨_, hm, .right e hh⟩
      · rw [if_neg c] at h
        exact needs_sub t n l k h
theorem needs_sup {t : Text_} (ok : TOk t) : ∀ (n : Nat) (l : List Nat), (∀ m r, n ≤ m → t.rows[m]? = some r → t.axioms.length + m ∈ l → r.i ∈ l ∧ r.j ∈ l) →
    (∀ x ∈ l, x ∈ Vapcma.needsBy t n l) ∧ ∀ m r, t.rows[m]? = some r → t.axioms.length + m ∈ Vapcma.needsBy t n l → r.i ∈ Vapcma.needsBy t n l ∧ r.j ∈ Vapcma.needsBy t n l
  | 0, l, h => ⟨fun _ h => h, fun m r hr hm => h m r (Nat.zero_le _) hr hm⟩
  | n + 1, l, h => by
    unfold Vapcma.needsBy
    cases hr : t.rows[n]? with
    | none =>
      refine needs_sup ok n l fun m r hm hmr => h m r ?_ hmr
      have : m ≠ n := by rintro rfl; rw [hr] at hmr; cases hmr
      omega
    | some r =>
      dsimp only
      by_cases c : l.contains (t.axioms.length + n) = true
      · rw [if_pos c]
        have ih := needs_sup ok n (l ++ [r.i, r.j]) fun m r' hm hmr hin => by
          by_cases e : m = n
          · subst e; rw [hr] at hmr; cases hmr; simp
          · have hlt := ok.rw n r hr
            have : t.axioms.length + m ∈ l := by
              rcases List.mem_append.mp hin with q | q
              · exact q
              · simp only [List.mem_cons, List.not_mem_nil, or_false] at q
                omega
            have := h m r' (by omega) hmr this
            exact ⟨List.mem_append_left _ this.1, List.mem_append_left _ this.2⟩
        exact ⟨fun x hx => ih.1 x (List.mem_append_left _ hx), ih.2⟩
      · rw [if_neg c]
        refine needs_sup ok n l fun m r' hm hmr hin => ?_
        by_cases e : m = n
        · subst e; exact absurd (by simpa using hin) c
        · exact h m r' (by omega) hmr hin
theorem hang_closed {ss : List Src} {S : Nat → Prop} (cl : ∀ k i j, ss[k]? = some (some (i, j)) → S k → S i ∧ S j) {x k : Nat} (h : Hang ss x k) : S x → S k := by
  induction h with
  | refl k => exact id
  | left e _ ih => exact fun hs => ih (cl _ _ _ e hs).1
  | right e _ ih => exact fun hs => ih (cl _ _ _ e hs).2
theorem needs_iff {t : Text_} (ok : TOk t) {i k : Nat} (hi : i < Vapcma.count t) : k ∈ Vapcma.needs t i ↔ Hang (txOf t).ss i k := by
  have hd : Vapcma.needs t i = (List.range (Vapcma.count t)).filter fun k => (Vapcma.needsBy t t.rows.length [i]).contains k := rfl
  rw [hd, List.mem_filter]
  constructor
  · rintro ⟨_, h⟩
    obtain ⟨x, hx, hh⟩ := needs_sub t _ _ k (by simpa using h)
    rw [List.mem_singleton] at hx
    subst hx; exact hh
  · intro h
    refine ⟨by have := h.le ok.wf; simp; omega, ?_⟩
    have cl := needs_sup ok t.rows.length [i] fun m r hm hr => by rw [List.getElem?_eq_none hm] at hr; cases hr
    have := hang_closed (S := fun y => y ∈ Vapcma.needsBy t t.rows.length [i]) (fun k i' j' e hS => by
      obtain ⟨n, r, rfl, hr, e2⟩ := tx_row_at t e
      cases e2
      exact cl.2 n r hr hS) h (cl.1 i (by simp))
    simpa using this
theorem needed_iff {t : Text_} (ok : TOk t) {is : List Nat} (his : ∀ i ∈ is, i < Vapcma.count t) {k : Nat} : k ∈ Vapcmb.neededRows t is ↔ t.axioms.length ≤ k ∧ ∃ i ∈ is, Hang (txOf t).ss i k := by
  have hd : Vapcmb.neededRows t is = (List.range (Vapcma.count t)).filter fun k => decide (t.axioms.length ≤ k) && is.any fun i => (Vapcma.needs t i).contains k := rfl
  rw [hd, List.mem_filter]
  simp only [Bool.and_eq_true, decide_eq_true_eq, List.any_eq_true, List.contains_iff_mem, List.mem_range]
  constructor
  · rintro ⟨_, h1, i, hi, h2⟩
    exact ⟨h1, i, hi, (needs_iff ok (his i hi)).mp h2⟩
  · rintro ⟨h1, i, hi, h2⟩
    have := h2.le ok.wf
    have := his i hi
    exact ⟨by omega, h1, i, hi, (needs_iff ok (his i hi)).mpr h2⟩
/-! the walk that gathers them -/
structure Dfs (ss : List Src) (items N W : List Nat) : Prop where
  nd : N.Nodup
  row : ∀ k ∈ N, ∃ x, ss[k]? = some (some x)
  so : ∀ k, k ∈ N ∨ k ∈ W → k < ss.length ∧ ∃ i ∈ items, Hang ss i k
  cl : ∀ k ∈ N, ∀ x, ss[k]? = some (some x) → ∀ y ∈ [x.1, x.2], y ∈ N ∨ y ∈ W ∨ ss[y]? = some none
  it : ∀ i ∈ items, i ∈ N ∨ i ∈ W ∨ ss[i]? = some none
theorem Dfs.start {ss : List Src} {items : List Nat} (h : ∀ i ∈ items, i < ss.length) : Dfs ss items [] items :=
  ⟨List.nodup_nil, fun _ h => (nomatch h), fun k hk => ⟨h k (by simpa using hk), k, by simpa using hk, .refl _⟩, fun _ h => (nomatch h), fun i hi => .inr (.inl hi)⟩
theorem Dfs.skip {ss : List Src} {items N W : List Nat} {k : Nat} (h : Dfs ss items N (W ++ [k])) (c : ss[k]? = some none ∨ k ∈ N) : Dfs ss items N W := by
  have key : ∀ y, y ∈ N ∨ y ∈ W ++ [k] ∨ ss[y]? = some none → y ∈ N ∨ y ∈ W ∨ ss[y]? = some none := fun y q => by
    rcases q with q | q | q
    · exact .inl q
    · rcases List.mem_append.mp q with q | q
      · exact .inr (.inl q)
      · rw [List.mem_singleton] at q
        subst q
        rcases c with c | c
        · exact .inr (.inr c)
        · exact .inl c
    · exact .inr (.inr q)
  exact ⟨h.nd, h.row, fun k q => h.so k (q.imp id (List.mem_append_left _)), fun k hk x hx y hy => key y (h.cl k hk x hx y hy), fun i hi => key i (h.it i hi)⟩
theorem Hang.snoc {ss : List Src} {i k m : Nat} (h : Hang ss i k) (g : Hang ss k m) : Hang ss i m := by
  induction h with
  | refl k => exact g
  | left e _ ih => exact .left e (ih g)
  | right e _ ih => exact .right e (ih g)
theorem Dfs.add {ss : List Src} {ax : Nat} (w : WfS ss ax) {items N W : List Nat} {k : Nat} {x : Nat × Nat} (h : Dfs ss items N (W ++ [k])) (e : ss[k]? = some (some x)) (n : k ∉ N) : Dfs ss items (N ++ [k]) (W ++ [x.1, x.2]) := by
  have hk := h.so k (.inr (by simp))
  have hw := w.rows k x e
  have key : ∀ y, y ∈ N ∨ y ∈ W ++ [k] ∨ ss[y]? = some none → y ∈ N ++ [k] ∨ y ∈ W ++ [x.1, x.2] ∨ ss[y]? = some none := fun y q => by
    rcases q with q | q | q
    · exact .inl (List.mem_append_left _ q)
    · rcases List.mem_append.mp q with q | q
      · exact .inr (.inl (List.mem_append_left _ q))
      · exact .inl (List.mem_append_right _ q)
    · exact .inr (.inr q)
  obtain ⟨i, hi, hh⟩ := hk.2
  refine ⟨?_, ?_, ?_, ?_, fun i hi => key i (h.it i hi)⟩
  · rw [List.nodup_append]
    exact ⟨h.nd, by simp, fun a ha b hb => by rw [List.mem_singleton] at hb; rw [hb]; rintro rfl; exact n ha⟩
  · intro y hy
    rcases List.mem_append.mp hy with hy | hy
    · exact h.row y hy
    · rw [List.mem_singleton] at hy; subst hy; exact ⟨x, e⟩
  · intro y hy
    have hlt := hk.1
    rcases hy with hy | hy
    · rcases List.mem_append.mp hy with hy | hy
      · exact h.so y (.inl hy)
      · rw [List.mem_singleton] at hy; subst hy; exact hk
    · rcases List.mem_append.mp hy with hy | hy
      · exact h.so y (.inr (List.mem_append_left _ hy))
      · simp only [List.mem_cons, List.not_mem_nil, or_false] at hy
        rcases hy with rfl | rfl
        · exact ⟨by omega, i, hi, hh.snoc (.left e (.refl _))⟩
        · exact ⟨by omega, i, hi, hh.snoc (.right e (.refl _))⟩
  · intro y hy z hz u hu
    rcases List.mem_append.mp hy with hy | hy
    · exact key u (h.cl y hy z hz u hu)
    · rw [List.mem_singleton] at hy
      subst hy
      rw [e] at hz
      cases hz
      exact .inr (.inl (List.mem_append_right _ hu))
theorem Dfs.done {ss : List Src} {items N : List Nat} (h : Dfs ss items N []) {m : Nat} : m ∈ N ↔ (∃ x, ss[m]? = some (some x)) ∧ ∃ i ∈ items, Hang ss i m := by
  constructor
  · exact fun hm => ⟨h.row m hm, (h.so m (.inl hm)).2⟩
  · rintro ⟨⟨x, hx⟩, i, hi, hh⟩
    have fin : ∀ y, y ∈ N ∨ y ∈ [] ∨ ss[y]? = some none → y ∈ N ∨ ss[y]? = some none := fun y q => q.imp id fun z => by
      rcases z with z | z
      · cases z
      · exact z
    have := hang_closed (S := fun y => y ∈ N ∨ ss[y]? = some none) (fun k i' j' e hS => by
      rcases hS with q | q
      · exact ⟨fin _ (h.cl k q _ e _ (by simp)), fin _ (h.cl k q _ e _ (by simp))⟩
      · rw [e] at q; cases q) hh (fin i (h.it i hi))
    rcases this with q | q
    · exact q
    · rw [hx] at q; cases q
theorem needed_sorted {t : Text_} (ok : TOk t) {is N : List Nat} (his : ∀ i ∈ is, i < Vapcma.count t) (h : Dfs (txOf t).ss is N []) {ys : List Int} (p : ys.Perm (N.map fun (n : Nat) => (n : Int))) (q : ys.Pairwise (· ≤ ·)) :
    ys = (Vapcmb.neededRows t is).map fun (n : Nat) => (n : Int) := by
  have hp : N.Perm (Vapcmb.neededRows t is) := by
    rw [List.perm_ext_iff_of_nodup h.nd]
    · intro m
      rw [h.done, needed_iff ok his]
      constructor
      · rintro ⟨⟨x, hx⟩, r⟩
        exact ⟨(ok.wf.rows m x hx).1, r⟩
      · rintro ⟨h1, i, hi, hh⟩
        refine ⟨ok.wf.rest m h1 ?_, i, hi, hh⟩
        have := hh.le ok.wf
        have := his i hi
        rw [tx_ss]
        unfold Vapcma.count at this
        omega
    · exact List.Pairwise.imp (fun h => Nat.ne_of_lt h) (List.Pairwise.filter _ List.pairwise_lt_range)
  refine List.Perm.eq_of_pairwise (le := fun a b : Int => a ≤ b) (fun a b _ _ h1 h2 => Int.le_antisymm h1 h2) q ?_ (p.trans (hp.map _))
  rw [List.pairwise_map]
  exact List.Pairwise.imp (fun h => by omega) (List.Pairwise.filter _ List.pairwise_lt_range)
end Shp
end
section
set_option maxRecDepth 100000
set_option maxHeartbeats 4000000
namespace Shp
open PySem PySem.Spec PyProof.Rows L2
/-- sorted(d.keys()), the keys ints -/
def tSortK (td : TE) : TE := fun σ H Q => td σ H fun x H1 => ∃ (a : Addr) (kvs : List (L2.Key × V)) (ks : List Int), x = .ref a ∧ H1 a = some (.dK kvs) ∧ kvs.map (·.1) = ks.map Sum.inl ∧ ks.length < 64 ∧
  ∀ (ys : List Int) (p : Addr), ys.Perm ks → ys.Pairwise (· ≤ ·) → H1 p = none → Q (.ref p) (upd H1 p (.lst (ys.map V.int)))
section
variable {X : Cx} {o : Expr} {td : TE} {apos cpos p pos : Pos}
theorem pe_sortk (hcalm : X.calm = true) (hg : Gl X "sorted") (hm : X.mg "sorted" = none) (ho : PE X o td)
    (hbase : attributeBase o "keys" X.env (eval o X.env) = eval o X.env := by rfl) (hline : (apos.endLine == cpos.line) = true := by rfl)
    (he : starEach [.Call (.Attribute o "keys" apos) [] [] cpos] X.env = [(false, eval (.Call (.Attribute o "keys" apos) [] [] cpos) X.env)] := by rfl) :
    PE X (.Call (.Name "sorted" p) [.Call (.Attribute o "keys" apos) [] [] cpos] [] pos) (tSortK td) := by
  refine ⟨fun pins s σ H Q I h => ?_⟩
  refine wpAny_Call_Name_kw (ld_blt I hg hm PyProof.Rows.boot_sorted ?_ (by decide) (by decide))
  refine PyProof.Rows.callWith_builtin1 ?_ he rfl
  rw [he]
  show wpAny _ _ (spliced [(false, eval (.Call (.Attribute o "keys" apos) [] [] cpos) X.env)]) _ _ s
  refine Calls.spliced_cons ?_
  refine wpAny_Call_method (T := "dict") (id := "dict.keys") hbase rfl hline PySem.F.plainAttrs_dict PySem.F.slot_dict_keys PySem.F.type_dict_keys (thn (ho.run pins s σ H _ I h) fun u s1 ⟨x, H1, I1, rx, a, kvs, ks, ex, hd, hks, h64, q⟩ => ?_)
  subst ex
  obtain rfl : u = Value.ref a := rx
  obtain ⟨t1, t2, hs⟩ := isD_at I1 (.inl ⟨kvs, .inl hd⟩)
  obtain ⟨z, lo, vs, rel, dd⟩ := dk_rd I1.hok (.inl hd)
  obtain ⟨ep, hat⟩ := dd.dictAt
  refine ⟨t1, t2, ?_⟩
  have hkeys : vs.map (·.1) = ks.map Sum.inl := rel.keys.symm.trans hks
  have hl : vs.length = ks.length := by
    have e := congrArg List.length hkeys
    rw [List.length_map, List.length_map] at e
    exact e
  have h16 : vs.length ≤ sizeLine := by rw [hl, sizeLine_eq]; omega
  show wpAny _ _ (callWith cpos (.builtin "dict.keys") [.ref a] [] []) _ X.xe s1
  refine method_meetsIn PySem.F.slot_dict_keys PySem.F.entry_dict_keys rfl (PySem.evalArgs_none ⟨rfl, t1, PySem.F.args_dict_keys_1 _, _, PySem.W.kdl_meets_keys (mixKind X.prog X.w) a hs, ⟨vs, hat.dictOf⟩, ?_⟩)
  refine Calls.spliced_nil ?_
  have I2 : Inv X pins σ H1 { s1 with heap := s1.heap.push { cls := .type "dict_keys", data := .fields #[.ref a] } } := I1.kept (t' := s1.toks) fun b ob q => Heap.get?_push_of_some _ q
  have view : PySem.W.KdlKeysView (s1.heap.push { cls := .type "dict_keys", data := .fields #[.ref a] }) s1.heap.objs.size a := ⟨_, Heap.get?_push_size _ rfl, rfl, rfl⟩
  have hat2 := hat.push { cls := .type "dict_keys", data := .fields #[.ref a] }
  generalize s1.heap.objs.size = v at *
  generalize s1.heap.push { cls := .type "dict_keys", data := .fields #[.ref a] } = hp2 at *
  have hh : X.A.handled = none := I1.ok.hd hcalm
  refine Calls.call_function_entry PyProof.Rows.kind_sorted PyProof.Rows.plain_sorted PyProof.Rows.entry_sorted (PyProof.Rows.args_sorted1 _) ?_
  unfold Builtin.«sorted»
  refine wpAny_bind (m := checkCount "sorted" 1 1 _) (wpAny_pure ?_)
  refine wpAny_bind (PySem.W.kdu_collect (A := X.A.in1) (PySem.W.kdl_keys (knd := mixKind X.prog X.w) (r := v) (kvs := vs) (ep := ep)) hh ⟨view, hat2⟩ h16 fun h' tk acc hk hacc => ?_)
  have hal : acc.toList.length = ks.length := by rw [Array.length_toList, hacc.1, hl]
  have hS : IntsAre acc.toList ks := ints_each hal fun j y e => by
    obtain ⟨kk, xx, e1, e2⟩ := hacc.2 j y (by rw [← Array.getElem?_toList]; exact e)
    have e3 : (vs.map (·.1))[j]? = some kk := by rw [List.getElem?_map, e1]; rfl
    rw [hkeys, List.getElem?_map] at e3
    cases e4 : ks[j]? with
    | none => rw [e4] at e3; cases e3
    | some n =>
      rw [e4] at e3
      obtain rfl : Sum.inl n = kk := Option.some.inj e3
      rcases keyIs_shape (show keyIs (Sum.inl n) y = true from e2) with ⟨i, t, ek, ev⟩ | ⟨c, t, ek, ev⟩ <;> cases ek
      exact ⟨n, t, rfl, ev⟩
  have I3 : Inv X pins σ H1 { s1 with heap := h', toks := tk } := I2.kept (t' := tk) hk
  have hoL : (h'.push (seqObj "list" acc.toList.toArray 0)).get? h'.objs.size = some (seqObj "list" acc.toList.toArray 0) := Heap.get?_push_size _ rfl
  refine wpAny_bind (wpAny_newList ?_ (by rw [hal, sizeLine_eq]; omega))
  show wpAny _ _ _ _ _ { s1 with heap := h'.push (seqObj "list" acc.toList.toArray 0), toks := tk }
  refine wpAny_bind (wpAny_holding (wpAny_call_entry PyProof.Rows.slot_list_sort ⟨_, hoL, rfl⟩ PyProof.Rows.entry_list_sort
    (PyProof.Rows.list_sort_tree (s := { s1 with heap := h'.push (seqObj "list" acc.toList.toArray 0), toks := tk }) hoL hS (by rw [hal]; exact h64) fun out ys g1 g2 g3 => ⟨_, rfl, ?_⟩) (PyProof.Rows.args_list_sort _)))
  obtain ⟨e', he'⟩ := PyProof.Rows.sortedHeap_at (vs := acc.toList) (out := out) hoL
  have hlen : (ys.map V.int).length ≤ sizeLine := by
    rw [List.length_map, g2.length_eq, sizeLine_eq]; omega
  have okL : ObjOk X.prog X.w (upd H1 h'.objs.size (.lst (ys.map V.int))) _ h'.objs.size (.lst (ys.map V.int)) := ⟨hlen, out.toList, e', vals_of_ints g1, by rw [Array.toArray_toList]; exact he'⟩
  refine wpAny_pure ⟨_, rfl, .ref h'.objs.size, _, I3.laid (t' := tk) (fun b u e => ?_) (Nat.le_refl _) okL, rfl, q ys _ g2 g3 (I3.hok.fresh (Nat.le_refl _))⟩
  have hb : b < h'.objs.size := Heap.lt_size e
  rw [PyProof.Rows.sortedHeap_old (Nat.ne_of_lt hb) (by rw [size_push']; exact Nat.lt_succ_of_lt hb)]
  exact Heap.get?_push_of_some _ e
end
end Shp
end
section
set_option maxRecDepth 100000
set_option maxHeartbeats 4000000
namespace Shp
open PySem PySem.Spec PyProof.Rows L2
open Vapcma (Form Text_ Axiom)
section
variable {P : Program} {w : World} {K : PySem.W.Frag} {mg : Str → Option Value} {base : Heap}
def tkv (N : List Nat) : List (L2.Key × V) := N.map fun (k : Nat) => (.inl (k : Int), .bl true)
theorem tkv_val (N : List Nat) (k : Nat) : valV (tkv N) (.inl (k : Int)) = if k ∈ N then some (.bl true) else none := by
  induction N with
  | nil => rfl
  | cons m r ih =>
    by_cases c : m = k
    · subst c
      rw [if_pos (by simp), show tkv (m :: r) = (.inl (m : Int), .bl true) :: tkv r from rfl, valV_pos rfl]
    · rw [show tkv (m :: r) = (.inl (m : Int), .bl true) :: tkv r from rfl, valV_neg (by intro e; have := Sum.inl.inj e; omega), ih]
      have : k ∈ m :: r ↔ k ∈ r := by rw [List.mem_cons]; exact ⟨fun h => h.elim (fun e => absurd e.symm c) id, .inr⟩
      simp [this]
theorem tkv_put {N : List Nat} {k : Nat} (h : k ∉ N) : putK (tkv N) (.inl (k : Int)) (.bl true) = tkv (N ++ [k]) := by
  unfold putK
  rw [valV_any, tkv_val, if_neg h]
  show tkv N ++ [(Sum.inl (k : Int), V.bl true)] = _
  simp [tkv]
def sp_needed_rows (T : Top K mg) : Sp := fun vs H Q _ => ∃ (A : TA) (t : Text_) (l : Addr) (is : List Nat),
  vs = [.ref A.a, .ref l] ∧ TAt K T.C_Text H A (txOf t) ∧ TOk t ∧ SqL K H l (nvs is) ∧ is.length ≤ 2000 ∧ (∀ i ∈ is, i < Vapcma.count t) ∧
  ∀ (p : Addr) (H' : Hp), Same H H' → H' p = some (.lst (nvs (Vapcmb.neededRows t is))) → Q (.ref p) H'
theorem ok_needed_rows (T : Top K mg) : FnOk P w K mg base CX0 1 T.d_needed_rows.f T.d_needed_rows.fd P_needed_rows (sp_needed_rows T) := by
  refine T.d_needed_rows.F.ok sc_needed_rows (fun vs H Q E h => by obtain ⟨_, _, _, _, rfl, _⟩ := h; rfl) (fun cdv A outer s H vs Q E hr h => ?_)
  refine ⟨_, (pss_cons (ps_set (i := 2) sc_needed_rows.nd rfl (Or.inl rfl) pe_dnewK)
    (pss_cons (ps_set (i := 3) sc_needed_rows.nd rfl (Or.inl rfl) (pe_callTy call_list_of (by rfl) T.b_list (by decide +kernel) (pa_cons (pv 1) pa_nil)))
    (pss_cons (ps_while PassesOwn.never (pt_cmpR op_gt (pe_callB call_len (by rfl) T.b_len PySem.boot_len (pa_cons (pv 3) pa_nil)) pe_int (nomark _)) (pss_cons (ps_set (i := 4) sc_needed_rows.nd rfl (Or.inl rfl) (pe_bm0 PySem.F.plainAttrs_list PySem.F.slot_list_pop PySem.F.type_list_pop mt_pop (pv 3)))
      (pss_one (ps_if (PW.pt (pw_and (pt_cmpR op_notN (pe_ix ix_list (pe_fld (pv 0) rfl) (pv 4) (fun _ _ => rfl)) pe_non (nomark _)) (pw_and1 (pt_cmp (pc_dnotin (hu_of hr) (pv 4) (pv 2)))))) (pss_cons (ps_dput (hu_of hr) (pv 2) (pv 4) pe_bl rfl)
        (pss_one (ps_expr (pe_bm PySem.F.plainAttrs_list PySem.F.slot_list_extend PySem.F.type_list_extend mt_extT (pv 3) (pa_cons (pe_ix ix_list (pe_fld (pv 0) rfl) (pv 4) (fun _ _ => rfl)) pa_nil))))) pss_nil))))
    (pss_one (ps_ret (pe_sortk rfl (by rfl) T.b_sorted (pv 2))))))), ?_⟩
  obtain ⟨A, t, l, is, rfl, hT, hok, hl, hz, his, hq⟩ := h
  obtain ⟨vs, s1, s2⟩ := hT.s
  have hvl := s2.length
  have hss := tx_ss t
  have hwf := hok.wf
  have hna := hok.na
  have hnr := hok.nr
  intro d hd
  refine ⟨_, rfl, l, _, rfl, .inl (same_seqL (same_new hd) hl), fun L hL => ?_⟩
  have sm0 : Same H (upd (upd H d (.dK [])) L (.lst (nvs is))) := (same_new hd).trans (same_new hL)
  have dL : d ≠ L := fun e => by rw [e, upd_same] at hL; cases hL
  have hL0 : H L = none := (same_new hd).free hL
  refine ⟨fun m σ H' => ∃ (N W : List Nat) (v4 : Option V), m = 3 * ((txOf t).ss.length - N.length) + W.length ∧ σ = [some (.ref A.a), some (.ref l), some (.ref d), some (.ref L), v4] ∧ Same H H' ∧
      H' d = some (.dK (tkv N)) ∧ H' L = some (.lst (nvs W)) ∧ Dfs (txOf t).ss is N W ∧ N.length ≤ (txOf t).ss.length ∧ W.length ≤ is.length + 2 * N.length,
    ⟨_, [], is, none, rfl, rfl, sm0, by rw [upd_ne dL, upd_same]; rfl, upd_same, Dfs.start (fun i hi => by rw [hss]; exact his i hi), Nat.zero_le _, by simp⟩, ?_⟩
  rintro m σ H' ⟨N, W, v4, rfl, rfl, sm, hd', hL', D, hN, hW⟩
  refine ⟨_, rfl, _, _, rfl, .inl ⟨_, SqL.of hL', rfl⟩, _, _, rfl, rfl, _, rfl, ?_⟩
  rw [nvs_len]
  rcases List.eq_nil_or_concat W with rfl | ⟨W, k, rfl⟩
  · refine iteF rfl ?_
    have hkeys : (tkv N).map (·.1) = (N.map fun (n : Nat) => (n : Int)).map Sum.inl := by simp [tkv]
    refine ⟨_, rfl, d, _, _, rfl, hd', hkeys, by rw [List.length_map]; omega, fun ys p hp hs hfree => ?_⟩
    rw [needed_sorted hok his D hp hs]
    refine hq p _ (same_newer sm hfree) ?_
    rw [upd_same]
    simp [nvs]
  · rw [List.concat_eq_append] at hL' D hW ⊢
    refine iteT (by simp) ?_
    refine ⟨_, fun _ _ h => h, ?_⟩
    have hlast : (nvs (W ++ [k]))[(nvs (W ++ [k])).length - 1]? = some (.int (k : Int)) := by
      rw [nvs_len]; exact nvs_get (by simp)
    have hdrop : (nvs (W ++ [k])).dropLast = nvs W := by rw [nvs_app]; show (nvs W ++ [_]).dropLast = _; rw [List.dropLast_concat]
    refine ⟨_, rfl, tyL hL', L, _, _, rfl, rfl, hL', hlast, ?_⟩
    rw [hdrop]
    have sm2 : Same H (upd H' L (.lst (nvs W))) := same_old sm hL0
    have hd2 : (upd H' L (.lst (nvs W))) d = some (.dK (tkv N)) := by rw [upd_ne dL]; exact hd'
    have hL2 : (upd H' L (.lst (nvs W))) L = some (.lst (nvs W)) := upd_same
    generalize upd H' L (.lst (nvs W)) = H2 at *
    have hT2 := hT.same sm2
    obtain ⟨vs2, s3, s4⟩ := hT2.s
    have hklt := (D.so k (.inr (by simp))).1
    obtain ⟨v, hv1, hv2⟩ := Shp.paired_get s4 (List.getElem?_eq_getElem hklt)
    refine ⟨_, rfl, A.a, _, A.dx, _, _, rfl, hT2.o, T.cl_Text, T.n_Text_sources, tF_sources _, _, rfl, _, _, _, _, rfl, rfl, SqL.of s3, atI_nat' hv1, rfl, _, rfl, ?_⟩
    rw [List.length_append, List.length_singleton] at hW
    cases hsrc : (txOf t).ss[k] with
    | none =>
      rw [hsrc] at hv2
      have e3 : v = .non := hv2
      refine iteF (by simp [e3]) ?_
      refine ⟨_, ?_, N, W, _, rfl, rfl, sm2, hd2, hL2, D.skip (.inl (by rw [List.getElem?_eq_getElem hklt, hsrc])), hN, by omega⟩
      rw [List.length_append, List.length_singleton]; omega
    | some x =>
      rw [hsrc] at hv2
      obtain ⟨q, rfl, hqT⟩ := hv2
      refine iteT (by simp) ?_
      refine ⟨_, rfl, _, rfl, d, _, rfl, DGet.k (k := Sum.inl (k : Int)) hd2, ?_⟩
      rw [tkv_val]
      by_cases c : k ∈ N
      · rw [if_pos c]
        refine ⟨_, rfl, iteF rfl ?_⟩
        refine ⟨_, ?_, N, W, _, rfl, rfl, sm2, hd2, hL2, D.skip (.inr c), hN, by omega⟩
        rw [List.length_append, List.length_singleton]; omega
      · rw [if_neg c]
        refine ⟨_, rfl, iteT rfl ?_⟩
        have D2 := D.add hwf (by rw [List.getElem?_eq_getElem hklt, hsrc]) c
        have hN2 : (N ++ [k]).length ≤ (txOf t).ss.length := by
          have h1 : (N ++ [k]).length ≤ (List.range (txOf t).ss.length).length := D2.nd.length_le_of_subset fun y hy => by
            rw [List.mem_range]; exact (D2.so y (.inl hy)).1
          rwa [List.length_range] at h1
        rw [List.length_append, List.length_singleton] at hN2
        refine ⟨_, rfl, _, rfl, d, _, rfl, DPut.k (k := Sum.inl (k : Int)) hd2 (small_lt (m := 10000) (by rw [tkv, List.length_map]; omega)), ?_⟩
        rw [tkv_put c]
        have hd0 : H d = none := hd
        have sm3 : Same H (upd H2 d (.dK (tkv (N ++ [k])))) := same_old sm2 hd0
        have hL3 : (upd H2 d (.dK (tkv (N ++ [k])))) L = some (.lst (nvs W)) := by rw [upd_ne (Ne.symm dL)]; exact hL2
        have hd3 : (upd H2 d (.dK (tkv (N ++ [k])))) d = some (.dK (tkv (N ++ [k]))) := upd_same
        generalize upd H2 d (.dK (tkv (N ++ [k]))) = H3 at *
        have hT3 := hT.same sm3
        have s5 := sm3 _ _ s1
        obtain ⟨v2, hv3, hv4⟩ := Shp.paired_get s2 (List.getElem?_eq_getElem hklt)
        rw [hsrc] at hv4
        obtain ⟨q2, rfl, hq2⟩ := hv4
        refine ⟨_, rfl, tyL hL3, _, rfl, A.a, _, A.dx, _, _, rfl, hT3.o, T.cl_Text, T.n_Text_sources, tF_sources _, _, rfl, _, _, _, _, rfl, rfl, SqL.of s5, atI_nat' hv3, L, q2, _, _, rfl, rfl, hL3, same_seqT sm3 hq2, small_ok (m := 10000) (by rw [nvs_len]; show W.length + 2 ≤ _; omega), ?_⟩
        have eW : nvs W ++ [V.int (x.1 : Int), V.int (x.2 : Int)] = nvs (W ++ [x.1, x.2]) := by simp [nvs]
        rw [eW]
        refine ⟨_, ?_, N ++ [k], W ++ [x.1, x.2], _, rfl, rfl, same_old sm3 hL0, by rw [upd_ne dL]; exact hd3, upd_same, D2, by rw [List.length_append, List.length_singleton]; exact hN2, ?_⟩
        · simp only [List.length_append, List.length_cons, List.length_nil]; omega
        · simp only [List.length_append, List.length_cons, List.length_nil]; omega
end
end Shp
end
section
set_option maxRecDepth 100000
set_option maxHeartbeats 4000000
namespace Shp
open PySem PySem.Spec PyProof.Rows L2
open Vapcma (Form Text_ Axiom)
open VapcmBase (word)
open Vapcma (line)
section
variable {P : Program} {w : World} {K : PySem.W.Frag} {mg : Str → Option Value} {base : Heap}
/-! lists that grow by what stands in them -/
def grow {α β : Type} (g : List β → α → β) (rs : List α) (l : List β) : List β := rs.foldl (fun l r => l ++ [g l r]) l
theorem grow_app {α β : Type} (g : List β → α → β) (a b : List α) (l : List β) : grow g (a ++ b) l = grow g b (grow g a l) := List.foldl_append
theorem grow_len {α β : Type} (g : List β → α → β) : ∀ (rs : List α) (l : List β), (grow g rs l).length = l.length + rs.length
  | [], l => rfl
  | r :: rs, l => by
    show (grow g rs (l ++ [g l r])).length = _
    rw [grow_len g rs, List.length_append, List.length_singleton, List.length_cons]; omega
theorem grow_pre {α β : Type} (g : List β → α → β) : ∀ (rs : List α) (l : List β), ∃ q, grow g rs l = l ++ q
  | [], l => ⟨[], by simp [grow]⟩
  | r :: rs, l => by
    obtain ⟨q, h⟩ := grow_pre g rs (l ++ [g l r])
    exact ⟨g l r :: q, by show grow g rs (l ++ [g l r]) = _; rw [h]; simp⟩
theorem grow_at {α β : Type} (g : List β → α → β) {rs : List α} {l : List β} {n : Nat} {r : α} (h : rs[n]? = some r) : (grow g rs l)[l.length + n]? = some (g ((grow g rs l).take (l.length + n)) r) := by
  have hn := (List.getElem?_eq_some_iff.mp h).1
  have e : rs = rs.take n ++ r :: rs.drop (n + 1) := by
    rw [← drop_cons h, List.take_append_drop]
  obtain ⟨q, hq⟩ := grow_pre g (rs.drop (n + 1)) (grow g (rs.take n) l ++ [g (grow g (rs.take n) l) r])
  have e2 : grow g rs l = grow g (rs.take n) l ++ g (grow g (rs.take n) l) r :: q := by
    rw [e, grow_app]
    rw [← e]
    show grow g (rs.drop (n + 1)) (grow g (rs.take n) l ++ [_]) = _
    rw [hq]; simp
  have hl : (grow g (rs.take n) l).length = l.length + n := by rw [grow_len, List.length_take]; omega
  rw [e2]
  rw [List.getElem?_append_right (by omega), hl, Nat.sub_self, List.getElem?_cons_zero, List.take_left' hl]
def stepG (l : List (Nat × Nat)) (r : Vapcma.Row) : Nat × Nat := ((l.getD r.i (0, 0)).1 + (l.getD r.j (0, 0)).1 + 1, Nat.max (l.getD r.i (0, 0)).2 (l.getD r.j (0, 0)).2 + 1)
theorem sizes_grow (t : Text_) : Vapcma.treeSizes t = grow stepG t.rows (t.axioms.map fun _ => (0, 0)) := rfl
def stps (t : Text_) : List Nat := (Vapcma.treeSizes t).map (·.1)
theorem stps_len (t : Text_) : (stps t).length = t.axioms.length + t.rows.length := by
  unfold stps; rw [List.length_map, sizes_grow, grow_len, List.length_map]
theorem stps_ax (t : Text_) {k : Nat} (h : k < t.axioms.length) : (stps t)[k]? = some 0 := by
  unfold stps
  obtain ⟨q, hq⟩ := grow_pre stepG t.rows (t.axioms.map fun _ => (0, 0))
  rw [sizes_grow, hq, List.getElem?_map, List.getElem?_append_left (by simpa using h), List.getElem?_map, List.getElem?_eq_getElem h]; rfl
theorem stps_row {t : Text_} (ok : TOk t) {n : Nat} {r : Vapcma.Row} (h : t.rows[n]? = some r) : (stps t)[t.axioms.length + n]? = some ((stps t).getD r.i 0 + (stps t).getD r.j 0 + 1) := by
  have hr := ok.rw n r h
  have e := grow_at stepG (l := t.axioms.map fun _ => ((0, 0) : Nat × Nat)) h
  rw [List.length_map, ← sizes_grow] at e
  have g1 : ∀ k, k < t.axioms.length + n → (((Vapcma.treeSizes t).take (t.axioms.length + n)).getD k (0, 0)).1 = (stps t).getD k 0 := fun k hk => by
    unfold stps
    rw [List.getD_eq_getElem?_getD, List.getD_eq_getElem?_getD, List.getElem?_map, List.getElem?_take_of_lt hk]
    cases (Vapcma.treeSizes t)[k]? <;> rfl
  have e2 : (stps t)[t.axioms.length + n]? = some (stepG ((Vapcma.treeSizes t).take (t.axioms.length + n)) r).1 := by
    show ((Vapcma.treeSizes t).map (·.1))[_]? = _
    rw [List.getElem?_map, e]; rfl
  rw [e2]
  show some ((((Vapcma.treeSizes t).take (t.axioms.length + n)).getD r.i (0, 0)).1 + (((Vapcma.treeSizes t).take (t.axioms.length + n)).getD r.j (0, 0)).1 + 1) = _
  rw [g1 _ hr.1, g1 _ hr.2.1]
theorem find_first (fs : List (Option Form)) (n : Nat) (hn : n = fs.length) (g : Form) : ((List.range n).find? fun i => Vapcma.provesIn fs i g) = Vapcmb.firstAsGeneral fs g := by
  rw [first_eq]
  have hp : ∀ i (h : i < fs.length), Vapcma.provesIn fs i g = isIn g fs[i] := fun i h => by
    unfold Vapcma.provesIn isIn
    rw [List.getElem?_eq_getElem h]; rfl
  cases h : fs.findIdx? (isIn g) with
  | none =>
    rw [List.findIdx?_eq_none_iff] at h
    rw [List.find?_eq_none]
    intro i hi
    rw [List.mem_range] at hi
    rw [hp i (by omega), h _ (List.getElem_mem _)]
    exact Bool.false_ne_true
  | some k =>
    rw [List.findIdx?_eq_some_iff_getElem] at h
    obtain ⟨h1, h2, h3⟩ := h
    rw [List.find?_range_eq_some]
    refine ⟨by rw [hp k h1]; exact h2, by rw [List.mem_range]; omega, fun j hj => ?_⟩
    have := h3 j hj
    rw [hp j (by omega)]
    simpa using this
theorem tgt_eq (t : Text_) : tgt (txOf t) = Vapcmb.targetItems t := by
  unfold tgt Vapcmb.targetItems Vapcmb.targets
  rw [List.filterMap_map]
  congr 1
  funext g
  show _ = (List.range (Vapcma.count t)).find? _
  rw [find_first _ _ (by have := tx_fs t; exact this.symm)]
  rfl
theorem tgt_lt {x : Tx} {k : Nat} (h : k ∈ tgt x) : k < x.fs.length := by
  obtain ⟨g, _, h⟩ := List.mem_filterMap.mp h
  rw [first_eq, List.findIdx?_eq_some_iff_getElem] at h
  exact h.1
def sp_target_steps (T : Top K mg) : Sp := fun vs H Q _ => ∃ (A : TA) (t : Text_),
  vs = [.ref A.a] ∧ TAt K T.C_Text H A (txOf t) ∧ TOk t ∧ ∀ (H' : Hp), Same H H' → Q (.int (Vapcmb.treeTotal t : Int)) H'
theorem nvs_sum (l : List Nat) : (l.map fun (n : Nat) => (n : Int)).sum = ((l.sum : Nat) : Int) := by
  induction l with
  | nil => rfl
  | cons x r ih => rw [List.map_cons, List.sum_cons, List.sum_cons, ih]; omega
theorem TOk.sizes1000 {t : Text_} (h : TOk t) : ∀ f ∈ (txOf t).fs, ∀ z, f = some z → Vapcma.size z ≤ 1000 := fun f hf z hz => Nat.le_trans (h.sizes f hf z hz) (by decide)
theorem ok_target_steps (T : Top K mg) : FnOk P w K mg base CX0 5 T.d_target_steps.f T.d_target_steps.fd P_target_steps (sp_target_steps T) := by
  refine T.d_target_steps.F.ok sc_target_steps (fun vs H Q E h => by obtain ⟨_, _, rfl, _⟩ := h; rfl) (fun cdv A outer s H vs Q E hr h => ?_)
  refine ⟨_, (pss_cons (ps_set (i := 1) sc_target_steps.nd rfl (Or.inr rfl) (pe_lst pa_nil))
    (pss_cons (ps_for PassesOwn.never rfl (pi_list (pe_fld (pv 0) rfl)) (pg_name (i := 2) sc_target_steps.nd rfl (Or.inl rfl))
      (pss_one (ps_if (pt_cmpR op_isN (pv 2) pe_non (nomark _)) (pss_one (ps_expr (pe_bm PySem.F.plainAttrs_list PySem.F.slot_list_append PySem.F.type_list_append mt_append (pv 1) (pa_cons pe_int pa_nil)))) (pss_one (ps_expr (pe_bm PySem.F.plainAttrs_list PySem.F.slot_list_append PySem.F.type_list_append mt_append (pv 1) (pa_cons (pe_op op_add (pe_op op_add (pe_ix ix_list (pv 1) (pe_ix ix_tup (pv 2) pe_int (fun _ _ => rfl)) (fun _ _ => rfl)) (pe_ix ix_list (pv 1) (pe_ix ix_tup (pv 2) pe_int (fun _ _ => rfl)) (fun _ _ => rfl))) pe_int) pa_nil)))))))
    (pss_one (ps_ret (pe_callB (cr_sum rfl) (by rfl) T.b_sum (by decide +kernel) (pa_cons (pe_lc (own := [("target", 3)]) rfl sc_target_steps.nd (pi_list (pe_call (ok_targets T) (hr.mono (by decide)) rfl T.d_targets.mg T.d_targets.F.kp T.d_targets.b .nil pass0 (pa_cons (pv 0) pa_nil))) (blkOk_by (N := N_target_steps) (sc := defScope s_target_steps) (by decide +kernel)) (fun _ _ _ _ _ => (pg_name (i := 3) sc_target_steps.nd rfl (Or.inl rfl))) (fun _ _ _ _ _ => pts_nil) (fun _ _ _ _ _ => (pe_ix (r := rIxL K) ix_list (pv 1) (pv 3) (fun _ _ => rfl)))) pa_nil)))))), ?_⟩
  obtain ⟨A, t, rfl, hT, hok, hq⟩ := h
  obtain ⟨vs, s1, s2⟩ := hT.s
  have hvl := s2.length
  have hss := tx_ss t
  have hwf := hok.wf
  have hna := hok.na
  have hnr := hok.nr
  have hsl := stps_len t
  refine ⟨Nat.zero_le _, fun L hL => ?_⟩
  refine ⟨_, rfl, A.a, _, A.dx, _, _, rfl, same_new hL _ _ hT.o, T.cl_Text, T.n_Text_sources, tF_sources _, _, rfl, ⟨_, SqL.of (same_new hL _ _ s1)⟩, for_list (K := K) (a := A.so) (xs := vs) (fun i σ H' => ∃ (v2 v3 : Option V), σ = [some (.ref A.a), some (.ref L), v2, v3] ∧ Same H H' ∧ H' L = some (.lst (nvs ((stps t).take i))))
    ⟨none, none, rfl, same_new hL, upd_same⟩ (fun i σ H' _ ⟨_, _, _, sm, _⟩ => SqL.of (sm _ _ s1)) ?_ ?_⟩
  · rintro i y σ H' hy ⟨v2, v3, rfl, sm, hl⟩
    have hilt : i < (txOf t).ss.length := by have := (List.getElem?_eq_some_iff.mp hy).1; omega
    obtain ⟨v, h1, h2⟩ := Shp.paired_get s2 (List.getElem?_eq_getElem hilt)
    rw [hy] at h1; cases h1
    have hz : (nvs ((stps t).take i)).length < sizeLine := small_lt (m := 10000) (by rw [nvs_len, List.length_take]; omega)
    have hsi : i < (stps t).length := by omega
    have fin : ∀ (n : Nat), (stps t)[i]? = some n → nvs ((stps t).take i) ++ [V.int (n : Int)] = nvs ((stps t).take (i + 1)) := fun n hn => by
      rw [take_more0 hn]; simp [nvs]
    refine ⟨_, rfl, rfl, _, rfl, ?_⟩
    cases hs : (txOf t).ss[i] with
    | none =>
      rw [hs] at h2
      have e3 : y = .non := h2
      refine iteT (decide_eq_true e3) ?_
      refine ⟨_, rfl, tyL hl, L, _, _, rfl, rfl, hl, hz, ?_⟩
      refine ⟨_, _, rfl, same_old sm hL, ?_⟩
      have hax : i < t.axioms.length := by
        by_cases c : i < t.axioms.length
        · exact c
        · obtain ⟨x, hx⟩ := hwf.rest i (by omega) hilt
          rw [List.getElem?_eq_getElem hilt, hs] at hx; cases hx
      rw [upd_same]
      exact congrArg (fun z => some (HO.lst z)) (fin 0 (stps_ax t hax))
    | some x =>
      rw [hs] at h2
      obtain ⟨q, rfl, hqT⟩ := h2
      refine iteF (by simp) ?_
      have hxs : (txOf t).ss[i]? = some (some x) := by rw [List.getElem?_eq_getElem hilt, hs]
      obtain ⟨n, r, hin, hr, hx⟩ := tx_row_at t hxs
      have hlt := hwf.rows i x hxs
      subst hx
      have hqS := same_seqT sm hqT
      have g1 : ∀ k, k < i → (nvs ((stps t).take i))[k]? = some (.int (((stps t).getD k 0 : Nat) : Int)) := fun k hk => by
        refine nvs_get ?_
        rw [List.getElem?_take_of_lt hk, List.getD_eq_getElem?_getD, List.getElem?_eq_getElem (by omega)]; rfl
      refine ⟨_, rfl, tyL hl, _, rfl, _, rfl, _, _, _, _, rfl, rfl, hqS, atI_nat' (i := 0) rfl, _, _, _, _, rfl, rfl, SqL.of hl, atI_nat' (g1 _ hlt.2.1), ?_⟩
      refine ⟨_, rfl, _, rfl, _, _, _, _, rfl, rfl, hqS, atI_nat' (i := 1) rfl, _, _, _, _, rfl, rfl, SqL.of hl, atI_nat' (g1 _ hlt.2.2), _, _, rfl, rfl, _, _, rfl, rfl, L, _, _, rfl, rfl, hl, hz, ?_⟩
      refine ⟨_, _, rfl, same_old sm hL, ?_⟩
      rw [upd_same]
      have := stps_row hok hr
      rw [← hin] at this
      exact congrArg (fun z => some (HO.lst z)) (fin _ this)
  · rintro σ H' ⟨v2, v3, rfl, sm, hl⟩
    rw [List.take_of_length_le (by omega)] at hl
    have hT' := hT.same sm
    refine ⟨_, rfl, A, txOf t, rfl, hT', hok.sizes1000, by have := hok.ng; show t.goals.length ≤ _; omega, fun D H2 sm2 hD => ?_⟩
    refine ⟨D, rfl, ⟨_, SqL.of hD⟩, fun D2 hD2 => ?_⟩
    have htl : ∀ k ∈ tgt (txOf t), k < (stps t).length := fun k hk => by have := tgt_lt hk; rw [tx_fs] at this; omega
    have hl2 := sm2 _ _ hl
    refine lc_list (K := K) (a := D) (xs := nvs (tgt (txOf t))) (fun j H3 => Same H2 H3 ∧ H3 D2 = some (.lst (nvs (((tgt (txOf t)).take j).map fun k => (stps t).getD k 0)))) ⟨same_new hD2, upd_same⟩ (fun j H3 _ e => SqL.of (e.1 _ _ hD)) ?_ ?_
    · rintro j y H3 hy ⟨sm3, hd3⟩
      obtain ⟨k, hk, rfl⟩ : ∃ k, (tgt (txOf t))[j]? = some k ∧ y = V.int (k : Int) := by
        simp only [nvs, List.getElem?_map, Option.map_eq_some_iff] at hy
        obtain ⟨k, h1, h2⟩ := hy
        exact ⟨k, h1, h2.symm⟩
      have hkl := htl k (List.mem_of_getElem? hk)
      have hat : (nvs (stps t))[k]? = some (.int (((stps t).getD k 0 : Nat) : Int)) := nvs_get (by rw [List.getD_eq_getElem?_getD, List.getElem?_eq_getElem hkl]; rfl)
      refine ⟨rfl, _, rfl, _, rfl, _, _, _, _, rfl, rfl, SqL.of (sm3 _ _ hl2), atI_nat' hat, ?_⟩
      refine ⟨_, hd3, small_lt (m := 10000) ?_, same_old sm3 hD2, ?_⟩
      · rw [nvs_len, List.length_map, List.length_take]
        have : (tgt (txOf t)).length ≤ t.goals.length := List.length_filterMap_le _ _
        have := hok.ng
        omega
      · rw [upd_same, take_more0 hk, List.map_append]
        simp [nvs]
    · rintro H3 ⟨sm3, hd3⟩
      rw [nvs_len, List.take_length] at hd3
      refine ⟨D2, ((tgt (txOf t)).map fun k => (stps t).getD k 0).map (fun (n : Nat) => (n : Int)), rfl, SqL.of ?_, ?_⟩
      · rw [hd3]; simp only [nvs, List.map_map]; rfl
      · have e : (((tgt (txOf t)).map fun k => (stps t).getD k 0).map (fun (n : Nat) => (n : Int))).sum = (Vapcmb.treeTotal t : Int) := by
          rw [nvs_sum, tgt_eq]
          unfold Vapcmb.treeTotal
          congr 3
          funext k
          unfold stps
          rw [List.getD_eq_getElem?_getD, List.getD_eq_getElem?_getD, List.getElem?_map]
          cases (Vapcma.treeSizes t)[k]? <;> rfl
        rw [e]
        exact hq H3 ((sm.trans sm2).trans sm3)
end
end Shp
end
section
set_option maxRecDepth 100000
set_option maxHeartbeats 4000000
namespace Shp
open PySem PySem.Spec PyProof.Rows L2
open Vapcma (Form Text_ Axiom Raw rawNames formOf)
open VapcmBase (word)
open Vapcma (line showForm)
section
variable {P : Program} {w : World} {K : PySem.W.Frag} {mg : Str → Option Value} {base : Heap}
theorem AsRead.vars {f : Form} (h : AsRead f) : ∀ v ∈ Vapcma.vars f, v < Vapcma.size f := by
  obtain ⟨r, rfl⟩ := h
  intro v hv
  rw [vars_formOf] at hv
  obtain ⟨y, hy, rfl⟩ := List.mem_map.mp hv
  have h1 : ixOf (rawNames r).eraseDups y < (rawNames r).eraseDups.length := List.findIdx_lt_length_of_exists ⟨y, List.mem_eraseDups.mpr hy, by simp⟩
  have h2 : ∀ l : Nms, l.eraseDups.length ≤ l.length := fun l => by
    have : ∀ m : Nms, m.reverse.eraseDups.length ≤ m.length := fun m => by
      induction m with
      | nil => simp
      | cons a m ih =>
        rw [List.reverse_cons, dupsG_snoc]
        have := addN_len m.reverse.eraseDups a
        rw [List.length_cons]; omega
    have h := this l.reverse
    rwa [List.reverse_reverse, List.length_reverse] at h
  have h3 : ∀ (ns : Nms) (r : Raw), (rawNames r).length ≤ Vapcma.size (formOf ns r) := fun ns r => by
    induction r with
    | var n => exact Nat.le_refl _
    | imp a b iha ihb =>
      show (rawNames a ++ rawNames b).length ≤ Vapcma.size (formOf ns a) + Vapcma.size (formOf ns b) + 1
      rw [List.length_append]; omega
    | neg a ih => show (rawNames a).length ≤ Vapcma.size (formOf ns a) + 1; omega
  have := h2 (rawNames r)
  have := h3 (rawNames r).eraseDups r
  omega
def axB (n : List UInt8) (f : Form) : List UInt8 := line (word "axiom " ++ (n ++ (word " : " ++ (showForm f ++ word " ;"))))
def rowB (n a b : List UInt8) : List UInt8 := line (word "row " ++ (n ++ (word " : " ++ (a ++ (word ", " ++ (b ++ word " ;"))))))
def goalB (g : Form) : List UInt8 := line (word "goal " ++ (showForm g ++ word " ;"))
theorem shown_eq (t : Text_) : Vapcma.shown t = (t.axioms.flatMap fun a => axB a.name a.f) ++ ((t.rows.flatMap fun r => rowB r.name (Vapcma.nameAt t r.i) (Vapcma.nameAt t r.j)) ++ t.goals.flatMap goalB) := rfl
theorem sz1 : Str.ofString "axiom " = bx (word "axiom ") := by decide +kernel
theorem sz2 : Str.ofString " : " = bx (word " : ") := by decide +kernel
theorem sz3 : Str.ofString " ;\n" = bx (word " ;" ++ [10]) := by decide +kernel
theorem sz4 : Str.ofString "row " = bx (word "row ") := by decide +kernel
theorem sz5 : Str.ofString ", " = bx (word ", ") := by decide +kernel
theorem sz6 : Str.ofString "goal " = bx (word "goal ") := by decide +kernel
theorem wl1 : (word "axiom ").length = 6 := by decide +kernel
theorem wl2 : (word " : ").length = 3 := by decide +kernel
theorem wl3 : (word " ;").length = 2 := by decide +kernel
theorem wl4 : (word "row ").length = 4 := by decide +kernel
theorem wl5 : (word ", ").length = 2 := by decide +kernel
theorem wl6 : (word "goal ").length = 5 := by decide +kernel
/-- an item's line -/
def itemB (t : Text_) (k : Nat) : List UInt8 :=
  if k < t.axioms.length then (match t.axioms[k]? with
    | some a => axB a.name a.f
    | none => [])
  else match t.rows[k - t.axioms.length]? with
    | some r => rowB r.name (Vapcma.nameAt t r.i) (Vapcma.nameAt t r.j)
    | none => []
theorem form_small {f : Form} (h : AsRead f) (z : Vapcma.size f ≤ 40) : (∀ v ∈ Vapcma.vars f, v < 1000) ∧ (showForm f).length ≤ 8000 := by
  have h1 : ∀ v ∈ Vapcma.vars f, v < 1000 := fun v hv => by have := h.vars v hv; omega
  exact ⟨h1, by have := showForm_len h1; omega⟩
theorem tx_names {t : Text_} (ok : TOk t) : ∀ n ∈ (txOf t).ns, n.length ≤ 16 := fun n hn => by
  rcases List.mem_append.mp hn with h | h
  · obtain ⟨a, ha, rfl⟩ := List.mem_map.mp h; exact (ok.ax a ha).2.2.1
  · obtain ⟨r, hr, rfl⟩ := List.mem_map.mp h
    obtain ⟨m, hm⟩ := List.mem_iff_getElem?.mp hr
    exact (ok.rw m r hm).2.2.1
def sp_item_form (T : Top K mg) : Sp := fun vs H Q _ => ∃ (A : TA) (t : Text_) (k : Nat),
  vs = [.ref A.a, .int (k : Int)] ∧ TAt K T.C_Text H A (txOf t) ∧ TOk t ∧ k < Vapcma.count t ∧ ∀ (H' : Hp), Same H H' → (itemB t k).length ≤ 9000 → Q (.str (bx (itemB t k))) H'
theorem tx_n_at {t : Text_} {C : Addr} {H : Hp} {A : TA} (hT : TAt K C H A (txOf t)) {k : Nat} {n : List UInt8} (h : (txOf t).ns[k]? = some n) : ((txOf t).ns.map fun n => V.str (bx n))[k]? = some (.str (bx n)) := by
  rw [List.getElem?_map, h]; rfl
theorem ok_item_form (T : Top K mg) : FnOk P w K mg base CX0 3 T.d_item_form.f T.d_item_form.fd P_item_form (sp_item_form T) := by
  refine T.d_item_form.F.ok sc_item_form (fun vs H Q E h => by obtain ⟨_, _, _, rfl, _⟩ := h; rfl) (fun cdv A outer s H vs Q E hr h => ?_)
  refine ⟨_, (pss_cons (ps_set (i := 2) sc_item_form.nd rfl (Or.inl rfl) (pe_ix ix_list (pe_fld (pv 0) rfl) (pv 1) (fun _ _ => rfl)))
    (pss_cons (ps_set (i := 3) sc_item_form.nd rfl (Or.inl rfl) (pe_ix ix_list (pe_fld (pv 0) rfl) (pv 1) (fun _ _ => rfl)))
    (pss_cons (ps_if (pt_cmpR op_isN (pv 3) pe_non (nomark _)) (pss_cons (ps_set (i := 4) sc_item_form.nd rfl (Or.inl rfl) (pe_call (ok_formula_form T) (hr.mono (by decide)) rfl T.d_formula_form.mg T.d_formula_form.F.kp T.d_formula_form.b .nil pass0 (pa_cons (pe_ix ix_list (pe_fld (pv 0) rfl) (pv 1) (fun _ _ => rfl)) pa_nil)))
      (pss_one (ps_ret (pe_joined (PJ.cons pe_str (PJ.cons (pe_fmt (pv 2)) (PJ.cons pe_str (PJ.cons (pe_fmt (pv 4)) (PJ.cons pe_str PJ.nil))))))))) pss_nil)
    (pss_cons (ps_set (i := 5) sc_item_form.nd rfl (Or.inl rfl) (pe_ix ix_list (pe_fld (pv 0) rfl) (pe_ix ix_tup (pv 3) pe_int (fun _ _ => rfl)) (fun _ _ => rfl)))
    (pss_cons (ps_set (i := 6) sc_item_form.nd rfl (Or.inl rfl) (pe_ix ix_list (pe_fld (pv 0) rfl) (pe_ix ix_tup (pv 3) pe_int (fun _ _ => rfl)) (fun _ _ => rfl)))
    (pss_one (ps_ret (pe_joined (PJ.cons pe_str (PJ.cons (pe_fmt (pv 2)) (PJ.cons pe_str (PJ.cons (pe_fmt (pv 5)) (PJ.cons pe_str (PJ.cons (pe_fmt (pv 6)) (PJ.cons pe_str PJ.nil))))))))))))))), ?_⟩
  obtain ⟨A, t, k, rfl, hT, hok, hk, hq⟩ := h
  obtain ⟨vs, s1, s2⟩ := hT.s
  obtain ⟨ws, f1, f2⟩ := hT.f
  have hnl := tx_ns t
  have hsl := tx_ss t
  have hfl := tx_fs t
  unfold Vapcma.count at hk
  obtain ⟨n, hn⟩ : ∃ n, (txOf t).ns[k]? = some n := ⟨_, List.getElem?_eq_getElem (by omega)⟩
  have hnz := tx_names hok n (List.mem_of_getElem? hn)
  have hklt : k < (txOf t).ss.length := by omega
  obtain ⟨v, hv1, hv2⟩ := Shp.paired_get s2 (List.getElem?_eq_getElem hklt)
  refine ⟨_, rfl, A.a, _, A.dx, _, _, rfl, hT.o, T.cl_Text, T.n_Text_names, tF_names _, _, rfl, _, _, _, _, rfl, rfl, SqL.of hT.n, atI_nat' (tx_n_at hT hn), ?_⟩
  refine ⟨_, rfl, A.a, _, A.dx, _, _, rfl, hT.o, T.cl_Text, T.n_Text_sources, tF_sources _, _, rfl, _, _, _, _, rfl, rfl, SqL.of s1, atI_nat' hv1, ?_⟩
  refine ⟨_, rfl, rfl, _, rfl, ?_⟩
  have small : ∀ m, m ≤ 9000 → m ≤ sizeLine := fun m h => small_ok h
  by_cases c : k < t.axioms.length
  · have hs : (txOf t).ss[k] = none := by
      have := tx_at_ax t c
      rw [List.getElem?_eq_getElem hklt] at this
      exact Option.some.inj this
    rw [hs] at hv2
    refine iteT (decide_eq_true hv2) ?_
    have hax := List.getElem?_eq_getElem c
    have ha := hok.ax _ (List.mem_of_getElem? hax)
    have hfk : (txOf t).fs[k]? = some (some t.axioms[k].f) := by
      obtain ⟨q, hq⟩ : ∃ q, Vapcma.formulas t = (t.axioms.map fun a => some (Vapcma.normal a.f)) ++ q := grow_pre _ t.rows _
      show (Vapcma.formulas t)[k]? = _
      rw [hq, List.getElem?_append_left (by simpa using c), List.getElem?_map, hax]
      show some (some (Vapcma.normal _)) = _
      rw [ha.2.1.normal]
    have hnk : n = t.axioms[k].name := by
      have : (txOf t).ns[k]? = some t.axioms[k].name := by
        show (t.axioms.map _ ++ t.rows.map _)[k]? = _
        rw [List.getElem?_append_left (by simpa using c), List.getElem?_map, hax]; rfl
      rw [hn] at this
      exact Option.some.inj this
    obtain ⟨u, hu1, p, rfl, hp⟩ := Shp.paired_get f2 hfk
    have hsm := form_small ha.2.1 ha.1
    have hib : itemB t k = axB n t.axioms[k].f := by
      unfold itemB; rw [if_pos c, hax, hnk]
    rw [hib] at hq
    have hl : (axB n t.axioms[k].f).length ≤ 9000 := by
      unfold axB line
      simp only [List.length_append, wl1, wl2, wl3, List.length_singleton]
      omega
    refine ⟨_, rfl, A.a, _, A.dx, _, _, rfl, hT.o, T.cl_Text, T.n_Text_formulas, tF_formulas _, _, rfl, _, _, _, _, rfl, rfl, SqL.of f1, atI_nat' hu1, p, t.axioms[k].f, rfl, hp, by omega, hsm.1, fun H2 sm => ?_⟩
    rw [sz1, sz2, sz3]
    refine ⟨_, rfl, ?_, _, rfl, .inl ⟨_, rfl, ?_, _, rfl, ?_, _, rfl, ?_, _, rfl, .inl ⟨_, rfl, ?_, _, rfl, ?_, _, rfl, ?_, ?_⟩⟩⟩
    all_goals (try simp only [bx_nil, bx_app, bx_len, List.length_append, List.nil_append, wl1, wl2, wl3, List.length_singleton])
    all_goals (try (refine small _ ?_; (try simp only [List.length_nil]); omega))
    have := hq H2 sm hl
    unfold axB line at this
    simp only [List.append_assoc] at this ⊢
    exact this
  · obtain ⟨m, rfl⟩ : ∃ m, k = t.axioms.length + m := ⟨k - t.axioms.length, by omega⟩
    have hm : m < t.rows.length := by omega
    have hrow := List.getElem?_eq_getElem hm
    have hs : (txOf t).ss[t.axioms.length + m] = some (t.rows[m].i, t.rows[m].j) := by
      have := tx_at_row t m
      rw [hrow, List.getElem?_eq_getElem hklt] at this
      exact Option.some.inj this
    rw [hs] at hv2
    obtain ⟨q, rfl, hqT⟩ := hv2
    refine iteF (by simp) ?_
    have hr := hok.rw m _ hrow
    obtain ⟨ni, hni⟩ : ∃ n, (txOf t).ns[t.rows[m].i]? = some n := ⟨_, List.getElem?_eq_getElem (l := (txOf t).ns) (i := t.rows[m].i) (by omega)⟩
    obtain ⟨nj, hnj⟩ : ∃ n, (txOf t).ns[t.rows[m].j]? = some n := ⟨_, List.getElem?_eq_getElem (l := (txOf t).ns) (i := t.rows[m].j) (by omega)⟩
    have hzi := tx_names hok ni (List.mem_of_getElem? hni)
    have hzj := tx_names hok nj (List.mem_of_getElem? hnj)
    have hnk : n = t.rows[m].name := by
      have : (txOf t).ns[t.axioms.length + m]? = some t.rows[m].name := by
        show (t.axioms.map _ ++ t.rows.map _)[_]? = _
        rw [List.getElem?_append_right (by simp), List.getElem?_map, List.length_map, Nat.add_sub_cancel_left, hrow]; rfl
      rw [hn] at this
      exact Option.some.inj this
    have hna1 : Vapcma.nameAt t t.rows[m].i = ni := by show (((txOf t).ns)[_]?).getD [] = _; rw [hni]; rfl
    have hna2 : Vapcma.nameAt t t.rows[m].j = nj := by show (((txOf t).ns)[_]?).getD [] = _; rw [hnj]; rfl
    have hib : itemB t (t.axioms.length + m) = rowB n ni nj := by
      unfold itemB; rw [if_neg c, Nat.add_sub_cancel_left, hrow, hnk, ← hna1, ← hna2]
    rw [hib] at hq
    have hl : (rowB n ni nj).length ≤ 9000 := by
      unfold rowB line
      simp only [List.length_append, wl4, wl2, wl3, wl5, List.length_singleton]
      omega
    refine ⟨_, rfl, A.a, _, A.dx, _, _, rfl, hT.o, T.cl_Text, T.n_Text_names, tF_names _, _, rfl, _, _, _, _, rfl, rfl, hqT, atI_nat' (i := 0) rfl, _, _, _, _, rfl, rfl, SqL.of hT.n, atI_nat' (tx_n_at hT hni), ?_⟩
    refine ⟨_, rfl, A.a, _, A.dx, _, _, rfl, hT.o, T.cl_Text, T.n_Text_names, tF_names _, _, rfl, _, _, _, _, rfl, rfl, hqT, atI_nat' (i := 1) rfl, _, _, _, _, rfl, rfl, SqL.of hT.n, atI_nat' (tx_n_at hT hnj), ?_⟩
    rw [sz4, sz2, sz3, sz5]
    refine ⟨_, rfl, ?_, _, rfl, .inl ⟨_, rfl, ?_, _, rfl, ?_, _, rfl, ?_, _, rfl, .inl ⟨_, rfl, ?_, _, rfl, ?_, _, rfl, ?_, _, rfl, .inl ⟨_, rfl, ?_, _, rfl, ?_, _, rfl, ?_, ?_⟩⟩⟩⟩
    all_goals (try simp only [bx_nil, bx_app, bx_len, List.length_append, List.nil_append, wl4, wl5, wl2, wl3, List.length_singleton])
    all_goals (try (refine small _ ?_; (try simp only [List.length_nil]); omega))
    have := hq H (Same.refl _) hl
    unfold rowB line at this
    simp only [List.append_assoc] at this ⊢
    exact this
def sp_goal_form (K : PySem.W.Frag) : Sp := fun vs H Q _ => ∃ (p : Addr) (g : Form),
  vs = [.ref p] ∧ SqT K H p (ivs (enc g)) ∧ AsRead g ∧ Vapcma.size g ≤ 40 ∧ ∀ (H' : Hp), Same H H' → (goalB g).length ≤ 9000 → Q (.str (bx (goalB g))) H'
theorem ok_goal_form (T : Top K mg) : FnOk P w K mg base CX0 3 T.d_goal_form.f T.d_goal_form.fd P_goal_form (sp_goal_form K) := by
  refine T.d_goal_form.F.ok sc_goal_form (fun vs H Q E h => by obtain ⟨_, _, rfl, _⟩ := h; rfl) (fun cdv A outer s H vs Q E hr h => ?_)
  refine ⟨_, (pss_cons (ps_set (i := 1) sc_goal_form.nd rfl (Or.inl rfl) (pe_call (ok_formula_form T) (hr.mono (by decide)) rfl T.d_formula_form.mg T.d_formula_form.F.kp T.d_formula_form.b .nil pass0 (pa_cons (pv 0) pa_nil)))
    (pss_one (ps_ret (pe_joined (PJ.cons pe_str (PJ.cons (pe_fmt (pv 1)) (PJ.cons pe_str PJ.nil))))))), ?_⟩
  obtain ⟨p, g, rfl, hp, har, hz, hq⟩ := h
  have hsm := form_small har hz
  have small : ∀ m, m ≤ 9000 → m ≤ sizeLine := fun m h => small_ok h
  have hl : (goalB g).length ≤ 9000 := by
    unfold goalB line
    simp only [List.length_append, wl6, wl3, List.length_singleton]
    omega
  refine ⟨_, rfl, p, g, rfl, hp, by omega, hsm.1, fun H2 sm => ?_⟩
  rw [sz6, sz3]
  refine ⟨_, rfl, ?_, _, rfl, .inl ⟨_, rfl, ?_, _, rfl, ?_, _, rfl, ?_, ?_⟩⟩
  all_goals (try simp only [bx_nil, bx_app, bx_len, List.length_append, List.nil_append, wl6, wl3, List.length_singleton])
  all_goals (try (refine small _ ?_; (try simp only [List.length_nil]); omega))
  have := hq H2 sm hl
  unfold goalB line at this
  simp only [List.append_assoc] at this ⊢
  exact this
end
end Shp
end
section
set_option maxRecDepth 100000
set_option maxHeartbeats 4000000
namespace Shp
open PySem PySem.Spec PyProof.Rows L2
open Vapcma (Form Text_ Axiom Raw rawNames formOf)
section
variable {P : Program} {w : World} {K : PySem.W.Frag} {mg : Str → Option Value} {base : Heap}
theorem items_flat (t : Text_) : ((List.range (Vapcma.count t)).map (itemB t)).flatten = (t.axioms.flatMap fun a => axB a.name a.f) ++ t.rows.flatMap fun r => rowB r.name (Vapcma.nameAt t r.i) (Vapcma.nameAt t r.j) := by
  unfold Vapcma.count
  have e1 : (List.range t.axioms.length).map (itemB t) = t.axioms.map fun a => axB a.name a.f := by
    refine List.ext_getElem? fun k => ?_
    rw [List.getElem?_map, List.getElem?_map]
    by_cases c : k < t.axioms.length
    · rw [List.getElem?_range c, List.getElem?_eq_getElem c]
      show some (itemB t k) = _
      unfold itemB
      rw [if_pos c, List.getElem?_eq_getElem c]; rfl
    · rw [List.getElem?_eq_none (by simp; omega), List.getElem?_eq_none (by omega)]; rfl
  have e2 : ((List.range t.rows.length).map (t.axioms.length + ·)).map (itemB t) = t.rows.map fun r => rowB r.name (Vapcma.nameAt t r.i) (Vapcma.nameAt t r.j) := by
    refine List.ext_getElem? fun k => ?_
    rw [List.getElem?_map, List.getElem?_map, List.getElem?_map]
    by_cases c : k < t.rows.length
    · rw [List.getElem?_range c, List.getElem?_eq_getElem c]
      show some (itemB t (t.axioms.length + k)) = _
      unfold itemB
      rw [if_neg (by omega), Nat.add_sub_cancel_left, List.getElem?_eq_getElem c]; rfl
    · rw [List.getElem?_eq_none (by simp; omega), List.getElem?_eq_none (by omega)]; rfl
  rw [List.range_add, List.map_append, List.flatten_append, e1, e2, ← List.flatMap_def, ← List.flatMap_def]
theorem bx_join (ls : List (List UInt8)) : Txt.join (Str.ofString "") (ls.map bx) = bx ls.flatten := by
  rw [join_empty]
  refine str_ext ?_
  rw [bx_codes]
  induction ls with
  | nil => rfl
  | cons l r ih =>
    simp only [List.map_cons, List.flatten_cons, List.map_append, bx_codes] at ih ⊢
    rw [ih]
def sp_one_form (T : Top K mg) : Sp := fun vs H Q _ => ∃ (A : TA) (t : Text_),
  vs = [.ref A.a] ∧ TAt K T.C_Text H A (txOf t) ∧ TOk t ∧ ∀ (D : Addr) (H' : Hp), Same H H' → H' D = some (.lst ((Vapcma.shown t).map fun b => V.int ((b.toNat : Nat) : Int))) → (Vapcma.shown t).length ≤ 400000 → Q (.ref D) H'
theorem ok_one_form (T : Top K mg) : FnOk P w K mg base CX0 4 T.d_one_form.f T.d_one_form.fd P_one_form (sp_one_form T) := by
  refine T.d_one_form.F.ok sc_one_form (fun vs H Q E h => by obtain ⟨_, _, rfl, _⟩ := h; rfl) (fun cdv A outer s H vs Q E hr h => ?_)
  refine ⟨_, (pss_cons (ps_setLc (i := 1) (own := [("number", 2)]) rfl sc_one_form.nd rfl rfl (sw_true rfl rfl rfl (by decide +kernel)) (pi_range1 rfl T.b_range (pa_cons (pe_callB call_len (by rfl) T.b_len PySem.boot_len (pa_cons (pe_fld (pv 0) rfl) pa_nil)) pa_nil)) (blkOk_by (N := N_one_form) (sc := defScope s_one_form) (by decide +kernel)) (fun _ _ _ _ _ => (pg_name (i := 2) sc_one_form.nd rfl (Or.inl rfl))) (fun _ _ _ _ _ => pts_nil) (fun _ _ _ _ _ => (pe_call (ok_item_form T) (hr.mono (by decide)) rfl T.d_item_form.mg T.d_item_form.F.kp T.d_item_form.b .nil pass0 (pa_cons (pv 0) (pa_cons (pv 2) pa_nil)))))
    (pss_cons (ps_expr (pe_bm PySem.F.plainAttrs_list PySem.F.slot_list_extend PySem.F.type_list_extend mt_extend (pv 1) (pa_cons (pe_lc (own := [("goal", 4)]) rfl sc_one_form.nd (pi_list (pe_fld (pv 0) rfl)) (blkOk_by (N := N_one_form) (sc := defScope s_one_form) (by decide +kernel)) (fun _ _ _ _ _ => (pg_name (i := 4) sc_one_form.nd rfl (Or.inl rfl))) (fun _ _ _ _ _ => pts_nil) (fun _ _ _ _ _ => (pe_call (ok_goal_form T) (hr.mono (by decide)) rfl T.d_goal_form.mg T.d_goal_form.F.kp T.d_goal_form.b .nil pass0 (pa_cons (pv 4) pa_nil)))) pa_nil)))
    (pss_one (ps_ret (pe_lc (own := [("sign", 3)]) rfl sc_one_form.nd (pi_str (pe_join pe_str (pv 1))) (blkOk_by (N := N_one_form) (sc := defScope s_one_form) (by decide +kernel)) (fun _ _ _ _ _ => (pg_name (i := 3) sc_one_form.nd rfl (Or.inl rfl))) (fun _ _ _ _ _ => pts_nil) (fun _ _ _ _ _ => (pe_callB call_ord (by rfl) T.b_ord (by decide +kernel) (pa_cons (pv 3) pa_nil)))))))), ?_⟩
  obtain ⟨A, t, rfl, hT, hok, hq⟩ := h
  refine ⟨_, rfl, A.a, _, A.dx, _, _, rfl, hT.o, T.cl_Text, T.n_Text_names, tF_names _, _, _, rfl, .inl ⟨_, SqL.of hT.n, rfl⟩, ?_⟩
  have hnl := tx_ns t
  have hna := hok.na
  have hnr := hok.nr
  have hng := hok.ng
  have hcn : Vapcma.count t = t.axioms.length + t.rows.length := rfl
  obtain ⟨us, g1, g2⟩ := hT.g
  have hul : us.length = t.goals.length := g2.length
  refine ⟨((Vapcma.count t : Nat) : Int), by rw [List.length_map, hnl, hcn], by omega, by omega, fun D hD => ?_⟩
  refine lc_range (lo := 0) (n := Vapcma.count t) (fun i H' => Same H H' ∧ H' D = some (.lst ((List.range i).map fun k => V.str (bx (itemB t k)))) ∧ ∀ k < i, (itemB t k).length ≤ 9000) ⟨same_new hD, upd_same, fun k hk => absurd hk (by omega)⟩ ?_ ?_
  · rintro i H' hi ⟨sm, hd, hlen⟩
    have ei : (0 : Int) + (i : Nat) = (i : Nat) := by omega
    refine ⟨rfl, _, rfl, _, rfl, A, t, i, by rw [ei]; rfl, hT.same sm, hok, hi, fun H2 sm2 hl => ?_⟩
    refine ⟨_, sm2 _ _ hd, small_lt (m := 10000) (by rw [List.length_map, List.length_range]; omega), same_old (sm.trans sm2) hD, ?_, fun k hk => ?_⟩
    · rw [upd_same, List.range_succ, List.map_append]; rfl
    · by_cases c : k = i
      · rw [c]; exact hl
      · exact hlen k (by omega)
  · rintro H' ⟨sm, hd, hlen⟩
    refine ⟨_, rfl, tyL hd, _, rfl, A.a, _, A.dx, _, _, rfl, sm _ _ hT.o, T.cl_Text, T.n_Text_goals, tF_goals _, _, rfl, ⟨_, SqL.of (sm _ _ g1)⟩, fun D2 hD2 => ?_⟩
    refine lc_list (K := K) (a := A.go) (xs := us) (fun i H2 => Same H' H2 ∧ H2 D2 = some (.lst ((t.goals.take i).map fun g => V.str (bx (goalB g)))) ∧ ∀ k g, k < i → t.goals[k]? = some g → (goalB g).length ≤ 9000) ⟨same_new hD2, upd_same, fun k g hk => absurd hk (by omega)⟩ (fun i H2 _ e => SqL.of (e.1 _ _ (sm _ _ g1))) ?_ ?_
    · rintro i y H2 hy ⟨sm2, hd2, hlen2⟩
      have hig : i < t.goals.length := by have := (List.getElem?_eq_some_iff.mp hy).1; omega
      have hgi := List.getElem?_eq_getElem hig
      obtain ⟨v, h1, h2⟩ := Shp.paired_get g2 hgi
      rw [hy] at h1; cases h1
      obtain ⟨q, rfl, hqT⟩ := h2
      have hg := hok.gl _ (List.mem_of_getElem? hgi)
      refine ⟨rfl, _, rfl, q, _, rfl, same_seqT (sm.trans sm2) hqT, hg.2, hg.1, fun H3 sm3 hl => ?_⟩
      refine ⟨_, sm3 _ _ hd2, small_lt (m := 10000) (by rw [List.length_map, List.length_take]; omega), same_old (sm2.trans sm3) hD2, ?_, fun k g hk hgk => ?_⟩
      · rw [upd_same, take_more0 hgi, List.map_append]; rfl
      · by_cases c : k = i
        · subst c; rw [hgi] at hgk; cases hgk; exact hl
        · exact hlen2 k g (by omega) hgk
    · rintro H2 ⟨sm2, hd2, hlen2⟩
      rw [hul, List.take_length] at hd2
      refine ⟨D, D2, _, _, rfl, rfl, sm2 _ _ hd, hd2, small_ok (m := 10000) (by rw [List.length_map, List.length_map, List.length_range]; omega), ?_⟩
      have sm3 : Same H (upd H2 D (.lst (((List.range (Vapcma.count t)).map fun k => V.str (bx (itemB t k))) ++ t.goals.map fun g => V.str (bx (goalB g))))) := same_old (sm.trans sm2) hD
      have hd3 : (upd H2 D (.lst (((List.range (Vapcma.count t)).map fun k => V.str (bx (itemB t k))) ++ t.goals.map fun g => V.str (bx (goalB g))))) D = some (.lst ((((List.range (Vapcma.count t)).map (itemB t) ++ t.goals.map goalB).map bx).map V.str)) := by
        rw [upd_same]
        simp only [List.map_append, List.map_map]; rfl
      generalize upd H2 D (.lst (((List.range (Vapcma.count t)).map fun k => V.str (bx (itemB t k))) ++ t.goals.map fun g => V.str (bx (goalB g)))) = H3 at *
      have hflat : ((List.range (Vapcma.count t)).map (itemB t) ++ t.goals.map goalB).flatten = Vapcma.shown t := by
        rw [List.flatten_append, items_flat, shown_eq, List.append_assoc, ← List.flatMap_def]
      have hpart : ∀ l ∈ (List.range (Vapcma.count t)).map (itemB t) ++ t.goals.map goalB, l.length ≤ 9000 := fun l hl => by
        rcases List.mem_append.mp hl with hl | hl
        · obtain ⟨k, hk, rfl⟩ := List.mem_map.mp hl
          exact hlen k (List.mem_range.mp hk)
        · obtain ⟨g, hg, rfl⟩ := List.mem_map.mp hl
          obtain ⟨k, hk⟩ := List.mem_iff_getElem?.mp hg
          exact hlen2 k g (by rw [hul]; exact (List.getElem?_eq_some_iff.mp hk).1) hk
      have hsum : ∀ ls : List (List UInt8), (∀ l ∈ ls, l.length ≤ 9000) → ls.flatten.length ≤ 9000 * ls.length := fun ls h => by
        induction ls with
        | nil => simp
        | cons l r ih =>
          have h1 := h l (by simp)
          have h2 := ih fun l hl => h l (by simp [hl])
          rw [List.flatten_cons, List.length_append, List.length_cons]; omega
      have htot : (Vapcma.shown t).length ≤ 400000 := by
        have := hsum _ hpart
        rw [hflat, List.length_append, List.length_map, List.length_map, List.length_range] at this
        omega
      have hjs : ((((List.range (Vapcma.count t)).map (itemB t) ++ t.goals.map goalB).map bx).map (·.length)).sum = (Vapcma.shown t).length := by
        rw [← hflat]
        generalize (List.range (Vapcma.count t)).map (itemB t) ++ t.goals.map goalB = ls
        induction ls with
        | nil => rfl
        | cons l r ih => simp only [List.map_cons, List.sum_cons, List.flatten_cons, List.length_append, ih, bx_len]
      have hz0 : (Str.ofString "").length = 0 := by decide +kernel
      refine ⟨⟨_, rfl⟩, _, rfl, _, D, _, rfl, rfl, .inl (SqL.of hd3), by rw [hjs, hz0]; omega, ?_⟩
      rw [bx_join, hflat]
      refine ⟨_, rfl, fun D3 hD3 => ?_⟩
      have hcz : (bx (Vapcma.shown t)).cps.size = (Vapcma.shown t).length := bx_len _
      refine lc_it walk_str (fun i H4 => Same H3 H4 ∧ H4 D3 = some (.lst (((Vapcma.shown t).take i).map fun b => V.int ((b.toNat : Nat) : Int)))) ⟨same_new hD3, upd_same⟩ (fun _ _ _ _ => trivial) ?_ ?_
      · rintro i y H4 H5 hi ⟨sm4, hd4⟩ ⟨rfl, c, hc, rfl⟩
        rw [hcz] at hi
        have hbi := List.getElem?_eq_getElem hi
        have hcb : c = (Vapcma.shown t)[i].toNat := by
          have h1 : (bx (Vapcma.shown t)).cps.toList[i]? = some c := by simpa using hc
          rw [bx_codes, List.getElem?_map, hbi] at h1
          exact (Option.some.inj h1).symm
        subst hcb
        refine ⟨rfl, _, rfl, _, rfl, rfl, ?_⟩
        refine ⟨_, hd4, small_lt (m := 500000) (by rw [List.length_map, List.length_take]; omega), same_old sm4 hD3, ?_⟩
        rw [upd_same, take_more0 hbi, List.map_append]; rfl
      · rintro H4 ⟨sm4, hd4⟩
        rw [hcz, List.take_length] at hd4
        exact hq D3 H4 (sm3.trans sm4) hd4 htot
end
end Shp
end
section
set_option maxRecDepth 100000
set_option maxHeartbeats 4000000
namespace Shp
open PySem PySem.Spec PyProof.Rows L2
open Vapcma (Form Text_ Axiom)
section
variable {P : Program} {w : World} {K : PySem.W.Frag} {mg : Str → Option Value} {base : Heap}
/-- what becomes of a row: the item, and what is added -/
def mergeV (fs : List (Option Form)) (a b : Option Nat) : Option Nat × Option (Nat × Nat × Form) := match a, b with
  | some i, some j => (match detF ((fs[i]?).getD none) ((fs[j]?).getD none) with
    | none => (none, none)
    | some h => match Vapcmb.firstAsGeneral fs h with
      | some k => (some k, none)
      | none => (some fs.length, some (i, j, h)))
  | _, _ => (none, none)
theorem optV_dec (a : Option Nat) : decide (optV a = .non) = a.isNone := by cases a <;> rfl
def sp_merge_row (T : Top K mg) : Sp := fun vs H Q _ => ∃ (A : TA) (x : Tx) (A2 : TA) (x2 : Tx) (bl : Addr) (be : List (Option Nat)) (k i j : Nat) (n : List UInt8) (bi bj : Option Nat),
  vs = [.ref A.a, .int (k : Int), .ref bl, .ref A2.a] ∧ TAt K T.C_Text H A x ∧ TAt K T.C_Text H A2 x2 ∧ H bl = some (.lst (be.map optV)) ∧ x.ss[k]? = some (some (i, j)) ∧ x.ns[k]? = some n ∧ be[i]? = some bi ∧ be[j]? = some bj ∧
  (∀ m, (bi = some m ∨ bj = some m) → m < x2.fs.length) ∧ (∀ f ∈ x2.fs, ∀ z, f = some z → Vapcma.size z ≤ 1000) ∧ x2.ns.length ≤ 1000 ∧ x2.ss.length ≤ 1000 ∧ x2.fs.length = x2.ns.length ∧ (∀ y ∈ A2.lists, y ∉ A.all) ∧
  (∀ r, mergeV x2.fs bi bj = (r, none) → ∀ H', Same H H' → Q (optV r) H') ∧
  (∀ r a b h, mergeV x2.fs bi bj = (r, some (a, b, h)) → ∀ H', TAt K T.C_Text H' A2 ⟨x2.ns ++ [n], x2.ss ++ [some (a, b)], x2.fs ++ [some h], x2.gs⟩ → Keep A2.lists H H' → Q (optV r) H')
theorem ok_merge_row (T : Top K mg) : FnOk P w K mg base CX0 6 T.d_merge_row.f T.d_merge_row.fd P_merge_row (sp_merge_row T) := by
  refine T.d_merge_row.F.ok sc_merge_row (fun vs H Q E h => by obtain ⟨_, _, _, _, _, _, _, _, _, _, _, _, rfl, _⟩ := h; rfl) (fun cdv A outer s H vs Q E hr h => ?_)
  refine ⟨_, (pss_cons (ps_set (i := 4) sc_merge_row.nd rfl (Or.inl rfl) (pe_ix ix_list (pe_fld (pv 0) rfl) (pv 1) (fun _ _ => rfl)))
    (pss_cons (ps_set (i := 5) sc_merge_row.nd rfl (Or.inl rfl) (pe_ix ix_list (pv 2) (pe_ix ix_tup (pv 4) pe_int (fun _ _ => rfl)) (fun _ _ => rfl)))
    (pss_cons (ps_set (i := 6) sc_merge_row.nd rfl (Or.inl rfl) (pe_ix ix_list (pv 2) (pe_ix ix_tup (pv 4) pe_int (fun _ _ => rfl)) (fun _ _ => rfl)))
    (pss_cons (ps_if (PW.pt (pw_or (pt_cmpR op_isN (pv 5) pe_non (nomark _)) (pw_or1 (pt_cmpR op_isN (pv 6) pe_non (nomark _))))) (pss_one (ps_ret pe_non)) pss_nil)
    (pss_cons (ps_set (i := 7) sc_merge_row.nd rfl (Or.inl rfl) (pe_meth (pv 3) T.cl_Text T.m_Text_detached_from.m (ok_Text_detached_from T) (hr.mono (by decide)) T.m_Text_detached_from.b .nil pass0 (pa_cons (pe_tup (pa_cons (pv 5) (pa_cons (pv 6) pa_nil))) pa_nil)))
    (pss_cons (ps_if (pt_cmpR op_isN (pv 7) pe_non (nomark _)) (pss_one (ps_ret pe_non)) pss_nil)
    (pss_cons (ps_set (i := 8) sc_merge_row.nd rfl (Or.inl rfl) (pe_call (ok_first_with_instance T) (hr.mono (by decide)) rfl T.d_first_with_instance.mg T.d_first_with_instance.F.kp T.d_first_with_instance.b .nil pass0 (pa_cons (pv 3) (pa_cons (pv 7) pa_nil))))
    (pss_cons (ps_if (pt_cmpR op_notN (pv 8) pe_non (nomark _)) (pss_one (ps_ret (pv 8))) pss_nil)
    (pss_cons (ps_expr (pe_meth (pv 3) T.cl_Text T.m_Text_add_item.m (ok_Text_add_item T) (hr.mono (by decide)) T.m_Text_add_item.b .nil pass0 (pa_cons (pe_ix ix_list (pe_fld (pv 0) rfl) (pv 1) (fun _ _ => rfl)) (pa_cons (pe_tup (pa_cons (pv 5) (pa_cons (pv 6) pa_nil))) (pa_cons (pv 7) pa_nil)))))
    (pss_one (ps_ret (pe_op op_sub (pe_callB call_len (by rfl) T.b_len PySem.boot_len (pa_cons (pe_fld (pv 3) rfl) pa_nil)) pe_int)))))))))))), ?_⟩
  obtain ⟨A, x, A2, x2, bl, be, k, i, j, n, bi, bj, rfl, hT, hT2, hb, hs, hn, hbi, hbj, hlt, hz, z1, z2, z3, hdis, kN, kS⟩ := h
  obtain ⟨vs, s1, s2⟩ := hT.s
  obtain ⟨v, hv, p, rfl, hp⟩ := Shp.paired_get s2 hs
  have bat : ∀ {i : Nat} {b : Option Nat}, be[i]? = some b → (be.map optV)[i]? = some (optV b) := fun h => by rw [List.getElem?_map, h]; rfl
  refine ⟨_, rfl, A.a, _, A.dx, _, _, rfl, hT.o, T.cl_Text, T.n_Text_sources, tF_sources _, _, rfl, _, _, _, _, rfl, rfl, SqL.of s1, atI_nat' hv, ?_⟩
  refine ⟨_, rfl, _, rfl, _, _, _, _, rfl, rfl, hp, atI_nat' (i := 0) rfl, _, _, _, _, rfl, rfl, SqL.of hb, atI_nat' (bat hbi), ?_⟩
  refine ⟨_, rfl, _, rfl, _, _, _, _, rfl, rfl, hp, atI_nat' (i := 1) rfl, _, _, _, _, rfl, rfl, SqL.of hb, atI_nat' (bat hbj), ?_⟩
  refine ⟨_, rfl, rfl, _, rfl, ?_⟩
  cases bi with
  | none =>
    refine iteT (by rw [optV_dec]; rfl) ?_
    exact kN none (by unfold mergeV; rfl) H (Same.refl _)
  | some a =>
    refine iteF (by rw [optV_dec]; rfl) ?_
    refine ⟨_, rfl, rfl, _, rfl, ?_⟩
    cases bj with
    | none =>
      refine iteT (by rw [optV_dec]; rfl) ?_
      exact kN none (by unfold mergeV; rfl) H (Same.refl _)
    | some b =>
      refine iteF (by rw [optV_dec]; rfl) ?_
      have ha := hlt a (.inl rfl)
      have hb2 := hlt b (.inr rfl)
      have hfa := List.getElem?_eq_getElem ha
      have hfb := List.getElem?_eq_getElem hb2
      have em : mergeV x2.fs (some a) (some b) = (match detF x2.fs[a] x2.fs[b] with
        | none => (none, none)
        | some h => match Vapcmb.firstAsGeneral x2.fs h with
          | some k => (some k, none)
          | none => (some x2.fs.length, some (a, b, h))) := by
        unfold mergeV
        dsimp only
        rw [hfa, hfb]; rfl
      refine ⟨_, rfl, A2.a, A2.dx, _, rfl, hT2.o, tF_no (by decide +kernel) (by decide +kernel) (by decide +kernel) (by decide +kernel) _, _, rfl, _, rfl, (show 2 ≤ sizeLine by decide), fun q hq => ?_⟩
      refine ⟨A2, x2, q, a, b, _, _, rfl, hT2.same (same_new hq), SqT.of upd_same, hfa, hfb, hz, fun v9 H1 sm1 hv9 => ?_⟩
      have sm1' : Same H H1 := (same_new hq).trans sm1
      refine ⟨_, rfl, rfl, _, rfl, ?_⟩
      cases hd : detF x2.fs[a] x2.fs[b] with
      | none =>
        rw [hd] at hv9
        refine iteT (decide_eq_true hv9) ?_
        exact kN none (by rw [em, hd]) H1 sm1'
      | some g =>
        rw [hd] at hv9
        obtain ⟨u, rfl, hu⟩ := hv9
        refine iteF (by simp) ?_
        refine ⟨_, rfl, _, rfl, A2, x2, u, g, rfl, hT2.same sm1', hu, hz, fun H2 sm2 => ?_⟩
        have sm2' := sm1'.trans sm2
        refine ⟨_, rfl, rfl, _, rfl, ?_⟩
        cases hf : Vapcmb.firstAsGeneral x2.fs g with
        | some m =>
          refine iteT (by rw [optV_dec]; rfl) ?_
          refine ⟨_, rfl, ?_⟩
          exact kN (some m) (by rw [em, hd]; dsimp only; rw [hf]) H2 sm2'
        | none =>
          refine iteF (by rw [optV_dec]; rfl) ?_
          have hT3 := hT.same sm2'
          have hT4 := hT2.same sm2'
          have hnv : (x.ns.map fun n => V.str (bx n))[k]? = some (.str (bx n)) := by rw [List.getElem?_map, hn]; rfl
          refine ⟨_, rfl, A2.a, A2.dx, _, rfl, hT4.o, tF_no (by decide +kernel) (by decide +kernel) (by decide +kernel) (by decide +kernel) _, _, rfl, A.a, _, A.dx, _, _, rfl, hT3.o, T.cl_Text, T.n_Text_names, tF_names _, _, rfl, _, _, _, _, rfl, rfl, SqL.of hT3.n, atI_nat' hnv, _, rfl, _, rfl, (show 2 ≤ sizeLine by decide), fun q2 hq2 => ?_⟩
          have sm3 : Same H2 (upd H2 q2 (.tup [optV (some a), optV (some b)])) := same_new hq2
          refine ⟨_, rfl, A2, x2, n, .ref q2, .ref u, some (a, b), some g, rfl, hT4.same sm3, ⟨q2, rfl, SqT.of upd_same⟩, ⟨u, rfl, same_seqT (sm2.trans sm3) hu⟩, by omega, by omega, by omega, fun H3 hT5 kp5 => ?_⟩
          refine ⟨_, rfl, A2.a, _, A2.dx, _, _, rfl, hT5.o, T.cl_Text, T.n_Text_names, tF_names _, _, _, rfl, .inl ⟨_, SqL.of hT5.n, rfl⟩, _, _, rfl, rfl, ?_⟩
          have hfin := kS (some x2.fs.length) a b g (by rw [em, hd]; dsimp only; rw [hf]) H3 hT5 ((Keep.of_same (sm2'.trans sm3)).trans kp5)
          have el : (((((x2.ns ++ [n]).map fun n => V.str (bx n)).length : Nat) : Int) - 1) = ((x2.fs.length : Nat) : Int) := by
            rw [List.length_map, List.length_append, List.length_singleton, z3]; omega
          show Q (.int ((((x2.ns ++ [n]).map fun n => V.str (bx n)).length : Nat) - 1 : Int)) H3
          rw [el]
          exact hfin
end
end Shp
end
section
set_option maxRecDepth 100000
set_option maxHeartbeats 4000000
namespace Shp
open PySem PySem.Spec PyProof.Rows L2
open Vapcma (Form Text_ Axiom)
open Vapcmb (Draft addTo firstDraft)
theorem addTo_eq (d : Draft) (r : Vapcma.Row) : addTo d r = match mergeV d.fs ((d.to[r.i]?).getD none) ((d.to[r.j]?).getD none) with
    | (x, none) => { d with to := d.to ++ [x] }
    | (x, some (a, b, h)) => ⟨d.to ++ [x], d.rows ++ [⟨r.name, a, b⟩], d.fs ++ [some h]⟩ := by
  unfold addTo mergeV
  cases (d.to[r.i]?).getD none with
  | none => rfl
  | some i =>
    cases (d.to[r.j]?).getD none with
    | none => rfl
    | some j =>
      dsimp only
      have e : detF ((d.fs[i]?).getD none) ((d.fs[j]?).getD none) = ((d.fs[i]?).getD none).bind fun f => ((d.fs[j]?).getD none).bind fun g => Vapcma.detach f g := rfl
      rw [← e]
      cases detF ((d.fs[i]?).getD none) ((d.fs[j]?).getD none) with
      | none => rfl
      | some h =>
        dsimp only
        cases Vapcmb.firstAsGeneral d.fs h <;> rfl
theorem mergeV_some {fs : List (Option Form)} {bi bj x : Option Nat} {a b : Nat} {h : Form} (e : mergeV fs bi bj = (x, some (a, b, h))) : bi = some a ∧ bj = some b ∧ x = some fs.length ∧ detF ((fs[a]?).getD none) ((fs[b]?).getD none) = some h := by
  unfold mergeV at e
  cases bi with
  | none => cases e
  | some i =>
    cases bj with
    | none => cases e
    | some j =>
      dsimp only at e
      cases hd : detF ((fs[i]?).getD none) ((fs[j]?).getD none) with
      | none => rw [hd] at e; cases e
      | some g =>
        rw [hd] at e
        dsimp only at e
        cases hf : Vapcmb.firstAsGeneral fs g with
        | some k => rw [hf] at e; cases e
        | none => rw [hf] at e; cases e; exact ⟨rfl, rfl, rfl, hd⟩
theorem mergeV_none {fs : List (Option Form)} {bi bj x : Option Nat} (e : mergeV fs bi bj = (x, none)) : ∀ m, x = some m → m < fs.length := by
  unfold mergeV at e
  cases bi with
  | none => cases e; intro m h; cases h
  | some i =>
    cases bj with
    | none => cases e; intro m h; cases h
    | some j =>
      dsimp only at e
      cases hd : detF ((fs[i]?).getD none) ((fs[j]?).getD none) with
      | none => rw [hd] at e; cases e; intro m h; cases h
      | some g =>
        rw [hd] at e
        dsimp only at e
        cases hf : Vapcmb.firstAsGeneral fs g with
        | some k =>
          rw [hf] at e; cases e
          intro m h; cases h
          rw [first_eq, List.findIdx?_eq_some_iff_getElem] at hf
          exact hf.1
        | none => rw [hf] at e; cases e
/-- what stands when i items are gone through -/
structure MSt (t : Text_) (i : Nat) (be : List (Option Nat)) (t2 : Text_) : Prop where
  len : be.length = i
  ok : TOk t2
  lt : ∀ m, some m ∈ be → m < t2.axioms.length + t2.rows.length
  rz : t2.rows.length ≤ i - t.axioms.length
  st : (i ≤ t.axioms.length ∧ t2 = ⟨t.axioms.take i, [], t.goals⟩ ∧ be = (List.range i).map some) ∨
    (t.axioms.length ≤ i ∧ ∃ d : Draft, d = (t.rows.take (i - t.axioms.length)).foldl addTo (firstDraft t) ∧ be = d.to ∧ t2 = ⟨t.axioms, d.rows, t.goals⟩ ∧ d.fs = Vapcma.formulas t2)
theorem MSt.start {t : Text_} (ok : TOk t) : MSt t 0 [] ⟨[], [], t.goals⟩ :=
  ⟨rfl, ⟨by simp, by simp, ok.ng, by simp, by simp, ok.gl⟩, fun m h => (nomatch h), by simp, .inl ⟨Nat.zero_le _, by simp, rfl⟩⟩
theorem MSt.ax {t t2 : Text_} {i : Nat} {be : List (Option Nat)} {a : Axiom} (ok : TOk t) (h : MSt t i be t2) (ha : t.axioms[i]? = some a) : MSt t (i + 1) (be ++ [some i]) ⟨t2.axioms ++ [a], t2.rows, t.goals⟩ ∧ t2.rows = [] ∧ t2.goals = t.goals ∧ t2.axioms.length = i := by
  have hi := (List.getElem?_eq_some_iff.mp ha).1
  rcases h.st with ⟨h1, rfl, rfl⟩ | ⟨h1, _⟩
  · refine ⟨⟨by simp, ⟨?_, by simp, ok.ng, ?_, by simp, ok.gl⟩, ?_, by simp, .inl ⟨by omega, by rw [take_more0 ha], by rw [List.range_succ, List.map_append]; rfl⟩⟩, rfl, rfl, by simp; omega⟩
    · have := ok.na; simp; omega
    · intro b hb
      rcases List.mem_append.mp hb with hb | hb
      · exact ok.ax b (List.mem_of_mem_take hb)
      · rw [List.mem_singleton] at hb; subst hb; exact ok.ax b (List.mem_of_getElem? ha)
    · intro m hm
      simp at hm ⊢
      omega
  · omega
theorem MSt.turn {t t2 : Text_} {be : List (Option Nat)} {i : Nat} (ok : TOk t) (h : MSt t i be t2) (hi : t.axioms.length ≤ i) : ∃ d : Draft, d = (t.rows.take (i - t.axioms.length)).foldl addTo (firstDraft t) ∧ be = d.to ∧ t2 = ⟨t.axioms, d.rows, t.goals⟩ ∧ d.fs = Vapcma.formulas t2 := by
  rcases h.st with ⟨h1, rfl, rfl⟩ | ⟨_, h⟩
  · obtain rfl : i = t.axioms.length := by omega
    refine ⟨firstDraft t, by simp, rfl, by rw [List.take_length]; rfl, ?_⟩
    rw [List.take_length]; rfl
  · exact h
theorem MSt.row {t t2 : Text_} {n : Nat} {be : List (Option Nat)} {r : Vapcma.Row} {x : Option Nat} (ok : TOk t) (h : MSt t (t.axioms.length + n) be t2) (hr : t.rows[n]? = some r) {bi bj : Option Nat} (hbi : be[r.i]? = some bi) (hbj : be[r.j]? = some bj) :
    (mergeV (Vapcma.formulas t2) bi bj = (x, none) → MSt t (t.axioms.length + n + 1) (be ++ [x]) t2) ∧
    (∀ a b f, mergeV (Vapcma.formulas t2) bi bj = (x, some (a, b, f)) → MSt t (t.axioms.length + n + 1) (be ++ [x]) ⟨t2.axioms, t2.rows ++ [⟨r.name, a, b⟩], t2.goals⟩ ∧
      txOf ⟨t2.axioms, t2.rows ++ [⟨r.name, a, b⟩], t2.goals⟩ = ⟨(txOf t2).ns ++ [r.name], (txOf t2).ss ++ [some (a, b)], (txOf t2).fs ++ [some f], (txOf t2).gs⟩) := by
  obtain ⟨d, hd, rfl, rfl, hfs⟩ := h.turn ok (by omega)
  rw [Nat.add_sub_cancel_left] at hd
  have hstep : (t.rows.take (t.axioms.length + n + 1 - t.axioms.length)).foldl addTo (firstDraft t) = addTo d r := by
    rw [show t.axioms.length + n + 1 - t.axioms.length = n + 1 by omega, take_more0 hr, List.foldl_append, ← hd]; rfl
  have hadd := addTo_eq d r
  rw [hbi, hbj] at hadd
  simp only [Option.getD_some] at hadd
  have hn := (List.getElem?_eq_some_iff.mp hr).1
  have hnr := ok.nr
  have hrz := h.rz
  have hfl := tx_fs ⟨t.axioms, d.rows, t.goals⟩
  have hfl2 : (Vapcma.formulas ⟨t.axioms, d.rows, t.goals⟩).length = t.axioms.length + d.rows.length := hfl
  have hlen := h.len
  dsimp only at hrz
  constructor
  · intro e
    rw [hfs, e] at hadd
    dsimp only at hadd
    refine ⟨by rw [List.length_append, hlen]; rfl, h.ok, ?_, by dsimp only; omega, .inr ⟨by omega, addTo d r, hstep.symm, by rw [hadd], by rw [hadd], by first | (rw [hadd]; done) | (rw [hadd]; exact hfs)⟩⟩
    intro m hm
    rcases List.mem_append.mp hm with hm | hm
    · exact h.lt m hm
    · rw [List.mem_singleton] at hm
      have := mergeV_none e m hm.symm
      rw [hfl2] at this
      exact this
  · intro a b f e
    obtain ⟨ea, eb, ex, ed⟩ := mergeV_some e
    have ha : a < t.axioms.length + d.rows.length := h.lt a (by rw [← ea]; exact List.mem_of_getElem? hbi)
    have hb : b < t.axioms.length + d.rows.length := h.lt b (by rw [← eb]; exact List.mem_of_getElem? hbj)
    obtain ⟨ga, hga⟩ : ∃ g, (Vapcma.formulas ⟨t.axioms, d.rows, t.goals⟩)[a]? = some g := ⟨_, List.getElem?_eq_getElem (by omega)⟩
    obtain ⟨gb, hgb⟩ : ∃ g, (Vapcma.formulas ⟨t.axioms, d.rows, t.goals⟩)[b]? = some g := ⟨_, List.getElem?_eq_getElem (by omega)⟩
    rw [hga, hgb] at ed
    simp only [Option.getD_some] at ed
    have htx := tx_row t.axioms d.rows ⟨r.name, a, b⟩ t.goals hga hgb
    rw [ed] at htx
    have hrr := ok.rw n r hr
    rw [hfs, e] at hadd
    dsimp only at hadd
    refine ⟨⟨by rw [List.length_append, hlen]; rfl, tok_row h.ok (show d.rows.length < 24 by omega) ha hb hrr.2.2.1 hrr.2.2.2, ?_, by dsimp only; rw [List.length_append, List.length_singleton]; omega, .inr ⟨by omega, addTo d r, hstep.symm, by rw [hadd], by rw [hadd], ?_⟩⟩, htx.symm⟩
    · intro m hm
      dsimp only
      rw [List.length_append, List.length_singleton]
      rcases List.mem_append.mp hm with hm | hm
      · have := h.lt m hm; dsimp only at this; omega
      · rw [List.mem_singleton] at hm
        rw [ex] at hm
        have := Option.some.inj hm
        rw [hfl2] at this
        omega
    · rw [hadd]
      exact congrArg Tx.fs htx
theorem MSt.done {t t2 : Text_} {be : List (Option Nat)} (ok : TOk t) (h : MSt t (t.axioms.length + t.rows.length) be t2) : t2 = Vapcmb.merged t := by
  obtain ⟨d, hd, _, rfl, _⟩ := h.turn ok (by omega)
  rw [Nat.add_sub_cancel_left, List.take_length] at hd
  subst hd
  rfl
end Shp
end
section
set_option maxRecDepth 100000
set_option maxHeartbeats 4000000
namespace Shp
open PySem PySem.Spec PyProof.Rows L2
open Vapcma (Form Text_ Axiom)
section
variable {P : Program} {w : World} {K : PySem.W.Frag} {mg : Str → Option Value} {base : Heap}
/-- a new text's object beside another: nothing that stood is part of it -/
theorem fresh_ne {H H' : Hp} {L M : List Addr} (s : Same H H') (hL : ∀ y ∈ L, ∃ o, H y = some o) (hM : ∀ y ∈ M, H y = none) : ∀ y ∈ M, y ∉ L := fun y hy hl => by
  obtain ⟨o, ho⟩ := hL y hl
  rw [hM y hy] at ho; cases ho
theorem TAt.some {C : Addr} {H : Hp} {A : TA} {x : Tx} (h : TAt K C H A x) : ∀ y ∈ A.all, ∃ o, H y = .some o := fun y hy => by
  obtain ⟨o, ho, _⟩ := h.noTup y hy
  exact ⟨o, ho⟩
/-- the goals of one text put at the end of an empty text's goals -/
theorem TAt.goals {C : Addr} {H : Hp} {A : TA} {gs : List Form} {us : List V} (h : TAt K C H A ⟨[], [], [], []⟩) (hu : Paired (fun v g => FrmAt K H v (.some g)) us gs) : TAt K C (upd H A.go (.lst ([] ++ us))) A ⟨[], [], [], gs⟩ := by
  have kp : Keep A.lists H (upd H A.go (.lst ([] ++ us))) := Keep.upd (by simp)
  have t : Tups K H (upd H A.go (.lst ([] ++ us))) := kp.tups (h.noTup.sub (by simp))
  have na := h.ne_a
  simp only [TA.lists, List.mem_cons, List.not_mem_nil, or_false, not_or] at na
  obtain ⟨vs, s1, s2⟩ := h.s
  obtain ⟨ws, f1, f2⟩ := h.f
  exact ⟨by rw [upd_ne na.2.2.2]; exact h.o, by rw [upd_ne h.d3]; exact h.n, ⟨vs, by rw [upd_ne h.d5]; exact s1, paired_mono (fun _ _ z => z.tups t) s2⟩, ⟨ws, by rw [upd_ne h.d6]; exact f1, paired_mono (fun _ _ z => z.tups t) f2⟩, ⟨us, by rw [upd_same]; rfl, paired_mono (fun _ _ z => FrmAt.tups z t) hu⟩, h.d1, h.d2, h.d3, h.d4, h.d5, h.d6⟩
theorem keep1 {H : Hp} {B : Addr} {o : HO} : Keep [B] H (upd H B o) := Keep.upd (by simp)
theorem noTup1 {H : Hp} {B : Addr} {xs : List V} (h : H B = some (.lst xs)) : NoTup H [B] := .cons h (by intro _ z; cases z) (by intro _ _ z; cases z) .nil
def sp_merged (T : Top K mg) : Sp := fun vs H Q _ => ∃ (A : TA) (t : Text_),
  vs = [.ref A.a] ∧ TAt K T.C_Text H A (txOf t) ∧ TOk t ∧ ∀ (A2 : TA) (H' : Hp), Same H H' → TAt K T.C_Text H' A2 (txOf (Vapcmb.merged t)) → TOk (Vapcmb.merged t) → Q (.ref A2.a) H'
theorem ok_merged (T : Top K mg) : FnOk P w K mg base CX0 7 T.d_merged.f T.d_merged.fd P_merged (sp_merged T) := by
  refine T.d_merged.F.ok sc_merged (fun vs H Q E h => by obtain ⟨_, _, rfl, _⟩ := h; rfl) (fun cdv A outer s H vs Q E hr h => ?_)
  refine ⟨_, (pss_cons (ps_set (i := 1) sc_merged.nd rfl (Or.inl rfl) (pe_make0 T.m_Text___init__.M (ok_Text___init__ T) (hr.mono (by decide)) rfl T.mg_Text T.m_Text___init__.b .nil pass0))
    (pss_cons (ps_expr (pe_bm PySem.F.plainAttrs_list PySem.F.slot_list_extend PySem.F.type_list_extend mt_extend (pe_fld (pv 1) rfl) (pa_cons (pe_fld (pv 0) rfl) pa_nil)))
    (pss_cons (ps_set (i := 2) sc_merged.nd rfl (Or.inl rfl) (pe_lst pa_nil))
    (pss_cons (ps_for PassesOwn.never rfl (pi_enum (by rfl) T.b_enumerate (pa_cons (pe_fld (pv 0) rfl) pa_nil)) (pg_tup rfl (pgs_cons (pg_name (i := 3) sc_merged.nd rfl (Or.inl rfl)) (pgs_cons (pg_name (i := 4) sc_merged.nd rfl (Or.inl rfl)) pgs_nil)))
      (pss_one (ps_if (pt_cmpR op_isN (pv 4) pe_non (nomark _)) (pss_cons (ps_expr (pe_meth (pv 1) T.cl_Text T.m_Text_add_item.m (ok_Text_add_item T) (hr.mono (by decide)) T.m_Text_add_item.b .nil pass0 (pa_cons (pe_ix ix_list (pe_fld (pv 0) rfl) (pv 3) (fun _ _ => rfl)) (pa_cons pe_non (pa_cons (pe_ix ix_list (pe_fld (pv 0) rfl) (pv 3) (fun _ _ => rfl)) pa_nil)))))
        (pss_one (ps_expr (pe_bm PySem.F.plainAttrs_list PySem.F.slot_list_append PySem.F.type_list_append mt_append (pv 2) (pa_cons (pv 3) pa_nil))))) (pss_one (ps_expr (pe_bm PySem.F.plainAttrs_list PySem.F.slot_list_append PySem.F.type_list_append mt_append (pv 2) (pa_cons (pe_call (ok_merge_row T) (hr.mono (by decide)) rfl T.d_merge_row.mg T.d_merge_row.F.kp T.d_merge_row.b .nil pass0 (pa_cons (pv 0) (pa_cons (pv 3) (pa_cons (pv 2) (pa_cons (pv 1) pa_nil))))) pa_nil)))))))
    (pss_one (ps_ret (pv 1))))))), ?_⟩
  obtain ⟨A, t, rfl, hT, hok, hq⟩ := h
  obtain ⟨vs, s1, s2⟩ := hT.s
  obtain ⟨us, g1, g2⟩ := hT.g
  obtain ⟨ws, f1, f2⟩ := hT.f
  have hvl := s2.length
  have hsl := tx_ss t
  have hnl := tx_ns t
  have hfl := tx_fs t
  have hna := hok.na
  have hnr := hok.nr
  have hng := hok.ng
  have hul : us.length = t.goals.length := g2.length
  intro ta tdx hta htdx htne
  refine ⟨ta, tdx, rfl, upd_same, fun H1 na so fo go hT1 nls kp1 => ⟨rfl, ?_⟩⟩
  have sm1 : Same H H1 := fun c o q => kp1 c o (by rw [upd_ne (ne_of_none q hta), upd_ne (ne_of_none q htdx)]; exact q) (by simp; exact fun e => by rw [e, hta] at q; cases q)
  have fr : ∀ c, (upd (upd H tdx (.own ta)) ta (.ins T.C_Text tdx [])) c = none → H c = none := fun c h => by
    by_cases e : c = ta
    · rw [e]; exact hta
    · rw [upd_ne e] at h
      by_cases e2 : c = tdx
      · rw [e2]; exact htdx
      · rw [upd_ne e2] at h; exact h
  have hfree : ∀ y ∈ TA.all ⟨ta, tdx, na, so, fo, go⟩, H y = none := fun y hy => by
    rcases List.mem_cons.mp hy with rfl | hy
    · exact hta
    · exact fr y (nls y hy)
  clear kp1 nls fr htne
  generalize hA2 : (⟨ta, tdx, na, so, fo, go⟩ : TA) = A2 at *
  obtain rfl : ta = A2.a := by rw [← hA2]
  have hdis : ∀ y ∈ A2.all, y ∉ A.all := fresh_ne sm1 hT.some hfree
  have hT1' := hT.same sm1
  obtain ⟨us1, g3, g4⟩ := hT1.g
  cases g4
  refine ⟨_, rfl, A2.a, _, A2.dx, _, _, rfl, hT1.o, T.cl_Text, T.n_Text_goals, tF_goals _, tyL g3, _, rfl, A.a, _, A.dx, _, _, rfl, hT1'.o, T.cl_Text, T.n_Text_goals, tF_goals _, A2.go, A.go, _, _, rfl, rfl, g3, sm1 _ _ g1, small_ok (m := 10000) (by show 0 + us.length ≤ _; omega), ?_⟩
  have hT2 := hT1.goals (gs := t.goals) (us := us) (paired_mono (fun _ _ z => FrmAt.tups z (fun _ _ q => same_seqT sm1 q)) g2)
  have sm2 : Same H (upd H1 A2.go (.lst ([] ++ us))) := same_old sm1 (hfree _ (by simp))
  generalize upd H1 A2.go (.lst ([] ++ us)) = H2 at *
  refine ⟨Nat.zero_le _, fun B hB => ?_⟩
  have sm3 : Same H (upd H2 B (.lst [])) := same_newer sm2 hB
  have hB0 : H B = none := sm2.free hB
  have hT3 : TAt K T.C_Text (upd H2 B (.lst [])) A2 ⟨[], [], [], t.goals⟩ := hT2.same (same_new hB)
  have hBA : B ∉ A2.all := fun m => by
    obtain ⟨o, ho⟩ := hT2.some B m
    rw [hB] at ho; cases ho
  have hBn : (upd H2 B (.lst [])) B = some (.lst []) := upd_same
  generalize upd H2 B (.lst []) = H3 at *
  have hsub : ∀ y ∈ A2.lists, y ∈ A2.all := fun y hy => by simp at hy ⊢; exact .inr hy
  refine ⟨_, rfl, A.a, _, A.dx, _, _, rfl, sm3 _ _ hT.o, T.cl_Text, T.n_Text_sources, tF_sources _, A.so, vs, rfl, SqL.of (sm3 _ _ s1), for_it walk_enum (fun i σ H' => ∃ (be : List (Option Nat)) (t2 : Text_) (v3 v4 : Option V), σ = [some (.ref A.a), some (.ref A2.a), some (.ref B), v3, v4] ∧ Same H H' ∧
      H' B = some (.lst (be.map optV)) ∧ TAt K T.C_Text H' A2 (txOf t2) ∧ MSt t i be t2)
    ⟨[], ⟨[], [], t.goals⟩, none, none, rfl, sm3, hBn, hT3, MSt.start hok⟩ (fun i σ H' _ ⟨_, _, _, _, _, sm, _⟩ => SqL.of (sm _ _ s1)) ?_ ?_⟩
  · rintro i y σ H4 H5 hi ⟨be, t2, v3, v4, rfl, sm4, hb4, hT4, hM⟩ ⟨Tp, x1, x2, rfl, hTp, rfl, e1, e2⟩
    cases e1
    have e2 : vs[i]? = some x2 := e2
    have hilt : i < (txOf t).ss.length := by omega
    obtain ⟨v, h1, h2⟩ := Shp.paired_get s2 (List.getElem?_eq_getElem hilt)
    rw [e2] at h1; cases h1
    have smT := same_new (o := .tup [.int ((i : Nat) : Int), x2]) hTp
    have sm5 := sm4.trans smT
    have hb5 := smT _ _ hb4
    have hT5 := hT4.same smT
    refine ⟨Tp, _, rfl, SqT.of upd_same, rfl, _, _, rfl, _, _, rfl, rfl, ?_⟩
    generalize upd H4 Tp (.tup [.int ((i : Nat) : Int), x2]) = H5 at *
    clear smT
    have hbl : (be.map optV).length < sizeLine := small_lt (m := 10000) (by rw [List.length_map, hM.len]; omega)
    have hTA := hT.same sm5
    -- a value put at the end of become
    have fin : ∀ (H6 : Hp) (t3 : Text_) (x : Option Nat) (z3 z4 : Option V), Same H H6 → H6 B = some (.lst (be.map optV)) → TAt K T.C_Text H6 A2 (txOf t3) → MSt t (i + 1) (be ++ [x]) t3 →
        ∃ (be' : List (Option Nat)) (t2 : Text_) (v3 v4 : Option V), [some (.ref A.a), some (.ref A2.a), some (.ref B), z3, z4] = [some (.ref A.a), some (.ref A2.a), some (.ref B), v3, v4] ∧ Same H (upd H6 B (.lst (be.map optV ++ [optV x]))) ∧
      (upd H6 B (.lst (be.map optV ++ [optV x]))) B = some (.lst (be'.map optV)) ∧ TAt K T.C_Text (upd H6 B (.lst (be.map optV ++ [optV x]))) A2 (txOf t2) ∧ MSt t (i + 1) be' t2 := by
      intro H6 t3 x z3 z4 sm6 hb6 hT6 hM6
      refine ⟨be ++ [x], t3, z3, z4, rfl, same_old sm6 hB0, by rw [upd_same, List.map_append]; rfl, hT6.keep keep1 (noTup1 hb6) (fun y hy => by rw [List.mem_singleton.mp hy]; exact hBA), hM6⟩
    have hkeepB : ∀ {H6 H7 : Hp}, Keep A2.lists H6 H7 → H6 B = some (.lst (be.map optV)) → H7 B = some (.lst (be.map optV)) := fun k h => k _ _ h (fun m => hBA (hsub _ m))
    refine ⟨_, rfl, rfl, _, rfl, ?_⟩
    cases hs : (txOf t).ss[i] with
    | none =>
      rw [hs] at h2
      refine iteT (decide_eq_true h2) ?_
      have hax : i < t.axioms.length := by
        by_cases c : i < t.axioms.length
        · exact c
        · obtain ⟨x, hx⟩ := hok.wf.rest i (by omega) hilt
          rw [List.getElem?_eq_getElem hilt, hs] at hx; cases hx
      have ha := List.getElem?_eq_getElem hax
      have hao := hok.ax _ (List.mem_of_getElem? ha)
      obtain ⟨m1, m2, m3, m4⟩ := hM.ax hok ha
      have hni : (txOf t).ns[i]? = some t.axioms[i].name := by
        show (t.axioms.map _ ++ t.rows.map _)[i]? = _
        rw [List.getElem?_append_left (by simpa using hax), List.getElem?_map, ha]; rfl
      have hfi : (txOf t).fs[i]? = some (some t.axioms[i].f) := by
        obtain ⟨q, hq⟩ : ∃ q, Vapcma.formulas t = (t.axioms.map fun a => some (Vapcma.normal a.f)) ++ q := grow_pre _ t.rows _
        show (Vapcma.formulas t)[i]? = _
        rw [hq, List.getElem?_append_left (by simpa using hax), List.getElem?_map, ha]
        show some (some (Vapcma.normal _)) = _
        rw [hao.2.1.normal]
      obtain ⟨ws5, f3, f4⟩ := hTA.f
      obtain ⟨u, hu1, p, rfl, hp⟩ := Shp.paired_get f4 hfi
      have l1 := tx_ns t2
      have l2 := tx_ss t2
      have l3 := tx_fs t2
      have l4 := hM.ok.na
      have l5 := hM.ok.nr
      refine ⟨_, rfl, A2.a, A2.dx, _, rfl, hT5.o, tF_no (by decide +kernel) (by decide +kernel) (by decide +kernel) (by decide +kernel) _, _, rfl, A.a, _, A.dx, _, _, rfl, hTA.o, T.cl_Text, T.n_Text_names, tF_names _, _, rfl, _, _, _, _, rfl, rfl, SqL.of hTA.n, atI_nat' (tx_n_at hTA hni), _, rfl, A.a, _, A.dx, _, _, rfl, hTA.o, T.cl_Text, T.n_Text_formulas, tF_formulas _, _, rfl, _, _, _, _, rfl, rfl, SqL.of f3, atI_nat' hu1, ?_⟩
      refine ⟨A2, txOf t2, t.axioms[i].name, .non, .ref p, none, some t.axioms[i].f, rfl, hT5, rfl, ⟨p, rfl, hp⟩, by omega, by omega, by omega, fun H6 hT6 kp6 => ?_⟩
      have ex : (⟨(txOf t2).ns ++ [t.axioms[i].name], (txOf t2).ss ++ [none], (txOf t2).fs ++ [some t.axioms[i].f], (txOf t2).gs⟩ : Tx) = txOf ⟨t2.axioms ++ [t.axioms[i]], t2.rows, t.goals⟩ := by
        obtain ⟨as2, rs2, gs2⟩ := t2
        dsimp only at m2 m3 ⊢
        subst m2 m3
        have := fo_ax as2 t.axioms[i] t.goals hao.2.1
        show (⟨_, _, Vapcma.formulas ⟨as2, [], t.goals⟩ ++ [some t.axioms[i].f], _⟩ : Tx) = ⟨_, _, Vapcma.formulas ⟨as2 ++ [t.axioms[i]], [], t.goals⟩, _⟩
        rw [this]
        simp [txOf]
      rw [ex] at hT6
      have sm6 : Same H H6 := Keep.same sm5 kp6 (fun y hy => hfree y (hsub y hy))
      have hb6 := hkeepB kp6 hb5
      refine ⟨_, rfl, tyL hb6, _, rfl, B, _, _, rfl, rfl, hb6, hbl, ?_⟩
      exact fin H6 _ (some i) _ _ sm6 hb6 hT6 m1
    | some x =>
      rw [hs] at h2
      obtain ⟨q, rfl, hqT⟩ := h2
      refine iteF (by simp) ?_
      have hxs : (txOf t).ss[i]? = some (some x) := by rw [List.getElem?_eq_getElem hilt, hs]
      obtain ⟨n, r, hin, hr, hx⟩ := tx_row_at t hxs
      have hlt := hok.wf.rows i x hxs
      subst hx hin
      have hbl2 := hM.len
      obtain ⟨bi, hbi⟩ : ∃ b, be[r.i]? = some b := ⟨_, List.getElem?_eq_getElem (by have := hlt.2.1; dsimp only at this; omega)⟩
      obtain ⟨bj, hbj⟩ : ∃ b, be[r.j]? = some b := ⟨_, List.getElem?_eq_getElem (by have := hlt.2.2; dsimp only at this; omega)⟩
      have hni : (txOf t).ns[t.axioms.length + n]? = some r.name := by
        show (t.axioms.map _ ++ t.rows.map _)[_]? = _
        rw [List.getElem?_append_right (by simp), List.getElem?_map, List.length_map, Nat.add_sub_cancel_left, hr]; rfl
      have l1 := tx_ns t2
      have l2 := tx_ss t2
      have l3 := tx_fs t2
      have l4 := hM.ok.na
      have l5 := hM.ok.nr
      have hlt2 : ∀ m, (bi = some m ∨ bj = some m) → m < (txOf t2).fs.length := fun m hm => by
        rw [l3]
        rcases hm with rfl | rfl
        · exact hM.lt m (List.mem_of_getElem? hbi)
        · exact hM.lt m (List.mem_of_getElem? hbj)
      refine ⟨_, rfl, tyL hb5, _, rfl, _, rfl, _, rfl, _, rfl, A, txOf t, A2, txOf t2, B, be, t.axioms.length + n, r.i, r.j, r.name, bi, bj, rfl, hTA, hT5, hb5, hxs, hni, hbi, hbj, hlt2, hM.ok.sizes1000, by omega, by omega, by omega, fun y hy => hdis y (hsub y hy), fun x e H6 sm6 => ?_, fun x a b f e H6 hT6 kp6 => ?_⟩
      · have hM2 := (hM.row (x := x) hok hr hbi hbj).1 e
        have hb6 := sm6 _ _ hb5
        refine ⟨B, _, _, rfl, rfl, hb6, hbl, ?_⟩
        exact fin H6 t2 x _ _ (sm5.trans sm6) hb6 (hT5.same sm6) hM2
      · obtain ⟨hM2, htx⟩ := (hM.row (x := x) hok hr hbi hbj).2 a b f e
        rw [← htx] at hT6
        have hb6 := hkeepB kp6 hb5
        refine ⟨B, _, _, rfl, rfl, hb6, hbl, ?_⟩
        exact fin H6 _ x _ _ (Keep.same sm5 kp6 (fun y hy => hfree y (hsub y hy))) hb6 hT6 hM2
  · rintro σ H4 ⟨be, t2, v3, v4, rfl, sm4, hb4, hT4, hM⟩
    rw [hvl, hsl] at hM
    have hm := hM.done hok
    refine ⟨_, rfl, ?_⟩
    rw [hm] at hT4
    exact hq A2 H4 sm4 hT4 (by rw [← hm]; exact hM.ok)
end
end Shp
end
section
set_option maxRecDepth 100000
set_option maxHeartbeats 4000000
namespace Shp
open PySem PySem.Spec PyProof.Rows L2
open Vapcma (Form Text_ Axiom)
def rowG (l : List (Option Form)) (r : Vapcma.Row) : Option Form := detF ((l[r.i]?).getD none) ((l[r.j]?).getD none)
theorem fo_grow (t : Text_) : Vapcma.formulas t = grow rowG t.rows (t.axioms.map fun a => some (Vapcma.normal a.f)) := rfl
theorem fo_at {t : Text_} (ok : TOk t) {m : Nat} {r : Vapcma.Row} (h : t.rows[m]? = some r) : ∃ f g, (Vapcma.formulas t)[r.i]? = some f ∧ (Vapcma.formulas t)[r.j]? = some g ∧ (Vapcma.formulas t)[t.axioms.length + m]? = some (detF f g) := by
  have hr := ok.rw m r h
  have hl : (Vapcma.formulas t).length = t.axioms.length + t.rows.length := tx_fs t
  have hm := (List.getElem?_eq_some_iff.mp h).1
  have e := grow_at rowG (l := t.axioms.map fun a => some (Vapcma.normal a.f)) h
  rw [List.length_map, ← fo_grow] at e
  obtain ⟨f, hf⟩ : ∃ f, (Vapcma.formulas t)[r.i]? = some f := ⟨_, List.getElem?_eq_getElem (by omega)⟩
  obtain ⟨g, hg⟩ : ∃ g, (Vapcma.formulas t)[r.j]? = some g := ⟨_, List.getElem?_eq_getElem (by omega)⟩
  refine ⟨f, g, hf, hg, ?_⟩
  rw [e]
  unfold rowG
  rw [List.getElem?_take_of_lt hr.1, List.getElem?_take_of_lt hr.2.1, hf, hg]; rfl
theorem fo_ax_at {t : Text_} (ok : TOk t) {i : Nat} {a : Axiom} (h : t.axioms[i]? = some a) : (Vapcma.formulas t)[i]? = some (some a.f) := by
  have hi := (List.getElem?_eq_some_iff.mp h).1
  obtain ⟨q, hq⟩ : ∃ q, Vapcma.formulas t = (t.axioms.map fun a => some (Vapcma.normal a.f)) ++ q := grow_pre _ t.rows _
  rw [hq, List.getElem?_append_left (by simpa using hi), List.getElem?_map, h]
  show some (some (Vapcma.normal _)) = _
  rw [(ok.ax a (List.mem_of_getElem? h)).2.1.normal]
def toN (t : Text_) (p : Nat → Bool) (k : Nat) : Nat := if k < t.axioms.length then k else t.axioms.length + ((List.range k).filter p).length
def newRow (t : Text_) (p : Nat → Bool) (k : Nat) : Option Vapcma.Row := (t.rows[k - t.axioms.length]?).map fun r => ⟨r.name, toN t p r.i, toN t p r.j⟩
structure PGood (t : Text_) (p : Nat → Bool) : Prop where
  lo : ∀ k, p k = true → t.axioms.length ≤ k
  hi : ∀ k, p k = true → k < Vapcma.count t
  cl : ∀ m r, t.rows[m]? = some r → p (t.axioms.length + m) = true → (r.i < t.axioms.length ∨ p r.i = true) ∧ (r.j < t.axioms.length ∨ p r.j = true)
structure PSt (t : Text_) (p : Nat → Bool) (i : Nat) (kvs : List (L2.Key × V)) (t2 : Text_) : Prop where
  ok : TOk t2
  ax : t2.axioms = t.axioms.take i
  rw : t2.rows = ((List.range i).filter p).filterMap (newRow t p)
  gl : t2.goals = t.goals
  rz : t2.rows.length = ((List.range i).filter p).length
  fs : ∀ k, k < i → (k < t.axioms.length ∨ p k = true) → ∃ f, (Vapcma.formulas t)[k]? = some f ∧ (Vapcma.formulas t2)[toN t p k]? = some f
  kv : ∀ k : Nat, valV kvs (.inl (k : Int)) = if k < i ∧ (k < t.axioms.length ∨ p k = true) then some (.int ((toN t p k : Nat) : Int)) else none
  kz : kvs.length ≤ i
theorem range_filter_none {t : Text_} {p : Nat → Bool} (g : PGood t p) {i : Nat} (h : i ≤ t.axioms.length) : (List.range i).filter p = [] := by
  rw [List.filter_eq_nil_iff]
  intro k hk hp
  have := g.lo k hp
  have := List.mem_range.mp hk
  omega
theorem filter_succ (p : Nat → Bool) (i : Nat) : (List.range (i + 1)).filter p = (List.range i).filter p ++ if p i = true then [i] else [] := by
  rw [List.range_succ, List.filter_append]
  congr 1
  by_cases c : p i = true
  · rw [if_pos c]; simp [c]
  · rw [if_neg c]; simp [c]
theorem PSt.start {t : Text_} (ok : TOk t) (p : Nat → Bool) : PSt t p 0 [] ⟨[], [], t.goals⟩ :=
  ⟨⟨by simp, by simp, ok.ng, by simp, by simp, ok.gl⟩, by simp, rfl, rfl, rfl, fun k h => absurd h (by omega), fun k => by rw [if_neg (by omega)]; rfl, Nat.le_refl _⟩
theorem kv_step {t : Text_} {p : Nat → Bool} {i : Nat} {kvs : List (L2.Key × V)} (h : ∀ k : Nat, valV kvs (.inl (k : Int)) = if k < i ∧ (k < t.axioms.length ∨ p k = true) then some (.int ((toN t p k : Nat) : Int)) else none) (c : i < t.axioms.length ∨ p i = true) (k : Nat) :
    valV (putK kvs (.inl (i : Int)) (.int ((toN t p i : Nat) : Int))) (.inl (k : Int)) = if k < i + 1 ∧ (k < t.axioms.length ∨ p k = true) then some (.int ((toN t p k : Nat) : Int)) else none := by
  rw [valV_put]
  by_cases e : k = i
  · subst e
    rw [if_pos rfl, if_pos ⟨by omega, c⟩]
  · rw [if_neg (fun q => e (by have := Sum.inl.inj q; omega)), h]
    by_cases c2 : k < i ∧ (k < t.axioms.length ∨ p k = true)
    · rw [if_pos c2, if_pos ⟨by omega, c2.2⟩]
    · rw [if_neg c2, if_neg (fun q => c2 ⟨by omega, q.2⟩)]
theorem PSt.addAx {t t2 : Text_} {p : Nat → Bool} (g : PGood t p) {i : Nat} {kvs : List (L2.Key × V)} {a : Axiom} (ok : TOk t) (h : PSt t p i kvs t2) (ha : t.axioms[i]? = some a) :
    PSt t p (i + 1) (putK kvs (.inl (i : Int)) (.int ((toN t p i : Nat) : Int))) ⟨t2.axioms ++ [a], t2.rows, t.goals⟩ ∧ t2.rows = [] ∧ t2.axioms.length = i ∧ toN t p i = i ∧
    (⟨(txOf t2).ns ++ [a.name], (txOf t2).ss ++ [none], (txOf t2).fs ++ [some a.f], (txOf t2).gs⟩ : Tx) = txOf ⟨t2.axioms ++ [a], t2.rows, t.goals⟩ := by
  have hi := (List.getElem?_eq_some_iff.mp ha).1
  have hao := ok.ax a (List.mem_of_getElem? ha)
  have hr0 : t2.rows = [] := by rw [h.rw, range_filter_none g (by omega)]; rfl
  have hal : t2.axioms.length = i := by rw [h.ax, List.length_take]; omega
  have htn : toN t p i = i := by unfold toN; rw [if_pos hi]
  have hgl := h.gl
  have hax := h.ax
  have hfs := h.fs
  have hrw := h.rw
  have hna := ok.na
  obtain ⟨as2, rs2, gs2⟩ := t2
  dsimp only at hr0 hal hgl hax hfs hrw ⊢
  subst hr0 hgl
  have hfo : Vapcma.formulas ⟨as2 ++ [a], [], t.goals⟩ = Vapcma.formulas ⟨as2, [], t.goals⟩ ++ [some a.f] := fo_ax as2 a t.goals hao.2.1
  have hfl : (Vapcma.formulas ⟨as2, [], t.goals⟩).length = i := by
    have e : (Vapcma.formulas ⟨as2, [], t.goals⟩).length = as2.length + 0 := tx_fs ⟨as2, [], t.goals⟩
    omega
  refine ⟨⟨⟨by simp; omega, by simp, ok.ng, ?_, by simp, ok.gl⟩, ?_, ?_, rfl, ?_, ?_, kv_step h.kv (.inl hi), Nat.le_trans (putK_le' _ _ _) (by have := h.kz; omega)⟩, rfl, hal, htn, ?_⟩
  · intro b hb
    rcases List.mem_append.mp hb with hb | hb
    · rw [hax] at hb; exact ok.ax b (List.mem_of_mem_take hb)
    · rw [List.mem_singleton] at hb; subst hb; exact hao
  · dsimp only; rw [take_more0 ha, hax]
  · rw [range_filter_none g (by omega)]; rfl
  · rw [range_filter_none g (by omega)]; rfl
  · intro k hk hc
    rw [hfo]
    by_cases e : k = i
    · subst e
      refine ⟨_, fo_ax_at ok ha, ?_⟩
      rw [htn, List.getElem?_append_right (by omega), hfl, Nat.sub_self]; rfl
    · obtain ⟨f, h1, h2⟩ := hfs k (by omega) hc
      refine ⟨f, h1, ?_⟩
      rw [List.getElem?_append_left (List.getElem?_eq_some_iff.mp h2).1]; exact h2
  · show (⟨_, _, Vapcma.formulas ⟨as2, [], t.goals⟩ ++ [some a.f], _⟩ : Tx) = ⟨_, _, Vapcma.formulas ⟨as2 ++ [a], [], t.goals⟩, _⟩
    rw [hfo]
    simp [txOf]
theorem PSt.skip {t t2 : Text_} {p : Nat → Bool} {i : Nat} {kvs : List (L2.Key × V)} (h : PSt t p i kvs t2) (hi : t.axioms.length ≤ i) (hp : p i = false) : PSt t p (i + 1) kvs t2 := by
  have hf : (List.range (i + 1)).filter p = (List.range i).filter p := by rw [filter_succ, if_neg (by rw [hp]; exact Bool.false_ne_true), List.append_nil]
  refine ⟨h.ok, ?_, by rw [hf]; exact h.rw, h.gl, by rw [hf]; exact h.rz, fun k hk hc => h.fs k ?_ hc, fun k => ?_, by have := h.kz; omega⟩
  · rw [h.ax, List.take_of_length_le hi, List.take_of_length_le (by omega)]
  · by_cases e : k = i
    · subst e; rcases hc with hc | hc
      · omega
      · rw [hp] at hc; cases hc
    · omega
  · rw [h.kv]
    by_cases c : k < i ∧ (k < t.axioms.length ∨ p k = true)
    · rw [if_pos c, if_pos ⟨by omega, c.2⟩]
    · rw [if_neg c, if_neg]
      rintro ⟨h1, h2⟩
      by_cases e : k = i
      · subst e; rcases h2 with h2 | h2
        · omega
        · rw [hp] at h2; cases h2
      · exact c ⟨by omega, h2⟩
theorem PSt.addRow {t t2 : Text_} {p : Nat → Bool} (g : PGood t p) {n : Nat} {kvs : List (L2.Key × V)} {r : Vapcma.Row} (ok : TOk t) (h : PSt t p (t.axioms.length + n) kvs t2) (hr : t.rows[n]? = some r) (hp : p (t.axioms.length + n) = true) :
    PSt t p (t.axioms.length + n + 1) (putK kvs (.inl ((t.axioms.length + n : Nat) : Int)) (.int ((toN t p (t.axioms.length + n) : Nat) : Int))) ⟨t2.axioms, t2.rows ++ [⟨r.name, toN t p r.i, toN t p r.j⟩], t2.goals⟩ ∧ t2.axioms.length + t2.rows.length = toN t p (t.axioms.length + n) ∧
    valV kvs (.inl (r.i : Int)) = some (.int ((toN t p r.i : Nat) : Int)) ∧ valV kvs (.inl (r.j : Int)) = some (.int ((toN t p r.j : Nat) : Int)) ∧
    ∃ f, (Vapcma.formulas t)[t.axioms.length + n]? = some f ∧ (⟨(txOf t2).ns ++ [r.name], (txOf t2).ss ++ [some (toN t p r.i, toN t p r.j)], (txOf t2).fs ++ [f], (txOf t2).gs⟩ : Tx) = txOf ⟨t2.axioms, t2.rows ++ [⟨r.name, toN t p r.i, toN t p r.j⟩], t2.goals⟩ := by
  have hrr := ok.rw n r hr
  have hn := (List.getElem?_eq_some_iff.mp hr).1
  have hcl := g.cl n r hr hp
  obtain ⟨f1, f2, e1, e2, e3⟩ := fo_at ok hr
  obtain ⟨f1', e1', a1⟩ := h.fs r.i hrr.1 hcl.1
  obtain ⟨f2', e2', a2⟩ := h.fs r.j hrr.2.1 hcl.2
  rw [e1] at e1'; cases e1'
  rw [e2] at e2'; cases e2'
  have hax : t2.axioms = t.axioms := by rw [h.ax, List.take_of_length_le (by omega)]
  have hal : t2.axioms.length = t.axioms.length := by rw [hax]
  have htn : t2.axioms.length + t2.rows.length = toN t p (t.axioms.length + n) := by unfold toN; rw [if_neg (by omega), hal, h.rz]
  have htx := tx_row t2.axioms t2.rows ⟨r.name, toN t p r.i, toN t p r.j⟩ t2.goals a1 a2
  have hfl : (Vapcma.formulas t2).length = t2.axioms.length + t2.rows.length := tx_fs t2
  have hf : (List.range (t.axioms.length + n + 1)).filter p = (List.range (t.axioms.length + n)).filter p ++ [t.axioms.length + n] := by rw [filter_succ, if_pos hp]
  have hnr : newRow t p (t.axioms.length + n) = some ⟨r.name, toN t p r.i, toN t p r.j⟩ := by unfold newRow; rw [Nat.add_sub_cancel_left, hr]; rfl
  have hz : t2.rows.length < 24 := by
    have h1 : ((List.range (t.axioms.length + n)).filter p).length ≤ n := by
      have h2 : ∀ m, ((List.range (t.axioms.length + m)).filter p).length ≤ m := fun m => by
        induction m with
        | zero => rw [range_filter_none g (by omega)]; exact Nat.le_refl _
        | succ m ih =>
          rw [← Nat.add_assoc, filter_succ, List.length_append]
          by_cases c : p (t.axioms.length + m) = true
          · rw [if_pos c, List.length_singleton]; omega
          · rw [if_neg c, List.length_nil]; omega
      exact h2 n
    have := h.rz
    have := ok.nr
    omega
  have i1 : toN t p r.i < t2.axioms.length + t2.rows.length := by have := (List.getElem?_eq_some_iff.mp a1).1; omega
  have i2 : toN t p r.j < t2.axioms.length + t2.rows.length := by have := (List.getElem?_eq_some_iff.mp a2).1; omega
  have hfo : Vapcma.formulas ⟨t2.axioms, t2.rows ++ [⟨r.name, toN t p r.i, toN t p r.j⟩], t2.goals⟩ = Vapcma.formulas t2 ++ [detF f1 f2] := (congrArg Tx.fs htx).symm
  refine ⟨⟨tok_row h.ok hz i1 i2 hrr.2.2.1 hrr.2.2.2, ?_, ?_, h.gl, ?_, ?_, kv_step h.kv (.inr hp), Nat.le_trans (putK_le' _ _ _) (by have := h.kz; omega)⟩, htn, ?_, ?_, _, e3, htx⟩
  · dsimp only; rw [hax, List.take_of_length_le (by omega)]
  · dsimp only; rw [hf, List.filterMap_append, ← h.rw]; simp [hnr]
  · dsimp only; rw [hf, List.length_append, List.length_append, h.rz]; rfl
  · intro k hk hc
    rw [hfo]
    by_cases e : k = t.axioms.length + n
    · subst e
      refine ⟨_, e3, ?_⟩
      rw [← htn, List.getElem?_append_right (by omega), hfl, Nat.sub_self]; rfl
    · obtain ⟨f, h1, h2⟩ := h.fs k (by omega) hc
      refine ⟨f, h1, ?_⟩
      rw [List.getElem?_append_left (List.getElem?_eq_some_iff.mp h2).1]; exact h2
  · rw [h.kv, if_pos ⟨hrr.1, hcl.1⟩]
  · rw [h.kv, if_pos ⟨hrr.2.1, hcl.2⟩]
/-- which numbers are kept -/
def keptP (t : Text_) (is : List Nat) (k : Nat) : Bool := decide (t.axioms.length ≤ k ∧ k < Vapcma.count t) && is.any fun i => (Vapcma.needs t i).contains k
theorem kept_iff {t : Text_} (ok : TOk t) {is : List Nat} (his : ∀ i ∈ is, i < Vapcma.count t) {k : Nat} : keptP t is k = true ↔ t.axioms.length ≤ k ∧ ∃ i ∈ is, Hang (txOf t).ss i k := by
  unfold keptP
  simp only [Bool.and_eq_true, decide_eq_true_eq, List.any_eq_true, List.contains_iff_mem]
  constructor
  · rintro ⟨⟨h1, _⟩, i, hi, h2⟩
    exact ⟨h1, i, hi, (needs_iff ok (his i hi)).mp h2⟩
  · rintro ⟨h1, i, hi, h2⟩
    have := h2.le ok.wf
    have := his i hi
    exact ⟨⟨h1, by omega⟩, i, hi, (needs_iff ok (his i hi)).mpr h2⟩
theorem kept_range (t : Text_) (is : List Nat) : Vapcmb.neededRows t is = (List.range (Vapcma.count t)).filter (keptP t is) := by
  show (List.range (Vapcma.count t)).filter _ = _
  refine List.filter_congr fun k hk => ?_
  unfold keptP
  have := List.mem_range.mp hk
  congr 1
  rw [decide_eq_decide]
  exact ⟨fun h => ⟨h, this⟩, fun h => h.1⟩
theorem kept_good {t : Text_} (ok : TOk t) {is : List Nat} (his : ∀ i ∈ is, i < Vapcma.count t) : PGood t (keptP t is) := by
  refine ⟨fun k h => ((kept_iff ok his).mp h).1, fun k h => ?_, fun m r hr h => ?_⟩
  · unfold keptP at h
    simp only [Bool.and_eq_true, decide_eq_true_eq] at h
    exact h.1.2
  · obtain ⟨_, i, hi, hh⟩ := (kept_iff ok his).mp h
    have e : (txOf t).ss[t.axioms.length + m]? = some (some (r.i, r.j)) := by rw [tx_at_row, hr]; rfl
    constructor
    · by_cases c : r.i < t.axioms.length
      · exact .inl c
      · exact .inr ((kept_iff ok his).mpr ⟨by omega, i, hi, hh.snoc (.left e (.refl _))⟩)
    · by_cases c : r.j < t.axioms.length
      · exact .inl c
      · exact .inr ((kept_iff ok his).mpr ⟨by omega, i, hi, hh.snoc (.right e (.refl _))⟩)
theorem find_kept {p : Nat → Bool} {n k : Nat} (hk : k < n) (hp : p k = true) : ((List.range n).filter p).findIdx (fun m => m == k) = ((List.range k).filter p).length := by
  obtain ⟨q, rfl⟩ : ∃ q, n = (k + 1) + q := ⟨n - (k + 1), by omega⟩
  rw [List.range_add, List.filter_append, filter_succ, if_pos hp, List.append_assoc]
  have hn : ((List.range k).filter p).findIdx (fun m => m == k) = ((List.range k).filter p).length := by
    rw [List.findIdx_eq_length]
    intro x hx
    have := List.mem_range.mp (List.mem_filter.mp hx).1
    simp; omega
  rw [List.findIdx_append, hn, if_neg (by omega)]
  simp [List.findIdx_cons]
theorem fm_congr {α β : Type} {f g : α → Option β} : ∀ {l : List α}, (∀ x ∈ l, f x = g x) → l.filterMap f = l.filterMap g
  | [], _ => rfl
  | x :: l, h => by
    rw [List.filterMap_cons, List.filterMap_cons, h x (by simp), fm_congr (fun y hy => h y (by simp [hy]))]
theorem PSt.done {t t2 : Text_} (ok : TOk t) {is : List Nat} (his : ∀ i ∈ is, i < Vapcma.count t) {kvs : List (L2.Key × V)} (h : PSt t (keptP t is) (Vapcma.count t) kvs t2) : t2 = Vapcmb.pruned t is := by
  obtain ⟨as2, rs2, gs2⟩ := t2
  have hax := h.ax
  have hrw := h.rw
  have hgl := h.gl
  have g := kept_good ok his
  dsimp only at hax hrw hgl
  subst hax hrw hgl
  have hcn : Vapcma.count t = t.axioms.length + t.rows.length := rfl
  unfold Vapcmb.pruned
  rw [List.take_of_length_le (by omega)]
  congr 1
  rw [← kept_range]
  refine fm_congr fun k hk => ?_
  unfold newRow
  cases hr : t.rows[k - t.axioms.length]? with
  | none => rfl
  | some r =>
    have hp : keptP t is k = true := by rw [kept_range] at hk; exact (List.mem_filter.mp hk).2
    have hlo := g.lo k hp
    obtain ⟨m, rfl⟩ : ∃ m, k = t.axioms.length + m := ⟨k - t.axioms.length, by omega⟩
    rw [Nat.add_sub_cancel_left] at hr
    have hcl := g.cl m r hr hp
    have hto : ∀ x, (x < t.axioms.length ∨ keptP t is x = true) → toN t (keptP t is) x = if x < t.axioms.length then x else t.axioms.length + (Vapcmb.neededRows t is).findIdx fun m => m == x := fun x hx => by
      unfold toN
      by_cases c : x < t.axioms.length
      · rw [if_pos c, if_pos c]
      · rw [if_neg c, if_neg c, kept_range]
        have hx2 : keptP t is x = true := hx.resolve_left c
        rw [find_kept (g.hi x hx2) hx2]
    show some (⟨r.name, toN t (keptP t is) r.i, toN t (keptP t is) r.j⟩ : Vapcma.Row) = _
    rw [hto _ hcl.1, hto _ hcl.2]
    rfl
end Shp
end
section
set_option maxRecDepth 100000
set_option maxHeartbeats 4000000
namespace Shp
open PySem PySem.Spec PyProof.Rows L2
open Vapcma (Form Text_ Axiom)
section
variable {P : Program} {w : World} {K : PySem.W.Frag} {mg : Str → Option Value} {base : Heap}
theorem nvs_in (l : List Nat) (k : Nat) : inV (.int (k : Int)) (nvs l) = l.contains k := by
  induction l with
  | nil => rfl
  | cons m r ih =>
    simp only [nvs, List.map_cons, inV, List.any_cons, List.contains_cons] at ih ⊢
    rw [ih]
    congr 1
    show decide ((m : Int) = (k : Int)) = (k == m)
    rw [Bool.eq_iff_iff, decide_eq_true_eq, beq_iff_eq]
    omega
theorem nvs_flat (l : List Nat) : (nvs l).all flatV = true := by simp [nvs, flatV]
theorem noTupD {H : Hp} {d : Addr} {kvs : List (L2.Key × V)} (h : H d = some (.dK kvs)) : NoTup H [d] := .cons h (by intro _ z; cases z) (by intro _ _ z; cases z) .nil
def sp_with_rows_alone (T : Top K mg) : Sp := fun vs H Q _ => ∃ (A : TA) (t : Text_) (l : Addr) (is : List Nat),
  vs = [.ref A.a, .ref l] ∧ TAt K T.C_Text H A (txOf t) ∧ TOk t ∧ SqL K H l (nvs (Vapcmb.neededRows t is)) ∧ (∀ i ∈ is, i < Vapcma.count t) ∧
  ∀ (A2 : TA) (H' : Hp), Same H H' → TAt K T.C_Text H' A2 (txOf (Vapcmb.pruned t is)) → TOk (Vapcmb.pruned t is) → Q (.ref A2.a) H'
theorem ok_with_rows_alone (T : Top K mg) : FnOk P w K mg base CX0 3 T.d_with_rows_alone.f T.d_with_rows_alone.fd P_with_rows_alone (sp_with_rows_alone T) := by
  refine T.d_with_rows_alone.F.ok sc_with_rows_alone (fun vs H Q E h => by obtain ⟨_, _, _, _, rfl, _⟩ := h; rfl) (fun cdv A outer s H vs Q E hr h => ?_)
  refine ⟨_, (pss_cons (ps_set (i := 2) sc_with_rows_alone.nd rfl (Or.inl rfl) (pe_make0 T.m_Text___init__.M (ok_Text___init__ T) (hr.mono (by decide)) rfl T.mg_Text T.m_Text___init__.b .nil pass0))
    (pss_cons (ps_expr (pe_bm PySem.F.plainAttrs_list PySem.F.slot_list_extend PySem.F.type_list_extend mt_extend (pe_fld (pv 2) rfl) (pa_cons (pe_fld (pv 0) rfl) pa_nil)))
    (pss_cons (ps_set (i := 3) sc_with_rows_alone.nd rfl (Or.inl rfl) pe_dnewK)
    (pss_cons (ps_for PassesOwn.never rfl (pi_enum (by rfl) T.b_enumerate (pa_cons (pe_fld (pv 0) rfl) pa_nil)) (pg_tup rfl (pgs_cons (pg_name (i := 4) sc_with_rows_alone.nd rfl (Or.inl rfl)) (pgs_cons (pg_name (i := 5) sc_with_rows_alone.nd rfl (Or.inl rfl)) pgs_nil)))
      (pss_one (ps_if (pt_cmpR op_isN (pv 5) pe_non (nomark _)) (pss_cons (ps_dput (hu_of hr) (pv 3) (pv 4) (pe_callB call_len (by rfl) T.b_len PySem.boot_len (pa_cons (pe_fld (pv 2) rfl) pa_nil)) rfl)
        (pss_one (ps_expr (pe_meth (pv 2) T.cl_Text T.m_Text_add_item.m (ok_Text_add_item T) (hr.mono (by decide)) T.m_Text_add_item.b .nil pass0 (pa_cons (pe_ix ix_list (pe_fld (pv 0) rfl) (pv 4) (fun _ _ => rfl)) (pa_cons pe_non (pa_cons (pe_ix ix_list (pe_fld (pv 0) rfl) (pv 4) (fun _ _ => rfl)) pa_nil))))))) (pss_one (ps_if (pt_cmpR op_in_seq (pv 4) (pv 1) rfl) (pss_cons (ps_dput (hu_of hr) (pv 3) (pv 4) (pe_callB call_len (by rfl) T.b_len PySem.boot_len (pa_cons (pe_fld (pv 2) rfl) pa_nil)) rfl)
          (pss_cons (ps_set (i := 6) sc_with_rows_alone.nd rfl (Or.inl rfl) (pe_tup (pa_cons (pe_dget (hu_of hr) (pv 3) (pe_ix ix_tup (pv 5) pe_int (fun _ _ => rfl)) (fun _ _ => rfl)) (pa_cons (pe_dget (hu_of hr) (pv 3) (pe_ix ix_tup (pv 5) pe_int (fun _ _ => rfl)) (fun _ _ => rfl)) pa_nil))))
          (pss_one (ps_expr (pe_meth (pv 2) T.cl_Text T.m_Text_add_item.m (ok_Text_add_item T) (hr.mono (by decide)) T.m_Text_add_item.b .nil pass0 (pa_cons (pe_ix ix_list (pe_fld (pv 0) rfl) (pv 4) (fun _ _ => rfl)) (pa_cons (pv 6) (pa_cons (pe_ix ix_list (pe_fld (pv 0) rfl) (pv 4) (fun _ _ => rfl)) pa_nil)))))))) pss_nil)))))
    (pss_one (ps_ret (pv 2))))))), ?_⟩
  obtain ⟨A, t, l, is, rfl, hT, hok, hl, his, hq⟩ := h
  obtain ⟨vs, s1, s2⟩ := hT.s
  obtain ⟨us, g1, g2⟩ := hT.g
  obtain ⟨ws, f1, f2⟩ := hT.f
  have hvl := s2.length
  have hsl := tx_ss t
  have hnl := tx_ns t
  have hfl := tx_fs t
  have hna := hok.na
  have hnr := hok.nr
  have hng := hok.ng
  have hul : us.length = t.goals.length := g2.length
  intro ta tdx hta htdx htne
  refine ⟨ta, tdx, rfl, upd_same, fun H1 na so fo go hT1 nls kp1 => ⟨rfl, ?_⟩⟩
  have sm1 : Same H H1 := fun c o q => kp1 c o (by rw [upd_ne (ne_of_none q hta), upd_ne (ne_of_none q htdx)]; exact q) (by simp; exact fun e => by rw [e, hta] at q; cases q)
  have fr : ∀ c, (upd (upd H tdx (.own ta)) ta (.ins T.C_Text tdx [])) c = none → H c = none := fun c h => by
    by_cases e : c = ta
    · rw [e]; exact hta
    · rw [upd_ne e] at h
      by_cases e2 : c = tdx
      · rw [e2]; exact htdx
      · rw [upd_ne e2] at h; exact h
  have hfree : ∀ y ∈ TA.all ⟨ta, tdx, na, so, fo, go⟩, H y = none := fun y hy => by
    rcases List.mem_cons.mp hy with rfl | hy
    · exact hta
    · exact fr y (nls y hy)
  clear kp1 nls fr htne
  generalize hA2 : (⟨ta, tdx, na, so, fo, go⟩ : TA) = A2 at *
  obtain rfl : ta = A2.a := by rw [← hA2]
  have hdis : ∀ y ∈ A2.all, y ∉ A.all := fresh_ne sm1 hT.some hfree
  have hT1' := hT.same sm1
  obtain ⟨us1, g3, g4⟩ := hT1.g
  cases g4
  refine ⟨_, rfl, A2.a, _, A2.dx, _, _, rfl, hT1.o, T.cl_Text, T.n_Text_goals, tF_goals _, tyL g3, _, rfl, A.a, _, A.dx, _, _, rfl, hT1'.o, T.cl_Text, T.n_Text_goals, tF_goals _, A2.go, A.go, _, _, rfl, rfl, g3, sm1 _ _ g1, small_ok (m := 10000) (by show 0 + us.length ≤ _; omega), ?_⟩
  have hT2 := hT1.goals (gs := t.goals) (us := us) (paired_mono (fun _ _ z => FrmAt.tups z (fun _ _ q => same_seqT sm1 q)) g2)
  have sm2 : Same H (upd H1 A2.go (.lst ([] ++ us))) := same_old sm1 (hfree _ (by simp))
  generalize upd H1 A2.go (.lst ([] ++ us)) = H2 at *
  intro d hd
  have sm3 : Same H (upd H2 d (.dK [])) := same_newer sm2 hd
  have hd0 : H d = none := sm2.free hd
  have hT3 : TAt K T.C_Text (upd H2 d (.dK [])) A2 ⟨[], [], [], t.goals⟩ := hT2.same (same_new hd)
  have hdA : d ∉ A2.all := fun m => by
    obtain ⟨o, ho⟩ := hT2.some d m
    rw [hd] at ho; cases ho
  have hdn : (upd H2 d (.dK [])) d = some (.dK []) := upd_same
  generalize upd H2 d (.dK []) = H3 at *
  have hsub : ∀ y ∈ A2.lists, y ∈ A2.all := fun y hy => by simp at hy ⊢; exact .inr hy
  have hgood := kept_good hok his
  generalize hp : keptP t is = p at *
  refine ⟨_, rfl, A.a, _, A.dx, _, _, rfl, sm3 _ _ hT.o, T.cl_Text, T.n_Text_sources, tF_sources _, A.so, vs, rfl, SqL.of (sm3 _ _ s1), for_it walk_enum (fun i σ H' => ∃ (kvs : List (L2.Key × V)) (t2 : Text_) (v4 v5 v6 : Option V), σ = [some (.ref A.a), some (.ref l), some (.ref A2.a), some (.ref d), v4, v5, v6] ∧ Same H H' ∧
      H' d = some (.dK kvs) ∧ TAt K T.C_Text H' A2 (txOf t2) ∧ PSt t p i kvs t2)
    ⟨[], ⟨[], [], t.goals⟩, none, none, none, rfl, sm3, hdn, hT3, PSt.start hok p⟩ (fun i σ H' _ ⟨_, _, _, _, _, _, sm, _⟩ => SqL.of (sm _ _ s1)) ?_ ?_⟩
  · rintro i y σ H4 H5 hi ⟨kvs, t2, v4, v5, v6, rfl, sm4, hb4, hT4, hM⟩ ⟨Tp, x1, x2, rfl, hTp, rfl, e1, e2⟩
    cases e1
    have e2 : vs[i]? = some x2 := e2
    have hilt : i < (txOf t).ss.length := by omega
    obtain ⟨v, h1, h2⟩ := Shp.paired_get s2 (List.getElem?_eq_getElem hilt)
    rw [e2] at h1; cases h1
    have smT := same_new (o := .tup [.int ((i : Nat) : Int), x2]) hTp
    have sm5 := sm4.trans smT
    have hb5 := smT _ _ hb4
    have hT5 := hT4.same smT
    refine ⟨Tp, _, rfl, SqT.of upd_same, rfl, _, _, rfl, _, _, rfl, rfl, ?_⟩
    generalize upd H4 Tp (.tup [.int ((i : Nat) : Int), x2]) = H5 at *
    clear smT
    have hTA := hT.same sm5
    have hkz := hM.kz
    have hbl : kvs.length < sizeLine := small_lt (m := 10000) (by omega)
    have l1 := tx_ns t2
    have l2 := tx_ss t2
    have l3 := tx_fs t2
    have l4 := hM.ok.na
    have l5 := hM.ok.nr
    have hkeepD : ∀ {H6 H7 : Hp} {kv : List (L2.Key × V)}, Keep A2.lists H6 H7 → H6 d = some (.dK kv) → H7 d = some (.dK kv) := fun k h => k _ _ h (fun m => hdA (hsub _ m))
    refine ⟨_, rfl, rfl, _, rfl, ?_⟩
    cases hs : (txOf t).ss[i] with
    | none =>
      rw [hs] at h2
      refine iteT (decide_eq_true h2) ?_
      have hax : i < t.axioms.length := by
        by_cases c : i < t.axioms.length
        · exact c
        · obtain ⟨x, hx⟩ := hok.wf.rest i (by omega) hilt
          rw [List.getElem?_eq_getElem hilt, hs] at hx; cases hx
      have ha := List.getElem?_eq_getElem hax
      obtain ⟨m1, m2, m3, m4, m5⟩ := hM.addAx hgood hok ha
      have hni : (txOf t).ns[i]? = some t.axioms[i].name := by
        show (t.axioms.map _ ++ t.rows.map _)[i]? = _
        rw [List.getElem?_append_left (by simpa using hax), List.getElem?_map, ha]; rfl
      have hfi : (txOf t).fs[i]? = some (some t.axioms[i].f) := fo_ax_at hok ha
      have hlen : ((((txOf t2).ns.map fun n => V.str (bx n)).length : Nat) : Int) = ((toN t p i : Nat) : Int) := by
        rw [List.length_map, l1, m2, m3, m4]; rfl
      refine ⟨_, rfl, A2.a, _, A2.dx, _, _, rfl, hT5.o, T.cl_Text, T.n_Text_names, tF_names _, _, _, rfl, .inl ⟨_, SqL.of hT5.n, rfl⟩, _, rfl, _, rfl, d, _, rfl, DPut.k (k := Sum.inl (i : Int)) hb5 hbl, ?_⟩
      rw [hlen]
      have sm6 : Same H (upd H5 d (.dK (putK kvs (.inl (i : Int)) (.int ((toN t p i : Nat) : Int))))) := same_old sm5 hd0
      have hT6 : TAt K T.C_Text (upd H5 d (.dK (putK kvs (.inl (i : Int)) (.int ((toN t p i : Nat) : Int))))) A2 (txOf t2) := hT5.keep keep1 (noTupD hb5) (fun y hy => by rw [List.mem_singleton.mp hy]; exact hdA)
      have hb6 : (upd H5 d (.dK (putK kvs (.inl (i : Int)) (.int ((toN t p i : Nat) : Int))))) d = some (.dK (putK kvs (.inl (i : Int)) (.int ((toN t p i : Nat) : Int)))) := upd_same
      generalize upd H5 d (.dK (putK kvs (.inl (i : Int)) (.int ((toN t p i : Nat) : Int)))) = H6 at *
      have hTA6 := hT.same sm6
      obtain ⟨ws6, f3, f4⟩ := hTA6.f
      obtain ⟨u, hu1, q, rfl, hq6⟩ := Shp.paired_get f4 hfi
      refine ⟨_, rfl, A2.a, A2.dx, _, rfl, hT6.o, tF_no (by decide +kernel) (by decide +kernel) (by decide +kernel) (by decide +kernel) _, _, rfl, A.a, _, A.dx, _, _, rfl, hTA6.o, T.cl_Text, T.n_Text_names, tF_names _, _, rfl, _, _, _, _, rfl, rfl, SqL.of hTA6.n, atI_nat' (tx_n_at hTA6 hni), _, rfl, A.a, _, A.dx, _, _, rfl, hTA6.o, T.cl_Text, T.n_Text_formulas, tF_formulas _, _, rfl, _, _, _, _, rfl, rfl, SqL.of f3, atI_nat' hu1, ?_⟩
      refine ⟨A2, txOf t2, t.axioms[i].name, .non, .ref q, none, some t.axioms[i].f, rfl, hT6, rfl, ⟨q, rfl, hq6⟩, by omega, by omega, by omega, fun H7 hT7 kp7 => ?_⟩
      rw [m5] at hT7
      exact ⟨_, _, _, _, _, rfl, Keep.same sm6 kp7 (fun y hy => hfree y (hsub y hy)), hkeepD kp7 hb6, hT7, m1⟩
    | some x =>
      rw [hs] at h2
      obtain ⟨q, rfl, hqT⟩ := h2
      refine iteF (by simp) ?_
      have hxs : (txOf t).ss[i]? = some (some x) := by rw [List.getElem?_eq_getElem hilt, hs]
      obtain ⟨n, r, hin, hr, hx⟩ := tx_row_at t hxs
      subst hx hin
      have hlS := same_seqL sm5 hl
      refine ⟨_, rfl, _, rfl, l, _, rfl, .inl hlS, rfl, nvs_flat _, _, rfl, ?_⟩
      rw [if_neg Bool.false_ne_true, nvs_in]
      have hcont : (Vapcmb.neededRows t is).contains (t.axioms.length + n) = p (t.axioms.length + n) := by
        rw [kept_range, hp, Bool.eq_iff_iff]
        simp only [List.contains_iff_mem, List.mem_filter, List.mem_range]
        exact ⟨fun h => h.2, fun h => ⟨by rw [hsl] at hilt; exact hilt, h⟩⟩
      rw [hcont]
      cases hpi : p (t.axioms.length + n) with
      | false =>
        refine iteF rfl ?_
        exact ⟨_, _, _, _, _, rfl, sm5, hb5, hT5, hM.skip (by omega) hpi⟩
      | true =>
        refine iteT rfl ?_
        obtain ⟨m1, m2, m3, m4, f, m5, m6⟩ := hM.addRow hgood hok hr hpi
        have hni : (txOf t).ns[t.axioms.length + n]? = some r.name := by
          show (t.axioms.map _ ++ t.rows.map _)[_]? = _
          rw [List.getElem?_append_right (by simp), List.getElem?_map, List.length_map, Nat.add_sub_cancel_left, hr]; rfl
        have hfi : (txOf t).fs[t.axioms.length + n]? = some f := m5
        have hlen : ((((txOf t2).ns.map fun n => V.str (bx n)).length : Nat) : Int) = ((toN t p (t.axioms.length + n) : Nat) : Int) := by
          rw [List.length_map, l1, m2]
        refine ⟨_, rfl, A2.a, _, A2.dx, _, _, rfl, hT5.o, T.cl_Text, T.n_Text_names, tF_names _, _, _, rfl, .inl ⟨_, SqL.of hT5.n, rfl⟩, _, rfl, _, rfl, d, _, rfl, DPut.k (k := Sum.inl ((t.axioms.length + n : Nat) : Int)) hb5 hbl, ?_⟩
        rw [hlen]
        have sm6 : Same H (upd H5 d (.dK (putK kvs (.inl ((t.axioms.length + n : Nat) : Int)) (.int ((toN t p (t.axioms.length + n) : Nat) : Int))))) := same_old sm5 hd0
        have hT6 : TAt K T.C_Text (upd H5 d (.dK (putK kvs (.inl ((t.axioms.length + n : Nat) : Int)) (.int ((toN t p (t.axioms.length + n) : Nat) : Int))))) A2 (txOf t2) := hT5.keep keep1 (noTupD hb5) (fun y hy => by rw [List.mem_singleton.mp hy]; exact hdA)
        have hb6 : (upd H5 d (.dK (putK kvs (.inl ((t.axioms.length + n : Nat) : Int)) (.int ((toN t p (t.axioms.length + n) : Nat) : Int))))) d = some (.dK (putK kvs (.inl ((t.axioms.length + n : Nat) : Int)) (.int ((toN t p (t.axioms.length + n) : Nat) : Int)))) := upd_same
        have hqS := same_seqT sm6 hqT
        generalize upd H5 d (.dK (putK kvs (.inl ((t.axioms.length + n : Nat) : Int)) (.int ((toN t p (t.axioms.length + n) : Nat) : Int)))) = H6 at *
        have hTA6 := hT.same sm6
        obtain ⟨ws6, f3, f4⟩ := hTA6.f
        obtain ⟨u, hu1, hu2⟩ := Shp.paired_get f4 hfi
        have hrr := hok.rw n r hr
        have gi : valV (putK kvs (.inl ((t.axioms.length + n : Nat) : Int)) (.int ((toN t p (t.axioms.length + n) : Nat) : Int))) (.inl (r.i : Int)) = some (.int ((toN t p r.i : Nat) : Int)) := by
          rw [valV_put, if_neg (fun q => by have := Sum.inl.inj q; omega)]; exact m3
        have gj : valV (putK kvs (.inl ((t.axioms.length + n : Nat) : Int)) (.int ((toN t p (t.axioms.length + n) : Nat) : Int))) (.inl (r.j : Int)) = some (.int ((toN t p r.j : Nat) : Int)) := by
          rw [valV_put, if_neg (fun q => by have := Sum.inl.inj q; omega)]; exact m4
        refine ⟨_, rfl, _, rfl, _, _, _, _, rfl, rfl, hqS, atI_nat' (i := 0) rfl, d, _, rfl, by rw [← gi]; exact DGet.k (k := Sum.inl (r.i : Int)) hb6, _, rfl, _, rfl, _, _, _, _, rfl, rfl, hqS, atI_nat' (i := 1) rfl, d, _, rfl, by rw [← gj]; exact DGet.k (k := Sum.inl (r.j : Int)) hb6, (show 2 ≤ sizeLine by decide), fun q2 hq2 => ?_⟩
        have sm7 : Same H6 (upd H6 q2 (.tup [.int ((toN t p r.i : Nat) : Int), .int ((toN t p r.j : Nat) : Int)])) := same_new hq2
        have hq2T : SqT K (upd H6 q2 (.tup [.int ((toN t p r.i : Nat) : Int), .int ((toN t p r.j : Nat) : Int)])) q2 [.int ((toN t p r.i : Nat) : Int), .int ((toN t p r.j : Nat) : Int)] := SqT.of upd_same
        generalize upd H6 q2 (.tup [.int ((toN t p r.i : Nat) : Int), .int ((toN t p r.j : Nat) : Int)]) = H7 at *
        have hTA7 := hTA6.same sm7
        have hT7 := hT6.same sm7
        have f5 := sm7 _ _ f3
        refine ⟨_, rfl, A2.a, A2.dx, _, rfl, hT7.o, tF_no (by decide +kernel) (by decide +kernel) (by decide +kernel) (by decide +kernel) _, _, rfl, A.a, _, A.dx, _, _, rfl, hTA7.o, T.cl_Text, T.n_Text_names, tF_names _, _, rfl, _, _, _, _, rfl, rfl, SqL.of hTA7.n, atI_nat' (tx_n_at hTA7 hni), _, rfl, _, rfl, A.a, _, A.dx, _, _, rfl, hTA7.o, T.cl_Text, T.n_Text_formulas, tF_formulas _, _, rfl, _, _, _, _, rfl, rfl, SqL.of f5, atI_nat' hu1, ?_⟩
        refine ⟨A2, txOf t2, r.name, .ref q2, u, some (toN t p r.i, toN t p r.j), f, rfl, hT7, ⟨q2, rfl, hq2T⟩, FrmAt.tups hu2 (fun _ _ z => same_seqT sm7 z), by omega, by omega, by omega, fun H8 hT8 kp8 => ?_⟩
        rw [m6] at hT8
        exact ⟨_, _, _, _, _, rfl, Keep.same (sm6.trans sm7) kp8 (fun y hy => hfree y (hsub y hy)), hkeepD kp8 (sm7 _ _ hb6), hT8, m1⟩
  · rintro σ H4 ⟨kvs, t2, v4, v5, v6, rfl, sm4, hb4, hT4, hM⟩
    rw [hvl, hsl] at hM
    have hm := PSt.done hok his (kvs := kvs) (t2 := t2) (by rw [hp]; exact hM)
    refine ⟨_, rfl, ?_⟩
    rw [hm] at hT4
    exact hq A2 H4 sm4 hT4 (by rw [← hm]; exact hM.ok)
def sp_shortened (T : Top K mg) : Sp := fun vs H Q _ => ∃ (A : TA) (t : Text_),
  vs = [.ref A.a] ∧ TAt K T.C_Text H A (txOf t) ∧ TOk t ∧ ∀ (A2 : TA) (H' : Hp), Same H H' → TAt K T.C_Text H' A2 (txOf (Vapcmb.shorten t)) → TOk (Vapcmb.shorten t) → Q (.ref A2.a) H'
theorem ok_shortened (T : Top K mg) : FnOk P w K mg base CX0 8 T.d_shortened.f T.d_shortened.fd P_shortened (sp_shortened T) := by
  refine T.d_shortened.F.ok sc_shortened (fun vs H Q E h => by obtain ⟨_, _, rfl, _⟩ := h; rfl) (fun cdv A outer s H vs Q E hr h => ?_)
  refine ⟨_, (pss_cons (ps_set (i := 1) sc_shortened.nd rfl (Or.inl rfl) (pe_call (ok_merged T) (hr.mono (by decide)) rfl T.d_merged.mg T.d_merged.F.kp T.d_merged.b .nil pass0 (pa_cons (pv 0) pa_nil)))
    (pss_one (ps_ret (pe_call (ok_with_rows_alone T) (hr.mono (by decide)) rfl T.d_with_rows_alone.mg T.d_with_rows_alone.F.kp T.d_with_rows_alone.b .nil pass0 (pa_cons (pv 1) (pa_cons (pe_call (ok_needed_rows T) (hr.mono (by decide)) rfl T.d_needed_rows.mg T.d_needed_rows.F.kp T.d_needed_rows.b .nil pass0 (pa_cons (pv 1) (pa_cons (pe_call (ok_targets T) (hr.mono (by decide)) rfl T.d_targets.mg T.d_targets.F.kp T.d_targets.b .nil pass0 (pa_cons (pv 1) pa_nil)) pa_nil))) pa_nil)))))), ?_⟩
  obtain ⟨A, t, rfl, hT, hok, hq⟩ := h
  refine ⟨_, rfl, A, t, rfl, hT, hok, fun A2 H1 sm1 hT1 hok1 => ?_⟩
  have hlt : ∀ i ∈ tgt (txOf (Vapcmb.merged t)), i < Vapcma.count (Vapcmb.merged t) := fun i hi => by have := tgt_lt hi; rw [tx_fs] at this; exact this
  have hlen : (tgt (txOf (Vapcmb.merged t))).length ≤ 2000 := by
    have h1 : (tgt (txOf (Vapcmb.merged t))).length ≤ (Vapcmb.merged t).goals.length := List.length_filterMap_le _ _
    have := hok1.ng
    omega
  refine ⟨_, rfl, _, rfl, _, rfl, A2, _, rfl, hT1, hok1.sizes1000, by have := hok1.ng; show (Vapcmb.merged t).goals.length ≤ _; omega, fun D H2 sm2 hD => ?_⟩
  refine ⟨A2, Vapcmb.merged t, D, _, rfl, hT1.same sm2, hok1, SqL.of hD, hlen, hlt, fun p H3 sm3 hp => ?_⟩
  refine ⟨A2, Vapcmb.merged t, p, _, rfl, hT1.same (sm2.trans sm3), hok1, SqL.of hp, hlt, fun A3 H4 sm4 hT4 hok4 => ?_⟩
  rw [tgt_eq] at hT4 hok4
  exact hq A3 H4 (((sm1.trans sm2).trans sm3).trans sm4) hT4 hok4
end
end Shp
end
section
set_option maxRecDepth 100000
set_option maxHeartbeats 4000000
namespace Shp
open PySem PySem.Spec PyProof.Rows L2
open Vapcma (Form Text_ Axiom)
open VapcmbNeutral (encode)
section
variable {P : Program} {w : World} {K : PySem.W.Frag} {mg : Str → Option Value} {base : Heap}
def hF (v : V) : List (Str × V) := [("text", v)]
theorem hF_text (v : V) : (hF v).lookup ("text" : Str) = some v := lkH
theorem hF_no {m : Str} (h1 : (m == ("text" : Str)) = false) (v : V) : (hF v).lookup m = none := (lkP h1).trans rfl
theorem hF_put (v u : V) : putF "text" u (hF v) = hF u := ptH
/-- the object -/
def HAt (K : PySem.W.Frag) (CH CT : Addr) (H : Hp) (h hx : Addr) : Option Text_ → Prop
  | none => H h = some (.ins CH hx (hF .non))
  | some t => ∃ A : TA, H h = some (.ins CH hx (hF (.ref A.a))) ∧ TAt K CT H A (txOf t) ∧ TOk t
theorem HAt.same {CH CT : Addr} {H H' : Hp} {h hx : Addr} {o : Option Text_} (x : HAt K CH CT H h hx o) (s : Same H H') : HAt K CH CT H' h hx o := by
  cases o with
  | none => exact s _ _ x
  | some t => obtain ⟨A, h1, h2, h3⟩ := x; exact ⟨A, s _ _ h1, h2.same s, h3⟩
theorem HAt.obj {CH CT : Addr} {H : Hp} {h hx : Addr} {o : Option Text_} (x : HAt K CH CT H h hx o) : ∃ v, H h = some (.ins CH hx (hF v)) := by
  cases o with
  | none => exact ⟨_, x⟩
  | some t => obtain ⟨A, h1, h2, h3⟩ := x; exact ⟨_, h1⟩
/-- the object; its text's places are of a kind -/
def HAtG (K : PySem.W.Frag) (CH CT : Addr) (G : Addr → Prop) (H : Hp) (h hx : Addr) : Option Text_ → Prop
  | none => H h = some (.ins CH hx (hF .non))
  | some t => ∃ A : TA, H h = some (.ins CH hx (hF (.ref A.a))) ∧ TAt K CT H A (txOf t) ∧ TOk t ∧ ∀ y ∈ A.all, G y
theorem HAtG.at_ {CH CT : Addr} {G : Addr → Prop} {H : Hp} {h hx : Addr} {o : Option Text_} (x : HAtG K CH CT G H h hx o) : HAt K CH CT H h hx o := by
  cases o with
  | none => exact x
  | some t => obtain ⟨A, h1, h2, h3, _⟩ := x; exact ⟨A, h1, h2, h3⟩
theorem HAtG.same {CH CT : Addr} {G : Addr → Prop} {H H' : Hp} {h hx : Addr} {o : Option Text_} (x : HAtG K CH CT G H h hx o) (s : Same H H') : HAtG K CH CT G H' h hx o := by
  cases o with
  | none => exact s _ _ x
  | some t => obtain ⟨A, h1, h2, h3, h4⟩ := x; exact ⟨A, s _ _ h1, h2.same s, h3, h4⟩
theorem TAt.notH {CH C : Addr} {H : Hp} {h hx : Addr} {v : V} {A : TA} {x : Tx} (t : TAt K C H A x) (e : H h = Option.some (HO.ins CH hx (hF v))) : h ∉ A.all := by
  obtain ⟨vs, s1, s2⟩ := t.s
  obtain ⟨ws, f1, f2⟩ := t.f
  obtain ⟨us, g1, g2⟩ := t.g
  have e0 := ne_of e t.o (by intro z; cases z)
  have e1 := ne_of e t.n (by intro z; cases z)
  have e2 := ne_of e s1 (by intro z; cases z)
  have e3 := ne_of e f1 (by intro z; cases z)
  have e4 := ne_of e g1 (by intro z; cases z)
  simp; exact ⟨e0, e1, e2, e3, e4⟩
def sp_Holder___init__ (T : Top K mg) : Sp := fun vs H Q _ => ∃ (h hx : Addr),
  vs = [.ref h] ∧ H h = some (.ins T.C_Holder hx []) ∧ ∀ H', H' h = some (.ins T.C_Holder hx (hF .non)) → Keep [h] H H' → Q .non H'
theorem ok_Holder___init__ (T : Top K mg) : FnOk P w K mg base CX0 1 T.m_Holder___init__.f T.m_Holder___init__.fd P_Holder___init__ (sp_Holder___init__ T) := by
  refine T.m_Holder___init__.F.ok sc_Holder___init__ (fun vs H Q E h => by obtain ⟨_, _, rfl, _⟩ := h; rfl) (fun cdv A outer s H vs Q E hr h => ?_)
  refine ⟨_, (pss_one (ps_fld (pv 0) pe_non rfl)), ?_⟩
  obtain ⟨h, hx, rfl, ho, hk⟩ := h
  refine ⟨_, rfl, h, T.C_Holder, hx, _, rfl, ho, T.cl_Holder, T.n_Holder_text, (by show 0 < 1000; decide), ?_⟩
  refine hk _ ?_ (Keep.upd (by simp))
  rw [upd_same]; congr 2
def sp_Holder_load (T : Top K mg) : Sp := fun vs H Q _ => ∃ (G : Addr → Prop) (h hx : Addr) (o : Option Text_) (a : Addr) (bs : List UInt8),
  vs = [.ref h, .ref a] ∧ HAtG K T.C_Holder T.C_Text G H h hx o ∧ (∀ y, H y = none → G y) ∧ SqL K H a (bs.map fun b => V.int ((b.toNat : Nat) : Int)) ∧
  ∀ (D : Addr) (H' : Hp), H D = none → HAtG K T.C_Holder T.C_Text G H' h hx (Vapcmb.step o (.load bs)).1 → H' D = some (.lst (ivs (encode (Vapcmb.step o (.load bs)).2))) → Keep [h] H H' → Q (.ref D) H'
theorem ok_Holder_load (T : Top K mg) (TF : FaultT K T.C_Fault) : FnOk P w K mg base CX0 91 T.m_Holder_load.f T.m_Holder_load.fd P_Holder_load (sp_Holder_load T) := by
  refine T.m_Holder_load.F.ok sc_Holder_load (fun vs H Q E h => by obtain ⟨_, _, _, _, _, _, rfl, _⟩ := h; rfl) (fun cdv A outer s H vs Q E hr h => ?_)
  refine ⟨_, (pss_cons (ps_try_as (i := 3) (tb := fun W => tAsg (tCallS (sp_read_text T) (WE W) (tCons (tVar 1) tNil)) (gName 2)) (ts := fun a cls d => tRet (tLst (tCons (tC (.int 0)) (tCons (tXf a cls d T.C_Fault "code" (tVar 3)) (tCons (tXf a cls d T.C_Fault "place" (tVar 3)) tNil))))) (Wout := fun _ _ _ _ => False) rfl rfl sc_Holder_load.nd rfl rfl ⟨rfl, by decide, Or.inl T.mg_Fault⟩ takes0
      (fun W pn xe tk _ => pss_one (ps_set (i := 2) sc_Holder_load.nd rfl (Or.inl rfl) (by exact (pe_callS (ok_read_text T TF) (hr.mono (by decide)) rfl T.d_read_text.mg T.d_read_text.F.kp T.d_read_text.b (fun σ => passAt tk σ) (by exact (pa_cons (pv 1) pa_nil))))))
      (fun a oe cls d pn hz hf => pss_one (ps_ret (by exact (pe_lst (pa_cons pe_int (pa_cons (pe_xf TF.xf TF.nC hz hf (pv 3)) (pa_cons (pe_xf TF.xf TF.nP hz hf (pv 3)) pa_nil))))))))
    (pss_cons (ps_fld (pv 0) (pv 2) rfl)
    (pss_one (ps_ret (pe_lst (pa_cons pe_int (pa_cons (pe_meth0 (pv 2) T.cl_Text T.m_Text_axiom_count.m (ok_Text_axiom_count T) (hr.mono (by decide)) T.m_Text_axiom_count.b .nil pass0) (pa_cons (pe_meth0 (pv 2) T.cl_Text T.m_Text_row_count.m (ok_Text_row_count T) (hr.mono (by decide)) T.m_Text_row_count.b .nil pass0) (pa_cons (pe_callB call_len (by rfl) T.b_len PySem.boot_len (pa_cons (pe_fld (pv 2) rfl) pa_nil)) pa_nil))))))))), ?_⟩
  obtain ⟨G, h, hx, o, a, bs, rfl, hH, hG, ha, hk⟩ := h
  have hs0 : Vapcma.step o (.load bs) = match Vapcma.read bs with
      | .ok t => (some t, ⟨1, Vapcma.nats [t.axioms.length, t.rows.length, t.goals.length]⟩)
      | .error f => (o, VapcmBase.faulty f) := by cases o <;> rfl
  have hst : ∀ t, Vapcma.read bs = .ok t → Vapcmb.step o (.load bs) = (some t, ⟨1, Vapcma.nats [t.axioms.length, t.rows.length, t.goals.length]⟩) := fun t e => by
    show Vapcma.step o (.load bs) = _
    rw [hs0, e]
  have hse : ∀ f, Vapcma.read bs = .error f → Vapcmb.step o (.load bs) = (o, VapcmBase.faulty f) := fun f e => by
    show Vapcma.step o (.load bs) = _
    rw [hs0, e]
  refine ⟨_, rfl, a, bs, rfl, ha, fun t ht hok A H1 hT1 sm1 hfr => ?_, fun f hf d H1 hd sm1 => ⟨true, TF.te, fun _ a0 ha0 => ?_, fun q => Bool.noConfusion q⟩⟩
  · obtain ⟨v, hv⟩ := hH.at_.obj
    have hv1 := sm1 _ _ hv
    refine ⟨_, rfl, _, rfl, h, T.C_Holder, hx, _, rfl, hv1, T.cl_Holder, T.n_Holder_text, (by show 1 < 1000; decide), ?_⟩
    rw [hF_put]
    have hT2 : TAt K T.C_Text (upd H1 h (.ins T.C_Holder hx (hF (.ref A.a)))) A (txOf t) := hT1.keep (L := [h]) (Keep.upd (by simp)) (.cons hv1 (by intro _ z; cases z) (by intro _ _ z; cases z) .nil) (fun y hy => by rw [List.mem_singleton.mp hy]; exact hT1.notH hv1)
    have hH2 : HAtG K T.C_Holder T.C_Text G (upd H1 h (.ins T.C_Holder hx (hF (.ref A.a)))) h hx (some t) := ⟨A, upd_same, hT2, hok, fun y hy => hG y (hfr y hy)⟩
    have kp2 : Keep [h] H (upd H1 h (.ins T.C_Holder hx (hF (.ref A.a)))) := (Keep.of_same sm1).trans (Keep.upd (by simp))
    generalize upd H1 h (.ins T.C_Holder hx (hF (.ref A.a))) = H2 at *
    obtain ⟨us, g1, g2⟩ := hT2.g
    refine ⟨_, rfl, A.a, A.dx, _, rfl, hT2.o, tF_no (by decide +kernel) (by decide +kernel) (by decide +kernel) (by decide +kernel) _, A, _, rfl, hT2, ?_⟩
    refine ⟨_, rfl, A.a, A.dx, _, rfl, hT2.o, tF_no (by decide +kernel) (by decide +kernel) (by decide +kernel) (by decide +kernel) _, A, _, rfl, hT2, ?_⟩
    refine ⟨_, rfl, A.a, _, A.dx, _, _, rfl, hT2.o, T.cl_Text, T.n_Text_goals, tF_goals _, _, _, rfl, .inl ⟨_, SqL.of g1, rfl⟩, (show 4 ≤ sizeLine by decide), fun D hD => ?_⟩
    have hk2 := hk D (upd H2 D (.lst [.int 1, .int (noSrc (txOf t).ss : Int), .int (((txOf t).ss.length : Int) - (noSrc (txOf t).ss : Int)), .int ((us.length : Nat) : Int)]))
    rw [hst t ht] at hk2
    have hD0 : H D = none := kp2.free (fun y hy e => by rw [List.mem_singleton.mp hy, (HAt.obj (HAtG.at_ hH2)).choose_spec] at e; cases e) hD
    refine hk2 hD0 (hH2.same (same_new hD)) ?_ (kp2.trans (Keep.new hD))
    rw [upd_same, tx_no, tx_ss, g2.length]
    have e1 : (((t.axioms.length + t.rows.length : Nat) : Int) - (t.axioms.length : Int)) = (t.rows.length : Int) := by omega
    rw [e1]
    rfl
  · refine ⟨_, rfl, rfl, rfl, d, _, _, rfl, hd, (lkP (by decide +kernel)).trans lkH, _, rfl, rfl, rfl, d, _, _, rfl, hd, lkH, (show 3 ≤ sizeLine by decide), fun D hD => ?_⟩
    have hk2 := hk D (upd H1 D (.lst [.int 0, .int (f.code : Int), .int (f.place : Int)]))
    rw [hse f hf] at hk2
    exact hk2 (sm1.free hD) ((hH.same sm1).same (same_new hD)) upd_same ((Keep.of_same sm1).trans (Keep.new hD))
end
end Shp
end
section
set_option maxRecDepth 100000
set_option maxHeartbeats 4000000
namespace Shp
open PySem PySem.Spec PyProof.Rows L2
open Vapcma (Form Text_ Axiom)
section
variable {P : Program} {w : World} {K : PySem.W.Frag} {mg : Str → Option Value} {base : Heap}
def allIn (n : Nat) (zs : List Int) : Bool := zs.all fun z => decide (0 ≤ z ∧ z < (n : Int))
def sp_Text_has_items (T : Top K mg) : Sp := fun vs H Q _ => ∃ (A : TA) (x : Tx) (l : Addr) (zs : List Int),
  vs = [.ref A.a, .ref l] ∧ TAt K T.C_Text H A x ∧ SqL K H l (ivs zs) ∧ zs.length ≤ 16000 ∧ ∀ H', Same H H' → Q (.bl (allIn x.ns.length zs)) H'
theorem ok_Text_has_items (T : Top K mg) : FnOk P w K mg base CX0 2 T.m_Text_has_items.f T.m_Text_has_items.fd P_Text_has_items (sp_Text_has_items T) := by
  refine T.m_Text_has_items.F.ok sc_Text_has_items (fun vs H Q E h => by obtain ⟨_, _, _, _, rfl, _⟩ := h; rfl) (fun cdv A outer s H vs Q E hr h => ?_)
  refine ⟨_, (pss_one (ps_ret (pe_callB (cr_all rfl) (by rfl) T.b_all (by decide +kernel) (pa_cons (pe_lc (te := tMeth T.C_Text "has_item" (sp_Text_has_item T) [] E0 (tVar 0) (tCons (tVar 2) tNil)) (own := [("number", 2)]) rfl sc_Text_has_items.nd (pi_list (pv 1)) (blkOk_by (N := N_Text_has_items) (sc := defScope s_Text_has_items) (by decide +kernel)) (fun _ _ _ _ _ => (pg_name (i := 2) sc_Text_has_items.nd rfl (Or.inl rfl))) (fun _ _ _ _ _ => pts_nil) (fun _ _ _ _ _ => by exact (pe_meth (pv 0) T.cl_Text T.m_Text_has_item.m (ok_Text_has_item T) (hr.mono (by decide)) T.m_Text_has_item.b .nil pass0 (pa_cons (pv 2) pa_nil)))) pa_nil)))), ?_⟩
  obtain ⟨A, x, l, zs, rfl, hT, hl, hz, hq⟩ := h
  refine ⟨_, rfl, l, rfl, ⟨_, hl⟩, fun D hD => ?_⟩
  refine lc_list (K := K) (a := l) (xs := ivs zs) (fun i H' => Same H H' ∧ H' D = some (.lst (((zs.take i).map fun z => decide (0 ≤ z ∧ z < (x.ns.length : Int))).map V.bl))) ⟨same_new hD, upd_same⟩ (fun i H' _ e => same_seqL e.1 hl) ?_ ?_
  · rintro i y H' hy ⟨sm, hd⟩
    obtain ⟨z, rfl, hz1⟩ := ivs_back hy
    refine ⟨rfl, _, rfl, A.a, A.dx, _, rfl, (hT.same sm).o, tF_no (by decide +kernel) (by decide +kernel) (by decide +kernel) (by decide +kernel) _, _, rfl, A, x, z, rfl, hT.same sm, ?_⟩
    refine ⟨_, hd, small_lt (m := 100000) (by rw [List.length_map, List.length_map, List.length_take]; omega), same_old sm hD, ?_⟩
    rw [upd_same, take_more0 hz1]
    simp
  · rintro H' ⟨sm, hd⟩
    rw [ivs_len, List.take_length] at hd
    refine ⟨D, _, rfl, SqL.of hd, ?_⟩
    have e : (zs.map fun z => decide (0 ≤ z ∧ z < (x.ns.length : Int))).all id = allIn x.ns.length zs := by rw [List.all_map]; rfl
    rw [e]
    exact hq H' sm
end
end Shp
end
section
set_option maxRecDepth 100000
set_option maxHeartbeats 4000000
namespace Shp
open PySem PySem.Spec PyProof.Rows L2
open Vapcma (Form Text_ Axiom)
open VapcmbNeutral (encode)
section
variable {P : Program} {w : World} {K : PySem.W.Frag} {mg : Str → Option Value} {base : Heap}
theorem encode_text (b : List UInt8) : ivs (encode (VapcmBase.textAnswer b)) = .int ((b.length : Nat) : Int) :: b.map fun c => V.int ((c.toNat : Nat) : Int) := by
  show ivs (_ :: b.map _) = _
  simp [ivs]
  rfl
def sp_form_told (T : Top K mg) : Sp := fun vs H Q _ => ∃ (A : TA) (t : Text_),
  vs = [.ref A.a] ∧ TAt K T.C_Text H A (txOf t) ∧ TOk t ∧ ∀ (D : Addr) (H' : Hp), Same H H' → H D = none → H' D = some (.lst (ivs (encode (VapcmBase.textAnswer (Vapcma.shown t))))) → Q (.ref D) H'
theorem ok_form_told (T : Top K mg) : FnOk P w K mg base CX0 5 T.d_form_told.f T.d_form_told.fd P_form_told (sp_form_told T) := by
  refine T.d_form_told.F.ok sc_form_told (fun vs H Q E h => by obtain ⟨_, _, rfl, _⟩ := h; rfl) (fun cdv A outer s H vs Q E hr h => ?_)
  refine ⟨_, (pss_cons (ps_set (i := 1) sc_form_told.nd rfl (Or.inl rfl) (pe_call (ok_one_form T) (hr.mono (by decide)) rfl T.d_one_form.mg T.d_one_form.F.kp T.d_one_form.b .nil pass0 (pa_cons (pv 0) pa_nil)))
    (pss_one (ps_ret (pe_op op_cat (pe_lst (pa_cons (pe_callB call_len (by rfl) T.b_len PySem.boot_len (pa_cons (pv 1) pa_nil)) pa_nil)) (pv 1))))), ?_⟩
  obtain ⟨A, t, rfl, hT, hok, hk⟩ := h
  refine ⟨_, rfl, A, t, rfl, hT, hok, fun D H1 sm1 hD hz => ?_⟩
  refine ⟨_, rfl, _, _, rfl, .inl ⟨_, SqL.of hD, rfl⟩, (show 1 ≤ sizeLine by decide), fun p hp => ?_⟩
  refine ⟨_, rfl, p, D, _, _, rfl, rfl, upd_same, same_new hp _ _ hD, small_ok (m := 500000) (by rw [List.length_singleton, List.length_map]; omega), fun q hq => ?_⟩
  refine hk q _ ((sm1.trans (same_new hp)).trans (same_new hq)) (Same.free (sm1.trans (same_new hp)) hq) ?_
  rw [upd_same, encode_text, List.length_map]; rfl
end
end Shp
end
section
set_option maxRecDepth 100000
set_option maxHeartbeats 4000000
namespace Shp
open PySem PySem.Spec PyProof.Rows L2
open Vapcma (Form Text_ Axiom)
open VapcmbNeutral (encode)
section
variable {P : Program} {w : World} {K : PySem.W.Frag} {mg : Str → Option Value} {base : Heap}
def sp_Holder_shown (T : Top K mg) : Sp := fun vs H Q _ => ∃ (h hx : Addr) (t : Text_),
  vs = [.ref h] ∧ HAt K T.C_Holder T.C_Text H h hx (some t) ∧ ∀ (D : Addr) (H' : Hp), Same H H' → H D = none → H' D = some (.lst (ivs (encode (Vapcmb.looked t .shown)))) → Q (.ref D) H'
theorem ok_Holder_shown (T : Top K mg) : FnOk P w K mg base CX0 6 T.m_Holder_shown.f T.m_Holder_shown.fd P_Holder_shown (sp_Holder_shown T) := by
  refine T.m_Holder_shown.F.ok sc_Holder_shown (fun vs H Q E h => by obtain ⟨_, _, _, rfl, _⟩ := h; rfl) (fun cdv A outer s H vs Q E hr h => ?_)
  refine ⟨_, (pss_one (ps_ret (pe_call (ok_form_told T) (hr.mono (by decide)) rfl T.d_form_told.mg T.d_form_told.F.kp T.d_form_told.b .nil pass0 (pa_cons (pe_fld (pv 0) rfl) pa_nil)))), ?_⟩
  obtain ⟨h, hx, t, rfl, ⟨A, hh, hT, hok⟩, hk⟩ := h
  refine ⟨_, rfl, h, _, hx, _, _, rfl, hh, T.cl_Holder, T.n_Holder_text, hF_text _, A, t, rfl, hT, hok, fun D H1 sm1 hf hD => ?_⟩
  exact hk D H1 sm1 hf hD
theorem index_none (z : Int) (n : Nat) : (VapcmBase.index z n).isNone = !decide (0 ≤ z ∧ z < (n : Int)) := by
  unfold VapcmBase.index
  by_cases c : 0 ≤ z ∧ z < (n : Int)
  · rw [if_pos c, decide_eq_true c]; rfl
  · rw [if_neg c, decide_eq_false c]; rfl
theorem needed_congr {t : Text_} (ok : TOk t) {a b : List Nat} (ha : ∀ i ∈ a, i < Vapcma.count t) (h : ∀ i, i ∈ a ↔ i ∈ b) : Vapcmb.neededRows t a = Vapcmb.neededRows t b := by
  rw [kept_range, kept_range]
  refine List.filter_congr fun k hk => ?_
  rw [Bool.eq_iff_iff, kept_iff ok ha, kept_iff ok (fun i hi => ha i ((h i).mpr hi))]
  constructor
  · rintro ⟨h1, i, hi, h2⟩; exact ⟨h1, i, (h i).mp hi, h2⟩
  · rintro ⟨h1, i, hi, h2⟩; exact ⟨h1, i, (h i).mpr hi, h2⟩
/-- the items that a list names -/
structure Its (t : Text_) (zs : List Int) : Prop where
  zs_eq : zs = (zs.map Int.toNat).map fun (n : Nat) => (n : Int)
  lt : ∀ i ∈ zs.map Int.toNat, i < Vapcma.count t
  ivs : ivs zs = nvs (zs.map Int.toNat)
  mem : ∀ i, i ∈ zs.map Int.toNat ↔ i ∈ (List.range (Vapcma.count t)).filter fun (k : Nat) => zs.contains (k : Int)
  look : Vapcmb.itemsOf t zs = some ((List.range (Vapcma.count t)).filter fun (k : Nat) => zs.contains (k : Int))
theorem any_index (t : Text_) (zs : List Int) : (zs.any fun z => (VapcmBase.index z (Vapcma.count t)).isNone) = !(allIn (Vapcma.count t) zs) := by
  unfold allIn
  rw [List.any_eq_not_all_not]
  congr 1
  congr 1
  funext z
  rw [index_none]; simp
theorem items_no {t : Text_} {zs : List Int} (c : allIn (Vapcma.count t) zs = false) : Vapcmb.itemsOf t zs = none := by
  have hit : Vapcmb.itemsOf t zs = if (zs.any fun z => (VapcmBase.index z (Vapcma.count t)).isNone) = true then none else some ((List.range (Vapcma.count t)).filter fun (k : Nat) => zs.contains (k : Int)) := rfl
  rw [any_index, c, Bool.not_false, if_pos rfl] at hit
  exact hit
theorem items_yes {t : Text_} {zs : List Int} (c : allIn (Vapcma.count t) zs = true) : Its t zs := by
  have hit : Vapcmb.itemsOf t zs = if (zs.any fun z => (VapcmBase.index z (Vapcma.count t)).isNone) = true then none else some ((List.range (Vapcma.count t)).filter fun (k : Nat) => zs.contains (k : Int)) := rfl
  rw [any_index, c, Bool.not_true, if_neg Bool.false_ne_true] at hit
  have hall : ∀ z ∈ zs, 0 ≤ z ∧ z < (Vapcma.count t : Int) := fun z hz => of_decide_eq_true (List.all_eq_true.mp c z hz)
  have hzs : zs = (zs.map Int.toNat).map fun (n : Nat) => (n : Int) := by
    rw [List.map_map]
    refine (List.map_id _).symm.trans (List.map_congr_left fun z hz => ?_)
    have := hall z hz
    show z = ((z.toNat : Nat) : Int)
    omega
  have hnat : ∀ i ∈ zs.map Int.toNat, i < Vapcma.count t := fun i hi => by
    obtain ⟨z, hz, rfl⟩ := List.mem_map.mp hi
    have := hall z hz
    omega
  refine ⟨hzs, hnat, ?_, fun i => ?_, hit⟩
  · conv => lhs; rw [hzs]
    simp [nvs, ivs]
  · simp only [List.mem_filter, List.mem_range, List.contains_iff_mem]
    constructor
    · intro hi
      refine ⟨hnat i hi, ?_⟩
      obtain ⟨z, hz, rfl⟩ := List.mem_map.mp hi
      have := hall z hz
      rw [show ((z.toNat : Nat) : Int) = z by omega]; exact hz
    · rintro ⟨_, h2⟩
      exact List.mem_map.mpr ⟨_, h2, by omega⟩
theorem Its.rows {t : Text_} {zs : List Int} (ok : TOk t) (h : Its t zs) : Vapcmb.neededRows t (zs.map Int.toNat) = Vapcmb.neededRows t ((List.range (Vapcma.count t)).filter fun (k : Nat) => zs.contains (k : Int)) := needed_congr ok h.lt h.mem
theorem needed_len {t : Text_} (ok : TOk t) (is : List Nat) : (Vapcmb.neededRows t is).length ≤ 100 := by
  rw [kept_range]
  refine Nat.le_trans (List.length_filter_le _ _) ?_
  rw [List.length_range]
  have := ok.na
  have := ok.nr
  unfold Vapcma.count; omega
def sp_Holder_prune (T : Top K mg) : Sp := fun vs H Q _ => ∃ (h hx : Addr) (t : Text_) (l : Addr) (zs : List Int),
  vs = [.ref h, .ref l] ∧ HAt K T.C_Holder T.C_Text H h hx (some t) ∧ SqL K H l (ivs zs) ∧ zs.length ≤ 2000 ∧ ∀ (D : Addr) (H' : Hp), Same H H' → H D = none → H' D = some (.lst (ivs (encode (Vapcmb.looked t (.prune zs))))) → Q (.ref D) H'
theorem ok_Holder_prune (T : Top K mg) : FnOk P w K mg base CX0 3 T.m_Holder_prune.f T.m_Holder_prune.fd P_Holder_prune (sp_Holder_prune T) := by
  refine T.m_Holder_prune.F.ok sc_Holder_prune (fun vs H Q E h => by obtain ⟨_, _, _, _, _, rfl, _⟩ := h; rfl) (fun cdv A outer s H vs Q E hr h => ?_)
  refine ⟨_, (pss_cons (ps_if (pt_not (pt_val (pe_meth (pe_fld (pv 0) rfl) T.cl_Text T.m_Text_has_items.m (ok_Text_has_items T) (hr.mono (by decide)) T.m_Text_has_items.b .nil pass0 (pa_cons (pv 1) pa_nil)))) (pss_one (ps_ret (pe_lst (pa_cons (pe_un un_neg pe_int) pa_nil)))) pss_nil)
    (pss_cons (ps_set (i := 2) sc_Holder_prune.nd rfl (Or.inl rfl) (pe_call (ok_needed_rows T) (hr.mono (by decide)) rfl T.d_needed_rows.mg T.d_needed_rows.F.kp T.d_needed_rows.b .nil pass0 (pa_cons (pe_fld (pv 0) rfl) (pa_cons (pv 1) pa_nil))))
    (pss_one (ps_ret (pe_op op_cat (pe_lst (pa_cons (pe_callB call_len (by rfl) T.b_len PySem.boot_len (pa_cons (pv 2) pa_nil)) pa_nil)) (pv 2)))))), ?_⟩
  obtain ⟨h, hx, t, l, zs, rfl, ⟨A, hh, hT, hok⟩, hl, hz, hk⟩ := h
  have hnl : (txOf t).ns.length = Vapcma.count t := tx_ns t
  have hlook : Vapcmb.looked t (.prune zs) = match Vapcmb.itemsOf t zs with
    | none => VapcmBase.one (-2)
    | some is => ⟨((Vapcmb.neededRows t is).length : Int), Vapcmb.nats (Vapcmb.neededRows t is)⟩ := rfl
  refine ⟨_, rfl, h, _, hx, _, _, rfl, hh, T.cl_Holder, T.n_Holder_text, hF_text _, A.a, A.dx, _, rfl, hT.o, tF_no (by decide +kernel) (by decide +kernel) (by decide +kernel) (by decide +kernel) _, _, rfl, A, txOf t, l, zs, rfl, hT, hl, by omega, fun H' sm => ?_⟩
  refine ⟨_, rfl, ?_⟩
  rw [hnl]
  cases c : allIn (Vapcma.count t) zs with
  | false =>
    refine iteT rfl ?_
    rw [items_no c] at hlook
    refine ⟨_, rfl, (show 1 ≤ sizeLine by decide), fun p hp => ?_⟩
    refine hk p _ (sm.trans (same_new hp)) (Same.free sm hp) ?_
    rw [upd_same, hlook]; rfl
  | true =>
    refine iteF rfl ?_
    have I := items_yes c
    rw [I.look] at hlook
    have hl2 : SqL K H' l (nvs (zs.map Int.toNat)) := by rw [← I.ivs]; exact same_seqL sm hl
    refine ⟨_, rfl, h, _, hx, _, _, rfl, sm _ _ hh, T.cl_Holder, T.n_Holder_text, hF_text _, _, rfl, A, t, l, _, rfl, hT.same sm, hok, hl2, by rw [List.length_map]; exact hz, I.lt, fun p H2 sm2 hp => ?_⟩
    have hnl2 := needed_len hok (zs.map Int.toNat)
    refine ⟨_, rfl, _, _, rfl, .inl ⟨_, SqL.of hp, rfl⟩, (show 1 ≤ sizeLine by decide), fun q hq => ?_⟩
    refine ⟨_, rfl, q, p, _, _, rfl, rfl, upd_same, same_new hq _ _ hp, small_ok (m := 10000) (by rw [List.length_singleton, nvs_len]; omega), fun u hu => ?_⟩
    refine hk u _ (((sm.trans sm2).trans (same_new hq)).trans (same_new hu)) (Same.free ((sm.trans sm2).trans (same_new hq)) hu) ?_
    rw [upd_same, hlook, I.rows hok, nvs_len]
    simp [ivs, nvs, encode, Vapcmb.nats]
theorem match_refl : ∀ (f : Form) (s : List (Nat × Form)), (∀ x ∈ s, x.2 = .var x.1) → ∃ s', Vapcma.matchBy f f s = some s' ∧ ∀ x ∈ s', x.2 = .var x.1
  | .var v, s, h => by
    unfold Vapcma.matchBy
    cases hf : s.find? (fun x => x.1 == v) with
    | none => exact ⟨_, rfl, fun x hx => by
        rcases List.mem_append.mp hx with hx | hx
        · exact h x hx
        · rw [List.mem_singleton] at hx; subst hx; rfl⟩
    | some x =>
      have h1 := h x (List.mem_of_find?_eq_some hf)
      have h2 := List.find?_some hf
      have h3 : x.1 = v := by simpa using h2
      dsimp only
      rw [if_pos (by rw [h1, h3])]
      exact ⟨s, rfl, h⟩
  | .imp a b, s, h => by
    obtain ⟨s1, e1, h1⟩ := match_refl a s h
    obtain ⟨s2, e2, h2⟩ := match_refl b s1 h1
    exact ⟨s2, by unfold Vapcma.matchBy; rw [e1]; exact e2, h2⟩
  | .neg a, s, h => by
    obtain ⟨s1, e1, h1⟩ := match_refl a s h
    exact ⟨s1, by unfold Vapcma.matchBy; exact e1, h1⟩
theorem inst_refl (f : Form) : Vapcma.instanceOf f f = true := by
  obtain ⟨s, e, _⟩ := match_refl f [] (fun _ h => nomatch h)
  unfold Vapcma.instanceOf
  rw [e]; rfl
theorem first_self {fs : List (Option Form)} {f : Form} (h : some f ∈ fs) : ∃ k, Vapcmb.firstAsGeneral fs f = some k := by
  cases e : Vapcmb.firstAsGeneral fs f with
  | some k => exact ⟨k, rfl⟩
  | none =>
    rw [first_eq, List.findIdx?_eq_none_iff] at e
    have := e _ h
    rw [show isIn f (some f) = Vapcma.instanceOf f f from rfl, inst_refl] at this
    cases this
theorem frm_eqv (g : Option Form) (f : Form) : PyData.eqv (frmD g) (frmD (some f)) = (g == some f) := by
  cases g with
  | none => simp [frmD, PyData.eqv]
  | some g =>
    show PyData.eqv (.tuple ((enc g).map PyData.int)) (.tuple ((enc f).map PyData.int)) = _
    rw [eqv_tup, Bool.eq_iff_iff, decide_eq_true_eq, beq_iff_eq]
    exact ⟨fun h => by rw [enc_eq h], fun h => by rw [Option.some.inj h]⟩
def sp_Holder_general (T : Top K mg) : Sp := fun vs H Q _ => ∃ (h hx : Addr) (t : Text_) (i : Int),
  vs = [.ref h, .int i] ∧ HAt K T.C_Holder T.C_Text H h hx (some t) ∧ ∀ (D : Addr) (H' : Hp), Same H H' → H D = none → H' D = some (.lst (ivs (encode (Vapcmb.looked t (.general i))))) → Q (.ref D) H'
theorem ok_Holder_general (T : Top K mg) : FnOk P w K mg base CX0 4 T.m_Holder_general.f T.m_Holder_general.fd P_Holder_general (sp_Holder_general T) := by
  refine T.m_Holder_general.F.ok sc_Holder_general (fun vs H Q E h => by obtain ⟨_, _, _, _, rfl, _⟩ := h; rfl) (fun cdv A outer s H vs Q E hr h => ?_)
  refine ⟨_, (pss_cons (ps_if (pt_not (pt_val (pe_meth (pe_fld (pv 0) rfl) T.cl_Text T.m_Text_has_item.m (ok_Text_has_item T) (hr.mono (by decide)) T.m_Text_has_item.b .nil pass0 (pa_cons (pv 1) pa_nil)))) (pss_one (ps_ret (pe_lst (pa_cons (pe_un un_neg pe_int) pa_nil)))) pss_nil)
    (pss_cons (ps_set (i := 2) sc_Holder_general.nd rfl (Or.inl rfl) (pe_ix ix_list (pe_fld (pe_fld (pv 0) rfl) rfl) (pv 1) (fun _ _ => rfl)))
    (pss_cons (ps_if (pt_cmpR op_isN (pv 2) pe_non (nomark _)) (pss_one (ps_ret (pe_lst (pa_cons (pe_un un_neg pe_int) pa_nil)))) pss_nil)
    (pss_one (ps_ret (pe_lst (pa_cons (pe_call (ok_first_with_instance T) (hr.mono (by decide)) rfl T.d_first_with_instance.mg T.d_first_with_instance.F.kp T.d_first_with_instance.b .nil pass0 (pa_cons (pe_fld (pv 0) rfl) (pa_cons (pv 2) pa_nil))) (pa_cons (pe_bm PySem.F.plainAttrs_list PySem.F.slot_list_count PySem.F.type_list_count (mt_cntD (u65 hr)) (pe_fld (pe_fld (pv 0) rfl) rfl) (pa_cons (pv 2) pa_nil)) pa_nil)))))))), ?_⟩
  obtain ⟨h, hx, t, i, rfl, ⟨A, hh, hT, hok⟩, hk⟩ := h
  have hnl : (txOf t).ns.length = Vapcma.count t := tx_ns t
  have hfl : (txOf t).fs.length = Vapcma.count t := tx_fs t
  obtain ⟨ws, f1, f2⟩ := hT.f
  refine ⟨_, rfl, h, _, hx, _, _, rfl, hh, T.cl_Holder, T.n_Holder_text, hF_text _, A.a, A.dx, _, rfl, hT.o, tF_no (by decide +kernel) (by decide +kernel) (by decide +kernel) (by decide +kernel) _, _, rfl, A, txOf t, i, rfl, hT, ?_⟩
  refine ⟨_, rfl, ?_⟩
  rw [hnl]
  by_cases c : 0 ≤ i ∧ i < (Vapcma.count t : Int)
  · refine iteF (by rw [decide_eq_true c]; rfl) ?_
    obtain ⟨k, rfl⟩ : ∃ k : Nat, i = (k : Int) := ⟨i.toNat, by omega⟩
    have hkl : k < Vapcma.count t := by omega
    obtain ⟨g, hg⟩ : ∃ g, (txOf t).fs[k]? = some g := ⟨_, List.getElem?_eq_getElem (by omega)⟩
    have hlook : Vapcmb.looked t (.general (k : Int)) = match g with
      | none => VapcmBase.one (-5)
      | some f => ⟨(((Vapcmb.firstAsGeneral (Vapcma.formulas t) f).getD 0 : Nat) : Int), [(((Vapcma.formulas t).countP fun g => g == some f : Nat) : Int)]⟩ := by
      show Vapcma.withFormula t (k : Int) _ = _
      unfold Vapcma.withFormula Vapcma.withItem VapcmBase.index Vapcma.formulaAt
      rw [if_pos c]
      dsimp only
      rw [Int.toNat_natCast]
      have : (Vapcma.formulas t)[k]? = some g := hg
      rw [this]
      cases g <;> rfl
    obtain ⟨v, hv1, hv2⟩ := Shp.paired_get f2 hg
    refine ⟨_, rfl, h, _, hx, _, _, rfl, hh, T.cl_Holder, T.n_Holder_text, hF_text _, A.a, _, A.dx, _, _, rfl, hT.o, T.cl_Text, T.n_Text_formulas, tF_formulas _, _, rfl, _, _, _, _, rfl, rfl, SqL.of f1, atI_nat' hv1, ?_⟩
    refine ⟨_, rfl, rfl, _, rfl, ?_⟩
    cases g with
    | none =>
      refine iteT (decide_eq_true hv2) ?_
      refine ⟨_, rfl, (show 1 ≤ sizeLine by decide), fun p hp => ?_⟩
      refine hk p _ (same_new hp) hp ?_
      rw [upd_same, hlook]; rfl
    | some f =>
      obtain ⟨p, rfl, hp⟩ := hv2
      refine iteF (by simp) ?_
      refine ⟨_, rfl, h, _, hx, _, _, rfl, hh, T.cl_Holder, T.n_Holder_text, hF_text _, _, rfl, A, txOf t, p, f, rfl, hT, hp, hok.sizes1000, fun H2 sm2 => ?_⟩
      have hT2 := hT.same sm2
      have f3 := sm2 _ _ f1
      have f4 : Paired (FrmAt K H2) ws (txOf t).fs := paired_mono (fun _ _ z => FrmAt.tups z (fun _ _ q => same_seqT sm2 q)) f2
      refine ⟨_, rfl, h, _, hx, _, _, rfl, sm2 _ _ hh, T.cl_Holder, T.n_Holder_text, hF_text _, A.a, _, A.dx, _, _, rfl, hT2.o, T.cl_Text, T.n_Text_formulas, tF_formulas _, tyL f3, _, rfl, A.fo, .ref p, frmD (some f), (txOf t).fs.map frmD, rfl, rfl, .lst (SqL.of f3) (dp_paired (R := FrmAt K H2) (g := frmD) (fun _ _ z => frm_dp z) f4), frm_dp ⟨p, rfl, same_seqT sm2 hp⟩, shaped_list (fun y => (frmD_lay y).1) (fun y => (frmD_lay y).2.1) _, (frmD_lay _).2.2, ?_⟩
      refine ⟨(show 2 ≤ sizeLine by decide), fun q hq => ?_⟩
      refine hk q _ (sm2.trans (same_new hq)) (Same.free sm2 hq) ?_
      obtain ⟨m, hm⟩ := first_self (f := f) (List.mem_of_getElem? hg)
      have hm2 : Vapcmb.firstAsGeneral (Vapcma.formulas t) f = some m := hm
      have ec : ((txOf t).fs.map frmD).countP (fun z => PyData.eqv z (frmD (some f))) = (Vapcma.formulas t).countP fun g => g == some f := by
        rw [List.countP_map]
        congr 1
        funext g
        exact frm_eqv g f
      rw [upd_same, hlook, hm, ec]
      dsimp only
      rw [hm2]
      rfl
  · refine iteT (by rw [decide_eq_false c]; rfl) ?_
    refine ⟨_, rfl, (show 1 ≤ sizeLine by decide), fun p hp => ?_⟩
    refine hk p _ (same_new hp) hp ?_
    have hlook : Vapcmb.looked t (.general i) = VapcmBase.one (-2) := by
      show Vapcma.withFormula t i _ = _
      unfold Vapcma.withFormula Vapcma.withItem VapcmBase.index
      rw [if_neg c]
    rw [upd_same, hlook]; rfl
end
end Shp
end
section
set_option maxRecDepth 100000
set_option maxHeartbeats 4000000
namespace Shp
open PySem PySem.Spec PyProof.Rows L2
open Vapcma (Form Text_ Axiom)
open VapcmbNeutral (encode)
section
variable {P : Program} {w : World} {K : PySem.W.Frag} {mg : Str → Option Value} {base : Heap}
def srcNs : Src → List Nat
  | none => []
  | some x => [x.1, x.2]
theorem src_flat (t : Text_) : (txOf t).ss.flatMap srcNs = t.rows.flatMap fun r => [r.i, r.j] := by
  show (t.axioms.map _ ++ t.rows.map _).flatMap srcNs = _
  rw [List.flatMap_append, List.flatMap_map, List.flatMap_map]
  have : (t.axioms.flatMap fun _ => srcNs none) = [] := by
    induction t.axioms with
    | nil => rfl
    | cons a r ih => rw [List.flatMap_cons, ih]; rfl
  rw [this]; rfl
theorem src_len (ss : List Src) (i : Nat) : ((ss.take i).flatMap srcNs).length ≤ 2 * i := by
  induction i generalizing ss with
  | zero => simp
  | succ i ih =>
    cases ss with
    | nil => simp
    | cons s r =>
      rw [List.take_succ_cons, List.flatMap_cons, List.length_append]
      have := ih r
      have hs : (srcNs s).length ≤ 2 := by cases s <;> simp [srcNs]
      omega
def sp_Holder_shorten (T : Top K mg) : Sp := fun vs H Q _ => ∃ (h hx : Addr) (t : Text_),
  vs = [.ref h] ∧ HAt K T.C_Holder T.C_Text H h hx (some t) ∧ ∀ (D : Addr) (H' : Hp), Same H H' → H D = none → H' D = some (.lst (ivs (encode (Vapcmb.looked t .shorten)))) → Q (.ref D) H'
theorem ok_Holder_shorten (T : Top K mg) : FnOk P w K mg base CX0 9 T.m_Holder_shorten.f T.m_Holder_shorten.fd P_Holder_shorten (sp_Holder_shorten T) := by
  refine T.m_Holder_shorten.F.ok sc_Holder_shorten (fun vs H Q E h => by obtain ⟨_, _, _, rfl, _⟩ := h; rfl) (fun cdv A outer s H vs Q E hr h => ?_)
  refine ⟨_, (pss_cons (ps_set (i := 1) sc_Holder_shorten.nd rfl (Or.inl rfl) (pe_call (ok_shortened T) (hr.mono (by decide)) rfl T.d_shortened.mg T.d_shortened.F.kp T.d_shortened.b .nil pass0 (pa_cons (pe_fld (pv 0) rfl) pa_nil)))
    (pss_cons (ps_set (i := 2) sc_Holder_shorten.nd rfl (Or.inl rfl) (pe_lst (pa_cons (pe_meth0 (pv 1) T.cl_Text T.m_Text_row_count.m (ok_Text_row_count T) (hr.mono (by decide)) T.m_Text_row_count.b .nil pass0) (pa_cons (pe_meth0 (pe_fld (pv 0) rfl) T.cl_Text T.m_Text_row_count.m (ok_Text_row_count T) (hr.mono (by decide)) T.m_Text_row_count.b .nil pass0) (pa_cons (pe_call (ok_target_steps T) (hr.mono (by decide)) rfl T.d_target_steps.mg T.d_target_steps.F.kp T.d_target_steps.b .nil pass0 (pa_cons (pe_fld (pv 0) rfl) pa_nil)) (pa_cons (pe_call (ok_target_steps T) (hr.mono (by decide)) rfl T.d_target_steps.mg T.d_target_steps.F.kp T.d_target_steps.b .nil pass0 (pa_cons (pv 1) pa_nil)) pa_nil))))))
    (pss_cons (ps_for PassesOwn.never rfl (pi_list (pe_fld (pv 1) rfl)) (pg_name (i := 3) sc_Holder_shorten.nd rfl (Or.inl rfl))
      (pss_one (ps_if (pt_cmpR op_notN (pv 3) pe_non (nomark _)) (pss_one (ps_expr (pe_bm PySem.F.plainAttrs_list PySem.F.slot_list_extend PySem.F.type_list_extend mt_extT (pv 2) (pa_cons (pv 3) pa_nil)))) pss_nil)))
    (pss_one (ps_ret (pv 2)))))), ?_⟩
  obtain ⟨h, hx, t, rfl, ⟨A, hh, hT, hok⟩, hk⟩ := h
  refine ⟨_, rfl, h, _, hx, _, _, rfl, hh, T.cl_Holder, T.n_Holder_text, hF_text _, A, t, rfl, hT, hok, fun A2 H1 sm1 hT2 hok2 => ?_⟩
  have hh1 := sm1 _ _ hh
  have hT1 := hT.same sm1
  refine ⟨_, rfl, A2.a, A2.dx, _, rfl, hT2.o, tF_no (by decide +kernel) (by decide +kernel) (by decide +kernel) (by decide +kernel) _, A2, _, rfl, hT2, ?_⟩
  refine ⟨_, rfl, h, _, hx, _, _, rfl, hh1, T.cl_Holder, T.n_Holder_text, hF_text _, A.a, A.dx, _, rfl, hT1.o, tF_no (by decide +kernel) (by decide +kernel) (by decide +kernel) (by decide +kernel) _, A, _, rfl, hT1, ?_⟩
  refine ⟨_, rfl, h, _, hx, _, _, rfl, hh1, T.cl_Holder, T.n_Holder_text, hF_text _, A, t, rfl, hT1, hok, fun H2 sm2 => ?_⟩
  have hT3 := hT2.same sm2
  refine ⟨_, rfl, A2, _, rfl, hT3, hok2, fun H3 sm3 => ?_⟩
  have hT4 := hT3.same sm3
  refine ⟨(show 4 ≤ sizeLine by decide), fun D hD => ?_⟩
  have e1 : (((txOf (Vapcmb.shorten t)).ss.length : Nat) : Int) - (noSrc (txOf (Vapcmb.shorten t)).ss : Int) = ((Vapcmb.shorten t).rows.length : Int) := by rw [tx_no, tx_ss]; omega
  have e2 : (((txOf t).ss.length : Nat) : Int) - (noSrc (txOf t).ss : Int) = (t.rows.length : Int) := by rw [tx_no, tx_ss]; omega
  rw [e1, e2]
  have sm4 : Same H (upd H3 D (.lst [.int ((Vapcmb.shorten t).rows.length : Int), .int (t.rows.length : Int), .int (Vapcmb.treeTotal t : Int), .int (Vapcmb.treeTotal (Vapcmb.shorten t) : Int)])) := ((sm1.trans sm2).trans sm3).trans (same_new hD)
  have hT5 : TAt K T.C_Text (upd H3 D (.lst [.int ((Vapcmb.shorten t).rows.length : Int), .int (t.rows.length : Int), .int (Vapcmb.treeTotal t : Int), .int (Vapcmb.treeTotal (Vapcmb.shorten t) : Int)])) A2 (txOf (Vapcmb.shorten t)) := hT4.same (same_new hD)
  have hD0 : H D = none := ((sm1.trans sm2).trans sm3).free hD
  have hDn : (upd H3 D (.lst [.int ((Vapcmb.shorten t).rows.length : Int), .int (t.rows.length : Int), .int (Vapcmb.treeTotal t : Int), .int (Vapcmb.treeTotal (Vapcmb.shorten t) : Int)])) D = some (.lst (nvs ([(Vapcmb.shorten t).rows.length, t.rows.length, Vapcmb.treeTotal t, Vapcmb.treeTotal (Vapcmb.shorten t)]))) := upd_same
  have hDA : D ∉ A2.all := fun m => by
    obtain ⟨o, ho⟩ := hT4.some D m
    rw [hD] at ho; cases ho
  generalize upd H3 D (.lst [.int ((Vapcmb.shorten t).rows.length : Int), .int (t.rows.length : Int), .int (Vapcmb.treeTotal t : Int), .int (Vapcmb.treeTotal (Vapcmb.shorten t) : Int)]) = H4 at *
  obtain ⟨vs, s1, s2⟩ := hT5.s
  have hvl := s2.length
  have hss := tx_ss (Vapcmb.shorten t)
  have hna := hok2.na
  have hnr := hok2.nr
  generalize hb4 : [(Vapcmb.shorten t).rows.length, t.rows.length, Vapcmb.treeTotal t, Vapcmb.treeTotal (Vapcmb.shorten t)] = b4 at *
  have hb4l : b4.length = 4 := by rw [← hb4]; rfl
  refine ⟨_, rfl, A2.a, _, A2.dx, _, _, rfl, hT5.o, T.cl_Text, T.n_Text_sources, tF_sources _, A2.so, rfl, ⟨_, SqL.of s1⟩, for_list (K := K) (a := A2.so) (xs := vs) (fun i σ H' => ∃ (v3 : Option V), σ = [some (.ref h), some (.ref A2.a), some (.ref D), v3] ∧ Same H H' ∧ Keep [D] H4 H' ∧ H' D = some (.lst (nvs (b4 ++ ((txOf (Vapcmb.shorten t)).ss.take i).flatMap srcNs))))
    ⟨none, rfl, sm4, Keep.refl _ _, by rw [List.take_zero]; simpa using hDn⟩ (fun i σ H' _ ⟨_, _, _, kp, _⟩ => SqL.of (kp _ _ s1 (by simp; rintro rfl; exact hDA (by simp)))) ?_ ?_⟩
  · rintro i y σ H' hy ⟨v3, rfl, sm, kp, hd⟩
    have hilt : i < (txOf (Vapcmb.shorten t)).ss.length := by have := (List.getElem?_eq_some_iff.mp hy).1; omega
    obtain ⟨v, h1, h2⟩ := Shp.paired_get s2 (List.getElem?_eq_getElem hilt)
    rw [hy] at h1; cases h1
    have hat := List.getElem?_eq_getElem hilt
    refine ⟨_, rfl, rfl, _, rfl, ?_⟩
    cases hs : (txOf (Vapcmb.shorten t)).ss[i] with
    | none =>
      rw [hs] at h2 hat
      have e3 : y = .non := h2
      refine iteF (by simp [e3]) ?_
      refine ⟨_, rfl, sm, kp, ?_⟩
      rw [take_more0 hat, List.flatMap_append]
      simpa [srcNs] using hd
    | some x =>
      rw [hs] at h2 hat
      obtain ⟨q, rfl, hq⟩ := h2
      refine iteT (by simp) ?_
      have hqT : SqT K H' q [.int (x.1 : Int), .int (x.2 : Int)] := kp.tups (noTup1 hDn) _ _ hq
      have hz := src_len (txOf (Vapcmb.shorten t)).ss i
      refine ⟨_, rfl, tyL hd, _, rfl, D, q, _, _, rfl, rfl, hd, hqT, small_ok (m := 10000) (by rw [nvs_len, List.length_append]; show _ + 2 ≤ _; omega), ?_⟩
      refine ⟨_, rfl, same_old sm hD0, kp.trans (Keep.upd (by simp)), ?_⟩
      rw [upd_same, take_more0 hat, List.flatMap_append]
      simp [nvs, srcNs]
  · rintro σ H' ⟨v3, rfl, sm, kp, hd⟩
    rw [List.take_of_length_le (by omega), src_flat] at hd
    refine ⟨_, rfl, ?_⟩
    refine hk D H' sm hD0 ?_
    rw [hd, ← hb4]
    have e : Vapcmb.looked t .shorten = ⟨((Vapcmb.shorten t).rows.length : Int), Vapcmb.nats [t.rows.length, Vapcmb.treeTotal t, Vapcmb.treeTotal (Vapcmb.shorten t)] ++ (Vapcmb.shorten t).rows.flatMap fun r => Vapcmb.nats [r.i, r.j]⟩ := rfl
    rw [e]
    have ef : ∀ rs : List Vapcma.Row, ivs (rs.flatMap fun r => Vapcmb.nats [r.i, r.j]) = nvs (rs.flatMap fun r => [r.i, r.j]) := fun rs => by
      induction rs with
      | nil => rfl
      | cons r l ih => rw [List.flatMap_cons, List.flatMap_cons, ivs_app, nvs_app, ih]; rfl
    show _ = some (HO.lst (ivs (_ :: (Vapcmb.nats _ ++ _))))
    rw [nvs_app, ← ef]
    simp [ivs, nvs, Vapcmb.nats]
end
end Shp
end
section
set_option maxRecDepth 100000
set_option maxHeartbeats 4000000
namespace Shp
open PySem PySem.Spec PyProof.Rows L2
/-! the calls as one list of numbers, taken apart -/
theorem calls_turn {sh : Int → Option (Nat × Nat)} {f : Nat} {l : List Int} {cs : List (List (List Int))} (h : PyFlat.calls sh f l = some cs) :
    (l = [] ∧ cs = []) ∨ ∃ p r g c t cs', l = p :: r ∧ f = g + 1 ∧ PyFlat.call sh (p :: r) = some (c, t) ∧ PyFlat.calls sh g t = some cs' ∧ cs = c :: cs' := by
  cases l with
  | nil => unfold PyFlat.calls at h; cases f <;> (cases h; exact .inl ⟨rfl, rfl⟩)
  | cons p r =>
    cases f with
    | zero => cases h
    | succ g =>
      unfold PyFlat.calls at h
      cases hc : PyFlat.call sh (p :: r) with
      | none => rw [hc] at h; cases h
      | some ct =>
        obtain ⟨c, t⟩ := ct
        rw [hc] at h
        dsimp only at h
        cases hs : PyFlat.calls sh g t with
        | none => rw [hs] at h; cases h
        | some cs' =>
          rw [hs] at h
          cases h
          exact .inr ⟨p, r, g, c, t, cs', rfl, rfl, hc, hs, rfl⟩
theorem row_is {r : List Int} {x t : List Int} (h : PyFlat.row r = some (x, t)) : ∃ n r', r = n :: r' ∧ 0 ≤ n ∧ n.toNat ≤ r'.length ∧ x = r'.take n.toNat ∧ t = r'.drop n.toNat := by
  cases r with
  | nil => cases h
  | cons n r' =>
    unfold PyFlat.row at h
    dsimp only at h
    by_cases c : 0 ≤ n ∧ n.toNat ≤ r'.length
    · rw [if_pos c] at h
      cases h
      exact ⟨n, r', rfl, c.1, c.2, rfl, rfl⟩
    · rw [if_neg c] at h; cases h
theorem rows1 {r : List Int} {xs : List (List Int)} {t : List Int} (h : PyFlat.rows 1 r = some (xs, t)) : ∃ x, PyFlat.row r = some (x, t) ∧ xs = [x] := by
  unfold PyFlat.rows at h
  cases hr : PyFlat.row r with
  | none => rw [hr] at h; cases h
  | some xt =>
    obtain ⟨x, s⟩ := xt
    rw [hr] at h
    dsimp only at h
    unfold PyFlat.rows at h
    cases h
    exact ⟨x, rfl, rfl⟩
theorem rows2 {r : List Int} {xs : List (List Int)} {t : List Int} (h : PyFlat.rows 2 r = some (xs, t)) : ∃ x s y, PyFlat.row r = some (x, s) ∧ PyFlat.row s = some (y, t) ∧ xs = [x, y] := by
  unfold PyFlat.rows at h
  cases hr : PyFlat.row r with
  | none => rw [hr] at h; cases h
  | some xt =>
    obtain ⟨x, s⟩ := xt
    rw [hr] at h
    dsimp only at h
    cases h2 : PyFlat.rows 1 s with
    | none => rw [h2] at h; cases h
    | some yt =>
      obtain ⟨ys, u⟩ := yt
      rw [h2] at h
      cases h
      obtain ⟨y, e1, e2⟩ := rows1 h2
      exact ⟨x, s, y, rfl, e1, by rw [e2]⟩
/-- a call with n numbers and k rows -/
theorem call_is {sh : Int → Option (Nat × Nat)} {p : Int} {r : List Int} {c : List (List Int)} {t : List Int} {n k : Nat} (e : sh p = some (n, k)) (h : PyFlat.call sh (p :: r) = some (c, t)) :
    n ≤ r.length ∧ ∃ xs, PyFlat.rows k (r.drop n) = some (xs, t) ∧ c = (p :: r.take n) :: xs := by
  unfold PyFlat.call at h
  dsimp only at h
  rw [e] at h
  dsimp only at h
  by_cases q : r.length < n
  · rw [if_pos q] at h; cases h
  · rw [if_neg q] at h
    cases hr : PyFlat.rows k (r.drop n) with
    | none => rw [hr] at h; cases h
    | some xt =>
      obtain ⟨xs, u⟩ := xt
      rw [hr] at h
      cases h
      exact ⟨by omega, xs, rfl, rfl⟩
/-- which numbers are calls -/
theorem shape_cases {p : Int} {s : Nat × Nat} (h : PyVapcmb.shape p = some s) : (p = 0 ∧ s = (0, 1)) ∨ (p = 1 ∧ s = (0, 0)) ∨ (p = 2 ∧ s = (0, 1)) ∨ (p = 3 ∧ s = (1, 0)) ∨ (p = 4 ∧ s = (0, 0)) ∨ (p = 5 ∧ s = (0, 0)) ∨ (p = 6 ∧ s = (0, 2)) ∨ (p = 7 ∧ s = (0, 1)) ∨ (p = 8 ∧ s = (0, 0)) := by
  unfold PyVapcmb.shape at h
  repeat' split at h
  all_goals first | (cases h; done) | (cases h; simp_all)
end Shp
end
section
set_option maxHeartbeats 1000000
namespace Shp
open Vapcma (Text_)
/-! sets of rows as bits of one number -/
/-- the bits below n that are in p -/
def bitsF (p : Nat → Bool) : Nat → Nat
  | 0 => 0
  | n + 1 => if p n = true then bitsF p n ||| (1 <<< n) else bitsF p n
theorem one_bit (n q : Nat) : (1 <<< n).testBit q = decide (q = n) := by
  rw [Nat.one_shiftLeft, Nat.testBit_two_pow]
  by_cases c : q = n
  · simp [c]
  · simp [c]; exact fun e => c e.symm
theorem or_bit (m n q : Nat) : (m ||| (1 <<< n)).testBit q = (m.testBit q || decide (q = n)) := by
  rw [Nat.testBit_or, one_bit]
theorem bitsF_bit (p : Nat → Bool) (n q : Nat) : (bitsF p n).testBit q = (decide (q < n) && p q) := by
  induction n with
  | zero => simp [bitsF]
  | succ n ih =>
    unfold bitsF
    by_cases c : p n = true
    · rw [if_pos c, or_bit, ih]
      by_cases e : q = n
      · subst e; simp [c]
      · have : (q < n + 1) = (q < n) := by rw [eq_iff_iff]; omega
        simp [e, this]
    · rw [if_neg c, ih]
      by_cases e : q = n
      · subst e; simp at c; simp [c]
      · have : (q < n + 1) = (q < n) := by rw [eq_iff_iff]; omega
        simp [this]
theorem bit_lt {m n : Nat} (h : ∀ q, n ≤ q → m.testBit q = false) : m < 2 ^ n := Nat.lt_pow_two_of_testBit m h
theorem lt_bit {m n q : Nat} (h : m < 2 ^ n) (hq : n ≤ q) : m.testBit q = false := Nat.testBit_lt_two_pow (Nat.lt_of_lt_of_le h (Nat.pow_le_pow_right (by decide) hq))
theorem bitsF_lt (p : Nat → Bool) (n : Nat) : bitsF p n < 2 ^ n := bit_lt fun q hq => by rw [bitsF_bit]; simp; omega
theorem bitsF_all (n : Nat) : bitsF (fun _ => true) n = 2 ^ n - 1 := by
  refine Nat.eq_of_testBit_eq fun q => ?_
  rw [bitsF_bit, Nat.testBit_two_pow_sub_one]; simp
theorem bitsF_congr {p r : Nat → Bool} {n : Nat} (h : ∀ q, q < n → p q = r q) : bitsF p n = bitsF r n := by
  refine Nat.eq_of_testBit_eq fun q => ?_
  rw [bitsF_bit, bitsF_bit]
  by_cases c : q < n
  · simp [c, h q c]
  · simp [c]
theorem or_lt {m n b : Nat} (h : m < 2 ^ n) (hb : b < n) : m ||| (1 <<< b) < 2 ^ n := Nat.or_lt_two_pow h (by rw [Nat.one_shiftLeft]; exact Nat.pow_lt_pow_right (by decide) hb)
/-- a bit that isn't there is added -/
theorem or_add {m b : Nat} (h : m.testBit b = false) : m ||| (1 <<< b) = m + 2 ^ b := by
  refine Nat.eq_of_testBit_eq fun q => ?_
  rw [or_bit]
  by_cases c : q = b
  · subst c
    rw [Nat.add_comm, Nat.testBit_two_pow_add_eq, h]; simp
  · rcases Nat.lt_or_gt_of_ne c with c1 | c1
    · rw [Nat.add_comm, Nat.testBit_two_pow_add_gt c1]; simp [c]
    · have e : m + 2 ^ b = 2 ^ (b + 1) * (m / 2 ^ (b + 1)) + (m % 2 ^ (b + 1) + 2 ^ b) := by
        have := Nat.div_add_mod m (2 ^ (b + 1)); omega
      have l1 : m % 2 ^ (b + 1) < 2 ^ b := by
        refine bit_lt fun j hj => ?_
        rw [Nat.testBit_mod_two_pow]
        by_cases c2 : j = b
        · subst c2; simp [h]
        · have : ¬ j < b + 1 := by omega
          simp [this]
      have l2 : m % 2 ^ (b + 1) + 2 ^ b < 2 ^ (b + 1) := by
        have e3 : 2 ^ (b + 1) = 2 ^ b * 2 := Nat.pow_succ 2 b
        omega
      rw [e, Nat.testBit_two_pow_mul_add _ l2, if_neg (by omega), Nat.testBit_div_two_pow]
      have : ¬ q = b := c
      simp [this]
      congr 1; omega
/-- within: all bits of one are bits of the other -/
theorem within_iff (a m : Nat) : ((a &&& m) == a) = true ↔ ∀ q, a.testBit q = true → m.testBit q = true := by
  rw [beq_iff_eq]
  constructor
  · intro h q hq
    have := Nat.testBit_and a m q
    rw [h, hq] at this
    simpa using this.symm
  · intro h
    refine Nat.eq_of_testBit_eq fun q => ?_
    rw [Nat.testBit_and]
    cases c : a.testBit q with
    | false => rfl
    | true => rw [h q c]; rfl
theorem bit_div (m q : Nat) : (m / 2 ^ q % 2 == 1) = m.testBit q := by
  rw [Nat.testBit_eq_decide_div_mod_eq, Bool.eq_iff_iff, beq_iff_eq, decide_eq_true_eq]
/-! the rows that are needed -/
/-- what a row is told to be detached from -/
def srcs (t : Text_) (k : Nat) : List Nat := match t.rows[k - t.axioms.length]? with
  | none => []
  | some r => [r.i, r.j]
structure Rws (t : Text_) (R : List Nat) : Prop where
  asc : R.Pairwise (· < ·)
  row : ∀ k ∈ R, t.axioms.length ≤ k ∧ ∃ r, t.rows[k - t.axioms.length]? = some r
  cl : ∀ k ∈ R, ∀ x ∈ srcs t k, x < k ∧ (t.axioms.length ≤ x → x ∈ R)
theorem Rws.nd {t : Text_} {R : List Nat} (h : Rws t R) : R.Nodup := h.asc.imp fun h => Nat.ne_of_lt h
theorem from_mem {t : Text_} {k x : Nat} : x ∈ Vapcmb.from_ t k ↔ x ∈ srcs t k ∧ t.axioms.length ≤ x := by
  unfold Vapcmb.from_ srcs
  cases t.rows[k - t.axioms.length]? with
  | none => simp
  | some r => simp only [List.mem_eraseDups, List.mem_filter, decide_eq_true_eq]
theorem at_mem {R : List Nat} {q : Nat} (h : q < R.length) : R.getD q 0 ∈ R := by
  rw [List.getD_eq_getElem?_getD, List.getElem?_eq_getElem h]; exact List.getElem_mem h
theorem mem_at {R : List Nat} {k : Nat} (h : k ∈ R) : ∃ q, q < R.length ∧ R.getD q 0 = k := by
  obtain ⟨q, hq, e⟩ := List.mem_iff_getElem.mp h
  exact ⟨q, hq, by rw [List.getD_eq_getElem?_getD, List.getElem?_eq_getElem hq]; exact e⟩
theorem at_lt {R : List Nat} (a : R.Pairwise (· < ·)) {p q : Nat} (hp : p < q) (hq : q < R.length) : R.getD p 0 < R.getD q 0 := by
  rw [List.getD_eq_getElem?_getD, List.getElem?_eq_getElem (by omega), List.getD_eq_getElem?_getD, List.getElem?_eq_getElem hq]
  exact List.pairwise_iff_getElem.mp a p q (by omega) hq hp
theorem at_inj {R : List Nat} (a : R.Pairwise (· < ·)) {p q : Nat} (hp : p < R.length) (hq : q < R.length) (e : R.getD p 0 = R.getD q 0) : p = q := by
  rcases Nat.lt_trichotomy p q with c | c | c
  · have := at_lt a c hq; omega
  · exact c
  · have := at_lt a c hp; omega
theorem zip_range (R : List Nat) : R.zipIdx = (List.range R.length).map fun q => (R.getD q 0, q) := by
  refine List.ext_getElem (by simp) fun i h1 h2 => ?_
  have h3 : i < R.length := by simpa using h1
  simp [List.getElem?_eq_getElem h3]
/-- what is kept of the rows: which are wished for, which each is detached from, which are detached from it -/
structure Nds where
  R : List Nat
  wb : Nat
  sb : List Nat
  ub : List Nat
def Nds.n (N : Nds) : Nat := N.R.length
def Nds.can (N : Nds) (b m : Nat) : Bool := !m.testBit b && ((N.sb.getD b 0 &&& m) == N.sb.getD b 0)
def Nds.next (N : Nds) (m : Nat) : List Nat := (List.range N.n).filter fun b => N.can b m
def Nds.hold (N : Nds) (b m : Nat) : Bool := m.testBit b && (N.wb.testBit b || !((N.ub.getD b 0 &&& m) == N.ub.getD b 0))
def Nds.places (N : Nds) (m : Nat) : Nat := ((List.range N.n).filter fun b => N.hold b m).length + 1
def ndsOf (t : Text_) (R wish : List Nat) : Nds :=
  ⟨R, bitsF (fun q => wish.contains (R.getD q 0)) R.length,
   R.map fun k => bitsF (fun q => (srcs t k).contains (R.getD q 0)) R.length,
   R.map fun k => bitsF (fun q => (R.filter fun m => (srcs t m).contains k).contains (R.getD q 0)) R.length⟩
theorem sb_at {t : Text_} {R wish : List Nat} {b : Nat} (h : b < R.length) : (ndsOf t R wish).sb.getD b 0 = bitsF (fun q => (srcs t (R.getD b 0)).contains (R.getD q 0)) R.length := by
  show (R.map _).getD b 0 = _
  rw [List.getD_eq_getElem?_getD, List.getElem?_map, List.getElem?_eq_getElem h, List.getD_eq_getElem?_getD (l := R), List.getElem?_eq_getElem h]; rfl
theorem ub_at {t : Text_} {R wish : List Nat} {b : Nat} (h : b < R.length) : (ndsOf t R wish).ub.getD b 0 = bitsF (fun q => (R.filter fun m => (srcs t m).contains (R.getD b 0)).contains (R.getD q 0)) R.length := by
  show (R.map _).getD b 0 = _
  rw [List.getD_eq_getElem?_getD, List.getElem?_map, List.getElem?_eq_getElem h, List.getD_eq_getElem?_getD (l := R), List.getElem?_eq_getElem h]; rfl
/-- rows that are done, as a list and as bits -/
structure Rel (R dl : List Nat) (m : Nat) : Prop where
  nd : dl.Nodup
  sub : ∀ k ∈ dl, k ∈ R
  bit : ∀ q, q < R.length → (R.getD q 0 ∈ dl ↔ m.testBit q = true)
  lt : m < 2 ^ R.length
theorem Rel.start (R : List Nat) : Rel R [] 0 := ⟨List.nodup_nil, fun _ h => (nomatch h), fun q _ => (by simp), Nat.two_pow_pos _⟩
theorem Rel.add {t : Text_} {R dl : List Nat} {m b : Nat} (w : Rws t R) (h : Rel R dl m) (hb : b < R.length) (n : m.testBit b = false) : Rel R (dl ++ [R.getD b 0]) (m ||| (1 <<< b)) := by
  refine ⟨?_, ?_, fun q hq => ?_, or_lt h.lt hb⟩
  · rw [List.nodup_append]
    refine ⟨h.nd, by simp, fun x hx y hy => ?_⟩
    rw [List.mem_singleton] at hy
    rintro rfl
    rw [hy] at hx
    rw [(h.bit b hb).mp hx] at n; cases n
  · intro k hk
    rcases List.mem_append.mp hk with hk | hk
    · exact h.sub k hk
    · rw [List.mem_singleton] at hk; rw [hk]; exact at_mem hb
  · rw [or_bit, List.mem_append, List.mem_singleton, h.bit q hq, Bool.or_eq_true, decide_eq_true_eq]
    exact or_congr Iff.rfl ⟨fun e => at_inj w.asc hq hb e, fun e => by rw [e]⟩
theorem inSet_eq (R : List Nat) (m : Nat) : Vapcmb.inSet R m = ((List.range R.length).filter fun q => m.testBit q).map fun q => R.getD q 0 := by
  unfold Vapcmb.inSet
  rw [zip_range, List.filter_map, List.map_map]
  congr 1
  refine List.filter_congr fun q _ => ?_
  exact bit_div m q
theorem Rel.inSet {t : Text_} {R : List Nat} {m : Nat} (w : Rws t R) (h : m < 2 ^ R.length) : Rel R (Vapcmb.inSet R m) m := by
  rw [inSet_eq]
  refine ⟨?_, ?_, fun q hq => ?_, h⟩
  · rw [List.nodup_iff_pairwise_ne, List.pairwise_map]
    refine List.Pairwise.imp_of_mem (R := (· < ·)) (fun ha hb hab e => ?_) (List.Pairwise.filter _ List.pairwise_lt_range)
    have ha := (List.mem_filter.mp ha).1
    have hb := (List.mem_filter.mp hb).1
    rw [List.mem_range] at ha hb
    have := at_inj w.asc ha hb e
    omega
  · intro k hk
    obtain ⟨q, hq, rfl⟩ := List.mem_map.mp hk
    exact at_mem (by simpa using (List.mem_filter.mp hq).1)
  · rw [List.mem_map]
    constructor
    · rintro ⟨p, hp, e⟩
      have hp := List.mem_filter.mp hp
      rw [← at_inj w.asc (by simpa using hp.1) hq e]; exact hp.2
    · exact fun hb => ⟨q, List.mem_filter.mpr ⟨by simpa using hq, hb⟩, rfl⟩
/-- ready: may be next -/
theorem ready_eq {t : Text_} {R wish dl : List Nat} {m b : Nat} (w : Rws t R) (h : Rel R dl m) (hb : b < R.length) : Vapcmb.ready t dl (R.getD b 0) = (ndsOf t R wish).can b m := by
  unfold Vapcmb.ready Nds.can
  have e1 : dl.contains (R.getD b 0) = m.testBit b := by
    rw [Bool.eq_iff_iff, List.contains_iff_mem, h.bit b hb]
  rw [e1]
  congr 1
  rw [Bool.eq_iff_iff, within_iff, sb_at hb, List.all_eq_true]
  constructor
  · intro ha q hq
    rw [bitsF_bit, Bool.and_eq_true, decide_eq_true_eq, List.contains_iff_mem] at hq
    rw [← h.bit q hq.1, ← List.contains_iff_mem]
    refine ha _ (from_mem.mpr ⟨hq.2, (w.row _ (at_mem hq.1)).1⟩)
  · intro ha x hx
    have hx := from_mem.mp hx
    have hr := (w.cl _ (at_mem hb) x hx.1).2 hx.2
    obtain ⟨q, hq, rfl⟩ := mem_at hr
    rw [List.contains_iff_mem, h.bit q hq]
    refine ha q ?_
    rw [bitsF_bit, Bool.and_eq_true, decide_eq_true_eq, List.contains_iff_mem]
    exact ⟨hq, hx.1⟩
theorem hold_eq {t : Text_} {R wish wish2 dl : List Nat} {m b : Nat} (w : Rws t R) (h : Rel R dl m) (hb : b < R.length) (hw : ∀ k, t.axioms.length ≤ k → (k ∈ wish ↔ k ∈ wish2)) :
    (m.testBit b && (wish2.contains (R.getD b 0) || R.any fun k => !dl.contains k && (Vapcmb.from_ t k).contains (R.getD b 0))) = (ndsOf t R wish).hold b m := by
  unfold Nds.hold
  congr 1
  have e1 : wish2.contains (R.getD b 0) = (ndsOf t R wish).wb.testBit b := by
    show _ = (bitsF _ _).testBit b
    rw [bitsF_bit, Bool.eq_iff_iff, Bool.and_eq_true, decide_eq_true_eq, List.contains_iff_mem, List.contains_iff_mem, hw _ (w.row _ (at_mem hb)).1]
    exact ⟨fun x => ⟨hb, x⟩, fun x => x.2⟩
  rw [e1]
  congr 1
  rw [Bool.eq_iff_iff, Bool.not_eq_true', ← Bool.not_eq_true, within_iff, ub_at hb]
  rw [List.any_eq_true]
  constructor
  · rintro ⟨k, hk, hx⟩ ha
    rw [Bool.and_eq_true, List.contains_iff_mem] at hx
    obtain ⟨q, hq, rfl⟩ := mem_at hk
    have := ha q (by
      rw [bitsF_bit, Bool.and_eq_true, decide_eq_true_eq, List.contains_iff_mem, List.mem_filter, List.contains_iff_mem]
      exact ⟨hq, hk, (from_mem.mp hx.2).1⟩)
    rw [← h.bit q hq, ← List.contains_iff_mem] at this
    rw [this] at hx
    exact absurd hx.1 (by decide)
  · intro ha
    simp only [Classical.not_forall] at ha
    obtain ⟨q, h1, h2⟩ := ha
    rw [bitsF_bit, Bool.and_eq_true, decide_eq_true_eq, List.contains_iff_mem, List.mem_filter, List.contains_iff_mem] at h1
    refine ⟨R.getD q 0, h1.2.1, ?_⟩
    rw [Bool.and_eq_true, List.contains_iff_mem]
    refine ⟨?_, from_mem.mpr ⟨h1.2.2, (w.row _ (at_mem hb)).1⟩⟩
    cases c : dl.contains (R.getD q 0) with
    | false => rfl
    | true =>
      rw [List.contains_iff_mem, h.bit q h1.1] at c
      exact absurd c h2
theorem places_eq {t : Text_} {R wish wish2 dl : List Nat} {m : Nat} (w : Rws t R) (h : Rel R dl m) (hw : ∀ k, t.axioms.length ≤ k → (k ∈ wish ↔ k ∈ wish2)) :
    (Vapcmb.held t ⟨R, wish2⟩ dl).length + 1 = (ndsOf t R wish).places m := by
  unfold Vapcmb.held Nds.places
  congr 1
  have p : dl.Perm (((List.range R.length).filter fun q => m.testBit q).map fun q => R.getD q 0) := by
    have r2 := Rel.inSet w h.lt
    rw [← inSet_eq]
    rw [List.perm_ext_iff_of_nodup h.nd r2.nd]
    intro k
    constructor
    · intro hk
      obtain ⟨q, hq, rfl⟩ := mem_at (h.sub k hk)
      rw [r2.bit q hq, ← h.bit q hq]; exact hk
    · intro hk
      obtain ⟨q, hq, rfl⟩ := mem_at (r2.sub k hk)
      rw [h.bit q hq, ← r2.bit q hq]; exact hk
  rw [(p.filter _).length_eq, List.filter_map, List.length_map, List.filter_filter]
  congr 1
  refine List.filter_congr fun q hq => ?_
  rw [List.mem_range] at hq
  rw [← hold_eq w h hq hw, Bool.and_comm]
  rfl
end Shp
end
section
set_option maxHeartbeats 1000000
namespace Shp
open Vapcma (Text_)
open Vapcmb (peakBy peakOf held ready tableBy table ahead orderBy leastOrder leastPeak NONE)
/-! an order's peak -/
def Nds.go (N : Nds) : List Nat → Nat → Nat → Option Nat
  | [], _, pk => some pk
  | r :: rest, m, pk => if N.can (N.R.idxOf r) m = true then N.go rest (m ||| (1 <<< N.R.idxOf r)) (Nat.max pk (N.places m)) else none
theorem idx_at {R : List Nat} (nd : R.Nodup) {q : Nat} (h : q < R.length) : R.idxOf (R.getD q 0) = q := by
  rw [List.getD_eq_getElem?_getD, List.getElem?_eq_getElem h]
  exact nd.idxOf_getElem q h
theorem can_bit {N : Nds} {b m : Nat} (h : N.can b m = true) : m.testBit b = false := by
  unfold Nds.can at h
  simp at h; exact h.1
section
variable {t : Text_} {R wish wish2 : List Nat}
theorem go_eq (w : Rws t R) (hw : ∀ k, t.axioms.length ≤ k → (k ∈ wish ↔ k ∈ wish2)) : ∀ (l dl : List Nat) (m pk : Nat), Rel R dl m → (∀ k ∈ l, k ∈ R) → peakBy t ⟨R, wish2⟩ dl pk l = (ndsOf t R wish).go l m pk
  | [], dl, m, pk, h, hl => rfl
  | k :: r, dl, m, pk, h, hl => by
    obtain ⟨q, hq, rfl⟩ := mem_at (hl k (by simp))
    unfold peakBy Nds.go
    have e1 : (ndsOf t R wish).R.idxOf (R.getD q 0) = q := idx_at w.nd hq
    rw [e1, ready_eq (wish := wish) w h hq]
    have e2 : R.contains (R.getD q 0) = true := by rw [List.contains_iff_mem]; exact at_mem hq
    dsimp only
    rw [e2]
    cases c : (ndsOf t R wish).can q m with
    | false => rw [if_pos (Or.inr rfl), if_neg Bool.false_ne_true]
    | true =>
      rw [if_neg (by rintro (z | z) <;> cases z), if_pos rfl]
      rw [go_eq w hw r _ _ _ (h.add w hq (can_bit c)) (fun k hk => hl k (by simp [hk])), places_eq w h hw]
theorem peakBy_some {j : Vapcmb.Job} : ∀ (l dl : List Nat) (pk v : Nat), peakBy t j dl pk l = some v → (∀ k ∈ l, k ∈ j.rows ∧ k ∉ dl) ∧ l.Nodup
  | [], dl, pk, v, h => ⟨fun _ z => (nomatch z), List.nodup_nil⟩
  | k :: r, dl, pk, v, h => by
    unfold peakBy at h
    by_cases c : j.rows.contains k = false ∨ ready t dl k = false
    · rw [if_pos c] at h; cases h
    · rw [if_neg c] at h
      have ih := peakBy_some r _ _ _ h
      have c1 : j.rows.contains k = true := by
        cases e : j.rows.contains k with
        | true => rfl
        | false => exact absurd (.inl e) c
      have c2 : ready t dl k = true := by
        cases e : ready t dl k with
        | true => rfl
        | false => exact absurd (.inr e) c
      unfold ready at c2
      rw [Bool.and_eq_true] at c2
      have c3 : k ∉ dl := by simpa using c2.1
      refine ⟨fun x hx => ?_, ?_⟩
      · rcases List.mem_cons.mp hx with rfl | hx
        · exact ⟨by simpa using c1, c3⟩
        · exact ⟨(ih.1 x hx).1, fun z => (ih.1 x hx).2 (List.mem_append_left _ z)⟩
      · rw [List.nodup_cons]
        exact ⟨fun z => (ih.1 k z).2 (by simp), ih.2⟩
theorem perm_of {l R : List Nat} (nl : l.Nodup) (nR : R.Nodup) (s : ∀ k ∈ l, k ∈ R) (e : l.length = R.length) : l.Perm R := by
  rw [List.perm_ext_iff_of_nodup nl nR]
  intro k
  refine ⟨s k, fun hk => Classical.byContradiction fun c => ?_⟩
  have : (k :: l).length ≤ R.length := (List.nodup_cons.mpr ⟨c, nl⟩).length_le_of_subset fun x hx => by
    rcases List.mem_cons.mp hx with rfl | hx
    · exact hk
    · exact s x hx
  rw [List.length_cons] at this
  omega
theorem peakOf_yes (w : Rws t R) (hw : ∀ k, t.axioms.length ≤ k → (k ∈ wish ↔ k ∈ wish2)) {l : List Nat} (p : l.Perm R) : peakOf t ⟨R, wish2⟩ l = (ndsOf t R wish).go l 0 0 := by
  unfold peakOf
  rw [if_pos p.length_eq]
  exact go_eq w hw l [] 0 0 (Rel.start R) (fun k hk => p.mem_iff.mp hk)
theorem peakOf_no (w : Rws t R) {l : List Nat} (p : ¬ l.Perm R) : peakOf t ⟨R, wish2⟩ l = none := by
  unfold peakOf
  by_cases c : l.length = R.length
  · rw [if_pos c]
    cases h : peakBy t ⟨R, wish2⟩ [] 0 l with
    | none => rfl
    | some v =>
      have := peakBy_some l [] 0 v h
      exact absurd (perm_of this.2 w.nd (fun k hk => (this.1 k hk).1) c) p
  · rw [if_neg c]
/-! the least peak, for every set of rows -/
def ltab (t : Text_) (j : Vapcmb.Job) : Nat → List Nat
  | 0 => []
  | i + 1 => ahead t j (ltab t j i) (2 ^ j.rows.length - 1 - i) :: ltab t j i
theorem ltab_len (j : Vapcmb.Job) : ∀ i, (ltab t j i).length = i
  | 0 => rfl
  | i + 1 => by unfold ltab; rw [List.length_cons, ltab_len j i]
theorem tableBy_eq (j : Vapcmb.Job) : ∀ m, m ≤ 2 ^ j.rows.length → tableBy t j m (ltab t j (2 ^ j.rows.length - m)) = ltab t j (2 ^ j.rows.length)
  | 0, _ => rfl
  | m + 1, h => by
    unfold tableBy
    have e : ltab t j (2 ^ j.rows.length - m) = ahead t j (ltab t j (2 ^ j.rows.length - (m + 1))) m :: ltab t j (2 ^ j.rows.length - (m + 1)) := by
      obtain ⟨i, hi⟩ : ∃ i, 2 ^ j.rows.length - m = i + 1 := ⟨2 ^ j.rows.length - m - 1, by omega⟩
      have h2 : 2 ^ j.rows.length - (m + 1) = i := by omega
      rw [hi, h2, ltab]
      have h3 : 2 ^ j.rows.length - 1 - i = m := by omega
      rw [h3]
    rw [← e]
    exact tableBy_eq j m (by omega)
theorem table_eq (j : Vapcmb.Job) : table t j = ltab t j (2 ^ j.rows.length) := by
  have := tableBy_eq (t := t) j (2 ^ j.rows.length) (Nat.le_refl _)
  rw [Nat.sub_self] at this
  exact this
theorem ltab_at (j : Vapcmb.Job) {i k d : Nat} (hk : k ≤ i) : (ltab t j i)[i - k + d]? = (ltab t j k)[d]? := by
  induction i with
  | zero =>
    obtain rfl : k = 0 := by omega
    rw [Nat.sub_self, Nat.zero_add]
  | succ i ih =>
    by_cases c : k = i + 1
    · subst c; rw [Nat.sub_self, Nat.zero_add]
    · have e : i + 1 - k + d = (i - k + d) + 1 := by omega
      rw [e, ltab, List.getElem?_cons_succ]
      exact ih (by omega)
theorem fold_min {α : Type} (g : α → Nat) : ∀ (xs : List α) (B : Nat), (xs.foldl (fun b x => Nat.min b (g x)) B) ≤ B ∧ (∀ x ∈ xs, (xs.foldl (fun b x => Nat.min b (g x)) B) ≤ g x) ∧ ((xs.foldl (fun b x => Nat.min b (g x)) B) = B ∨ ∃ x ∈ xs, (xs.foldl (fun b x => Nat.min b (g x)) B) = g x)
  | [], B => ⟨Nat.le_refl _, fun _ h => (nomatch h), .inl rfl⟩
  | x :: xs, B => by
    rw [List.foldl_cons]
    obtain ⟨h1, h2, h3⟩ := fold_min g xs (Nat.min B (g x))
    have m1 : Nat.min B (g x) ≤ B := Nat.min_le_left _ _
    have m2 : Nat.min B (g x) ≤ g x := Nat.min_le_right _ _
    refine ⟨Nat.le_trans h1 m1, fun y hy => ?_, ?_⟩
    · rcases List.mem_cons.mp hy with rfl | hy
      · exact Nat.le_trans h1 m2
      · exact h2 y hy
    · rcases h3 with h3 | ⟨y, hy, h3⟩
      · rcases Nat.le_total B (g x) with c | c
        · exact .inl (by rw [h3]; exact Nat.min_eq_left c)
        · exact .inr ⟨x, by simp, by rw [h3]; exact Nat.min_eq_right c⟩
      · exact .inr ⟨y, by simp [hy], h3⟩
theorem ahead_le (j : Vapcmb.Job) (later : List Nat) (m : Nat) : ahead t j later m ≤ NONE := by
  unfold ahead
  dsimp only
  by_cases c : m + 1 = 2 ^ j.rows.length
  · rw [if_pos c]; exact Nat.zero_le _
  · rw [if_neg c]; exact (fold_min _ _ _).1
theorem ltab_le (j : Vapcmb.Job) : ∀ i, ∀ x ∈ ltab t j i, x ≤ NONE
  | 0, x, h => (nomatch h)
  | i + 1, x, h => by
    rcases List.mem_cons.mp h with rfl | h
    · exact ahead_le j _ _
    · exact ltab_le j i x h
theorem places_le (N : Nds) (m : Nat) : N.places m ≤ N.n + 1 := by
  unfold Nds.places
  have := List.length_filter_le (fun b => N.hold b m) (List.range N.n)
  rw [List.length_range] at this
  omega
/-- some row may be next -/
theorem next_some (w : Rws t R) {m : Nat} (h : m < 2 ^ R.length) (n : m + 1 ≠ 2 ^ R.length) : ∃ b, b ∈ (ndsOf t R wish).next m := by
  have key : ∃ q, q < R.length ∧ m.testBit q = false := Classical.byContradiction fun c => by
    simp only [not_exists, not_and, Bool.not_eq_false] at c
    apply n
    have : m = 2 ^ R.length - 1 := by
      refine Nat.eq_of_testBit_eq fun q => ?_
      rw [Nat.testBit_two_pow_sub_one]
      by_cases hq : q < R.length
      · rw [c q hq]; simp [hq]
      · rw [lt_bit h (by omega)]; simp [hq]
    omega
  have least : ∃ b, b < R.length ∧ m.testBit b = false ∧ ∀ q, q < b → m.testBit q = true := by
    obtain ⟨q, hq, hb⟩ := key
    induction q using Nat.strongRecOn with
    | ind q ih =>
      by_cases c : ∃ p, p < q ∧ m.testBit p = false
      · obtain ⟨p, hp, hb2⟩ := c
        exact ih p hp (by omega) hb2
      · simp only [not_exists, not_and, Bool.not_eq_false] at c
        exact ⟨q, hq, hb, c⟩
  obtain ⟨b, hb, hz, hl⟩ := least
  refine ⟨b, List.mem_filter.mpr ⟨by rw [List.mem_range]; exact hb, ?_⟩⟩
  unfold Nds.can
  rw [hz, Bool.not_false, Bool.true_and, within_iff, sb_at hb]
  intro q hq
  rw [bitsF_bit, Bool.and_eq_true, decide_eq_true_eq, List.contains_iff_mem] at hq
  have hlt := (w.cl _ (at_mem hb) _ hq.2).1
  refine hl q (Classical.byContradiction fun c => ?_)
  by_cases e : q = b
  · subst e; omega
  · have := at_lt w.asc (p := b) (q := q) (by omega) hq.1
    omega
theorem next_bit {N : Nds} {b m : Nat} (h : b ∈ N.next m) : b < N.n ∧ m.testBit b = false := by
  have h := List.mem_filter.mp h
  exact ⟨by simpa using h.1, can_bit h.2⟩
theorem ready_list (w : Rws t R) {dl : List Nat} {m : Nat} (h : Rel R dl m) : (R.zipIdx.filter fun x => ready t dl x.1) = ((ndsOf t R wish).next m).map fun q => (R.getD q 0, q) := by
  rw [zip_range, List.filter_map]
  congr 1
  refine List.filter_congr fun q hq => ?_
  rw [List.mem_range] at hq
  exact ready_eq w h hq
theorem ahead_eq (w : Rws t R) (hw : ∀ k, t.axioms.length ≤ k → (k ∈ wish ↔ k ∈ wish2)) (h8 : R.length ≤ 8) {later : List Nat} {m : Nat} (h : m < 2 ^ R.length) (n : m + 1 ≠ 2 ^ R.length) (hl : ∀ x ∈ later, x ≤ NONE)
    {mn : Nat} (h1 : mn ∈ ((ndsOf t R wish).next m).map fun b => later.getD (m + 2 ^ b - (m + 1)) NONE) (h2 : ∀ v ∈ ((ndsOf t R wish).next m).map fun b => later.getD (m + 2 ^ b - (m + 1)) NONE, mn ≤ v) :
    ahead t ⟨R, wish2⟩ later m = Nat.max ((ndsOf t R wish).places m) mn := by
  unfold ahead
  dsimp only
  have r := Rel.inSet w h
  rw [if_neg n, ready_list (wish := wish) w r, places_eq w r hw, List.foldl_map]
  dsimp only
  obtain ⟨f1, f2, f3⟩ := fold_min (fun b => Nat.max ((ndsOf t R wish).places m) (later.getD (m + 2 ^ b - (m + 1)) NONE)) ((ndsOf t R wish).next m) NONE
  have hp := places_le (ndsOf t R wish) m
  have hn : (ndsOf t R wish).n = R.length := rfl
  have hv : ∀ d, later.getD d NONE ≤ NONE := fun d => by
    rw [List.getD_eq_getElem?_getD]
    cases e : later[d]? with
    | none => exact Nat.le_refl _
    | some x => exact hl x (List.mem_of_getElem? e)
  have hN : NONE = 1000 := rfl
  refine Nat.le_antisymm ?_ ?_
  · obtain ⟨b, hb, e⟩ := List.mem_map.mp h1
    have := f2 b hb
    rw [e] at this
    exact this
  · rcases f3 with f3 | ⟨b, hb, f3⟩
    · rw [f3]
      obtain ⟨b, hb, e⟩ := List.mem_map.mp h1
      have := hv (m + 2 ^ b - (m + 1))
      exact Nat.max_le.mpr ⟨by omega, by omega⟩
    · rw [f3]
      have := h2 _ (List.mem_map.mpr ⟨b, hb, rfl⟩)
      exact Nat.max_le.mpr ⟨Nat.le_max_left _ _, Nat.le_trans this (Nat.le_max_right _ _)⟩
/-- the peaks on the way: those of the greatest sets are told -/
def pks (t : Text_) (j : Vapcmb.Job) (i : Nat) : List Nat := List.replicate (2 ^ j.rows.length - 1 - i) 0 ++ ltab t j (i + 1)
theorem pks_len (j : Vapcmb.Job) {i : Nat} (h : i < 2 ^ j.rows.length) : (pks t j i).length = 2 ^ j.rows.length := by
  unfold pks
  rw [List.length_append, List.length_replicate, ltab_len]; omega
theorem pks_start (j : Vapcmb.Job) : pks t j 0 = List.replicate (2 ^ j.rows.length) 0 := by
  unfold pks
  have e : ltab t j (0 + 1) = [0] := by
    unfold ltab ltab ahead
    have hp : 0 < 2 ^ j.rows.length := Nat.two_pow_pos _
    dsimp only
    rw [if_pos (by omega)]
  have hp : 0 < 2 ^ j.rows.length := Nat.two_pow_pos _
  have e2 : [0] = List.replicate 1 0 := rfl
  rw [e, e2, List.replicate_append_replicate]
  congr 1; omega
theorem pks_end (j : Vapcmb.Job) : pks t j (2 ^ j.rows.length - 1) = table t j := by
  unfold pks
  have hp : 0 < 2 ^ j.rows.length := Nat.two_pow_pos _
  rw [Nat.sub_self, table_eq]
  show ltab t j _ = _
  congr 1; omega
theorem pks_at (j : Vapcmb.Job) {i m b : Nat} (hm : m = 2 ^ j.rows.length - 2 - i) (hi : i + 1 < 2 ^ j.rows.length) (hb : m + 2 ^ b < 2 ^ j.rows.length) : (pks t j i)[m + 2 ^ b]? = some ((ltab t j (i + 1)).getD (m + 2 ^ b - (m + 1)) NONE) := by
  unfold pks
  have hp : 0 < 2 ^ b := Nat.two_pow_pos _
  rw [List.getElem?_append_right (by rw [List.length_replicate]; omega), List.length_replicate]
  have e : m + 2 ^ b - (2 ^ j.rows.length - 1 - i) = m + 2 ^ b - (m + 1) := by omega
  have hl : m + 2 ^ b - (m + 1) < (ltab t j (i + 1)).length := by rw [ltab_len]; omega
  rw [e, List.getElem?_eq_getElem hl, List.getD_eq_getElem?_getD, List.getElem?_eq_getElem hl]; rfl
theorem next_lt {b m : Nat} (h : m < 2 ^ R.length) (hb : b ∈ (ndsOf t R wish).next m) : m ||| (1 <<< b) < 2 ^ R.length ∧ m ||| (1 <<< b) = m + 2 ^ b := by
  have := next_bit hb
  exact ⟨or_lt h this.1, or_add this.2⟩
theorem pks_step (w : Rws t R) (hw : ∀ k, t.axioms.length ≤ k → (k ∈ wish ↔ k ∈ wish2)) (h8 : R.length ≤ 8) {i m : Nat} (hi : i + 1 < 2 ^ R.length) (hm : m = 2 ^ R.length - 2 - i) {mn : Nat}
    (h1 : mn ∈ ((ndsOf t R wish).next m).map fun b => (pks t ⟨R, wish2⟩ i).getD (m ||| (1 <<< b)) 0) (h2 : ∀ v ∈ ((ndsOf t R wish).next m).map fun b => (pks t ⟨R, wish2⟩ i).getD (m ||| (1 <<< b)) 0, mn ≤ v) :
    (pks t ⟨R, wish2⟩ i).set m (Nat.max ((ndsOf t R wish).places m) mn) = pks t ⟨R, wish2⟩ (i + 1) := by
  have hlt : m < 2 ^ R.length := by omega
  have e : (((ndsOf t R wish).next m).map fun b => (pks t ⟨R, wish2⟩ i).getD (m ||| (1 <<< b)) 0) = ((ndsOf t R wish).next m).map fun b => (ltab t ⟨R, wish2⟩ (i + 1)).getD (m + 2 ^ b - (m + 1)) NONE := by
    refine List.map_congr_left fun b hb => ?_
    obtain ⟨hn1, hn2⟩ := next_lt hlt hb
    rw [hn2] at hn1
    show (pks t ⟨R, wish2⟩ i).getD (m ||| (1 <<< b)) 0 = _
    rw [hn2, List.getD_eq_getElem?_getD, pks_at ⟨R, wish2⟩ hm hi hn1]; rfl
  rw [e] at h1 h2
  have ha := ahead_eq w hw h8 hlt (by omega) (ltab_le ⟨R, wish2⟩ (i + 1)) h1 h2
  rw [← ha]
  have e3 : (2 ^ R.length - 1 - i) = m + 1 := by omega
  have e4 : (2 ^ R.length - 1 - (i + 1)) = m := by omega
  have e5 : ltab t ⟨R, wish2⟩ (i + 1 + 1) = ahead t ⟨R, wish2⟩ (ltab t ⟨R, wish2⟩ (i + 1)) m :: ltab t ⟨R, wish2⟩ (i + 1) := by
    rw [ltab]
    dsimp only
    rw [e4]
  unfold pks
  dsimp only
  rw [e3, e4, e5, List.replicate_succ', List.append_assoc]
  rw [List.set_append_right _ _ (by simp), List.length_replicate, Nat.sub_self]
  rfl
/-! the first order with the least peak -/
theorem tab_at (w : Rws t R) (hw : ∀ k, t.axioms.length ≤ k → (k ∈ wish ↔ k ∈ wish2)) (h8 : R.length ≤ 8) {m : Nat} (h : m < 2 ^ R.length) (n : m + 1 ≠ 2 ^ R.length) {best : Nat} (hb : (table t ⟨R, wish2⟩).getD m 0 ≤ best) :
    (ndsOf t R wish).places m ≤ best ∧ ∃ b ∈ (ndsOf t R wish).next m, (table t ⟨R, wish2⟩).getD (m ||| (1 <<< b)) 0 ≤ best := by
  have hvs : ∃ mn, mn ∈ (((ndsOf t R wish).next m).map fun b => (ltab t ⟨R, wish2⟩ (2 ^ R.length - 1 - m)).getD (m + 2 ^ b - (m + 1)) NONE) ∧ ∀ v ∈ (((ndsOf t R wish).next m).map fun b => (ltab t ⟨R, wish2⟩ (2 ^ R.length - 1 - m)).getD (m + 2 ^ b - (m + 1)) NONE), mn ≤ v := by
    obtain ⟨b0, hb0⟩ := next_some (wish := wish) w h n
    obtain ⟨f1, f2, f3⟩ := fold_min (fun b => (ltab t ⟨R, wish2⟩ (2 ^ R.length - 1 - m)).getD (m + 2 ^ b - (m + 1)) NONE) ((ndsOf t R wish).next m) ((ltab t ⟨R, wish2⟩ (2 ^ R.length - 1 - m)).getD (m + 2 ^ b0 - (m + 1)) NONE)
    generalize (((ndsOf t R wish).next m).foldl (fun b x => Nat.min b ((ltab t ⟨R, wish2⟩ (2 ^ R.length - 1 - m)).getD (m + 2 ^ x - (m + 1)) NONE)) ((ltab t ⟨R, wish2⟩ (2 ^ R.length - 1 - m)).getD (m + 2 ^ b0 - (m + 1)) NONE)) = u at f1 f2 f3
    refine ⟨u, ?_, fun v hv => ?_⟩
    · rcases f3 with f3 | ⟨b, hb, f3⟩
      · rw [f3]; exact List.mem_map.mpr ⟨b0, hb0, rfl⟩
      · rw [f3]; exact List.mem_map.mpr ⟨b, hb, rfl⟩
    · obtain ⟨b, hb, rfl⟩ := List.mem_map.mp hv
      exact f2 b hb
  obtain ⟨mn, h1, h2⟩ := hvs
  have ha := ahead_eq w hw h8 h n (ltab_le ⟨R, wish2⟩ _) h1 h2
  have e : (table t ⟨R, wish2⟩).getD m 0 = ahead t ⟨R, wish2⟩ (ltab t ⟨R, wish2⟩ (2 ^ R.length - 1 - m)) m := by
    rw [table_eq, List.getD_eq_getElem?_getD]
    have := ltab_at (t := t) ⟨R, wish2⟩ (i := 2 ^ R.length) (k := 2 ^ R.length - m) (d := 0) (by omega)
    rw [show 2 ^ R.length - (2 ^ R.length - m) + 0 = m by omega] at this
    rw [this]
    obtain ⟨i, hi⟩ : ∃ i, 2 ^ R.length - m = i + 1 := ⟨2 ^ R.length - m - 1, by omega⟩
    have h3 : 2 ^ R.length - 1 - m = i := by omega
    have h4 : 2 ^ R.length - 1 - i = m := by omega
    rw [hi, h3, ltab]
    dsimp only
    rw [h4]; rfl
  rw [e, ha] at hb
  refine ⟨Nat.le_trans (Nat.le_max_left _ _) hb, ?_⟩
  obtain ⟨b, hb1, hb2⟩ := List.mem_map.mp h1
  refine ⟨b, hb1, ?_⟩
  obtain ⟨hn1, hn2⟩ := next_lt h hb1
  rw [hn2] at hn1 ⊢
  have h5 := ltab_at (t := t) ⟨R, wish2⟩ (i := 2 ^ R.length) (k := 2 ^ R.length - 1 - m) (d := m + 2 ^ b - (m + 1)) (by omega)
  have hp : 0 < 2 ^ b := Nat.two_pow_pos _
  rw [show 2 ^ R.length - (2 ^ R.length - 1 - m) + (m + 2 ^ b - (m + 1)) = m + 2 ^ b by omega] at h5
  have hl : m + 2 ^ b - (m + 1) < (ltab t ⟨R, wish2⟩ (2 ^ R.length - 1 - m)).length := by rw [ltab_len]; omega
  rw [List.getD_eq_getElem?_getD, List.getElem?_eq_getElem hl, Option.getD_some] at hb2
  rw [table_eq, List.getD_eq_getElem?_getD, h5, List.getElem?_eq_getElem hl, Option.getD_some, hb2]
  exact Nat.le_trans (Nat.le_max_right _ _) hb
theorem order_step (w : Rws t R) (hw : ∀ k, t.axioms.length ≤ k → (k ∈ wish ↔ k ∈ wish2)) (h8 : R.length ≤ 8) {m : Nat} {dl : List Nat} (r : Rel R dl m) (hl : dl.length < R.length) {best : Nat} (hb : (table t ⟨R, wish2⟩).getD m 0 ≤ best) (k : Nat) :
    ∃ b rest, (((ndsOf t R wish).next m).filter fun b => decide ((table t ⟨R, wish2⟩).getD (m ||| (1 <<< b)) 0 ≤ best)) = b :: rest ∧
      orderBy t ⟨R, wish2⟩ (table t ⟨R, wish2⟩) best (k + 1) m dl = orderBy t ⟨R, wish2⟩ (table t ⟨R, wish2⟩) best k (m ||| (1 <<< b)) (dl ++ [R.getD b 0]) ∧
      b < R.length ∧ Rel R (dl ++ [R.getD b 0]) (m ||| (1 <<< b)) ∧ (table t ⟨R, wish2⟩).getD (m ||| (1 <<< b)) 0 ≤ best := by
  have n : m + 1 ≠ 2 ^ R.length := fun e => by
    have hs : R.length ≤ dl.length := w.nd.length_le_of_subset fun x hx => by
      obtain ⟨q, hq, rfl⟩ := mem_at hx
      rw [r.bit q hq]
      have : m = 2 ^ R.length - 1 := by omega
      rw [this, Nat.testBit_two_pow_sub_one]; simpa using hq
    omega
  obtain ⟨t1, b0, t2, t3⟩ := tab_at w hw h8 r.lt n hb
  cases hf : (((ndsOf t R wish).next m).filter fun b => decide ((table t ⟨R, wish2⟩).getD (m ||| (1 <<< b)) 0 ≤ best)) with
  | nil =>
    have : b0 ∈ (((ndsOf t R wish).next m).filter fun b => decide ((table t ⟨R, wish2⟩).getD (m ||| (1 <<< b)) 0 ≤ best)) := List.mem_filter.mpr ⟨t2, by simpa using t3⟩
    rw [hf] at this; cases this
  | cons b rest =>
    have hbm : b ∈ (((ndsOf t R wish).next m).filter fun b => decide ((table t ⟨R, wish2⟩).getD (m ||| (1 <<< b)) 0 ≤ best)) := by rw [hf]; simp
    obtain ⟨b1, b2⟩ := List.mem_filter.mp hbm
    have hbn := next_bit b1
    have hnl := next_lt r.lt b1
    refine ⟨b, rest, rfl, ?_, hbn.1, r.add w hbn.1 hbn.2, of_decide_eq_true b2⟩
    have hfind : (R.zipIdx.find? fun x => ready t dl x.1 && decide (Nat.max ((held t ⟨R, wish2⟩ dl).length + 1) ((table t ⟨R, wish2⟩).getD (m + 2 ^ x.2) NONE) ≤ best)) = some (R.getD b 0, b) := by
      rw [zip_range, List.find?_map, ← List.head?_filter]
      have e : ((List.range R.length).filter ((fun x : Nat × Nat => ready t dl x.1 && decide (Nat.max ((held t ⟨R, wish2⟩ dl).length + 1) ((table t ⟨R, wish2⟩).getD (m + 2 ^ x.2) NONE) ≤ best)) ∘ fun q => (R.getD q 0, q))) = b :: rest := by
        rw [← hf]
        unfold Nds.next
        rw [List.filter_filter]
        refine List.filter_congr fun q hq => ?_
        rw [List.mem_range] at hq
        show (ready t dl (R.getD q 0) && _) = _
        rw [ready_eq (wish := wish) w r hq, Bool.and_comm]
        cases c : (ndsOf t R wish).can q m with
        | false => rw [Bool.and_false, Bool.and_false]
        | true =>
          rw [Bool.and_true, Bool.and_true]
          have hq2 : q ∈ (ndsOf t R wish).next m := List.mem_filter.mpr ⟨by rw [List.mem_range]; exact hq, c⟩
          obtain ⟨hq3, hq4⟩ := next_lt r.lt hq2
          rw [hq4] at hq3 ⊢
          have hlen : m + 2 ^ q < (table t ⟨R, wish2⟩).length := by rw [table_eq, ltab_len]; exact hq3
          rw [places_eq w r hw, List.getD_eq_getElem?_getD, List.getD_eq_getElem?_getD, List.getElem?_eq_getElem hlen, Option.getD_some, Option.getD_some]
          rw [Bool.eq_iff_iff, decide_eq_true_eq, decide_eq_true_eq]
          exact ⟨fun z => Nat.le_trans (Nat.le_max_right _ _) z, fun z => Nat.max_le.mpr ⟨t1, z⟩⟩
      rw [e]; rfl
    show orderBy t ⟨R, wish2⟩ (table t ⟨R, wish2⟩) best (k + 1) m dl = _
    rw [orderBy]
    dsimp only
    rw [hfind]
    dsimp only
    rw [hnl.2]
end
end Shp
end
section
set_option maxRecDepth 100000
set_option maxHeartbeats 4000000
namespace Shp
open PySem PySem.Spec PyProof.Rows L2
open Vapcma (Form Text_ Axiom)
section
variable {P : Program} {w : World} {K : PySem.W.Frag} {mg : Str → Option Value} {base : Heap}
theorem and_nat (a b : Nat) : Builtin.bitAnd (a : Int) (b : Int) = ((a &&& b : Nat) : Int) := by
  rw [bitAnd_pp (by omega) (by omega), Int.toNat_natCast, Int.toNat_natCast]
theorem or_nat (a b : Nat) : Builtin.bitOr (a : Int) (b : Int) = ((a ||| b : Nat) : Int) := by
  rw [Bits.bitOr_pp (by omega) (by omega), Int.toNat_natCast, Int.toNat_natCast]
theorem shr_nat (m b : Nat) : ((m : Int) / 2 ^ ((b : Int)).toNat) = ((m / 2 ^ b : Nat) : Int) := by
  rw [Int.toNat_natCast]; norm_cast
theorem shl_nat (b : Nat) : ((1 : Int) * (2 : Int) ^ ((b : Int)).toNat) = ((1 <<< b : Nat) : Int) := by
  rw [Int.toNat_natCast, Int.one_mul, Nat.one_shiftLeft]; exact (Int.natCast_pow 2 b).symm
theorem has_nat (m b : Nat) : decide (V.int (((m / 2 ^ b &&& 1 : Nat)) : Int) = V.int 1) = m.testBit b := by
  rw [dec_int, Nat.and_one_is_mod, ← bit_div, Bool.eq_iff_iff, beq_iff_eq, beq_iff_eq]
  omega
theorem within_nat (a m : Nat) : decide (V.int ((a &&& m : Nat) : Int) = V.int (a : Int)) = ((a &&& m) == a) := by
  rw [dec_int, Bool.eq_iff_iff, beq_iff_eq, beq_iff_eq]
  omega
def sp_has_bit (T : Top K mg) : Sp := fun vs H Q _ => ∃ (m b : Nat), vs = [.int (m : Int), .int (b : Int)] ∧ Q (.bl (m.testBit b)) H
theorem ok_has_bit (T : Top K mg) : FnOk P w K mg base CX0 1 T.d_has_bit.f T.d_has_bit.fd P_has_bit (sp_has_bit T) := by
  refine T.d_has_bit.F.ok sc_has_bit (fun vs H Q E h => by obtain ⟨_, _, rfl, _⟩ := h; rfl) (fun cdv A outer s H vs Q E hr h => ?_)
  refine ⟨_, (pss_one (ps_ret (pe_cmpR op_eq (pe_op op_and (pe_op op_shr (pv 0) (pv 1)) pe_int) pe_int (nomark _)))), ?_⟩
  obtain ⟨m, b, rfl, hq⟩ := h
  refine ⟨_, rfl, _, rfl, _, _, rfl, rfl, Int.natCast_nonneg _, _, _, rfl, rfl, rfl, ?_⟩
  show Q (.bl (decide (V.int (Builtin.bitAnd ((m : Int) / 2 ^ ((b : Int)).toNat) ((1 : Nat) : Int)) = V.int 1))) H
  rw [shr_nat, and_nat, has_nat]
  exact hq
def sp_with_bit (T : Top K mg) : Sp := fun vs H Q _ => ∃ (m b : Nat), vs = [.int (m : Int), .int (b : Int)] ∧ b ≤ 1000 ∧ Q (.int ((m ||| (1 <<< b) : Nat) : Int)) H
theorem ok_with_bit (T : Top K mg) : FnOk P w K mg base CX0 1 T.d_with_bit.f T.d_with_bit.fd P_with_bit (sp_with_bit T) := by
  refine T.d_with_bit.F.ok sc_with_bit (fun vs H Q E h => by obtain ⟨_, _, rfl, _⟩ := h; rfl) (fun cdv A outer s H vs Q E hr h => ?_)
  refine ⟨_, (pss_one (ps_ret (pe_op op_or (pv 0) (pe_op op_shl pe_int (pv 1))))), ?_⟩
  obtain ⟨m, b, rfl, hb, hq⟩ := h
  refine ⟨_, rfl, _, rfl, _, _, rfl, rfl, ⟨by omega, by omega, by decide⟩, _, _, rfl, rfl, ?_⟩
  show Q (.int (Builtin.bitOr (m : Int) ((1 : Int) * 2 ^ ((b : Int)).toNat))) H
  rw [shl_nat, or_nat]
  exact hq
def sp_all_within (T : Top K mg) : Sp := fun vs H Q _ => ∃ (a m : Nat), vs = [.int (a : Int), .int (m : Int)] ∧ Q (.bl ((a &&& m) == a)) H
theorem ok_all_within (T : Top K mg) : FnOk P w K mg base CX0 1 T.d_all_within.f T.d_all_within.fd P_all_within (sp_all_within T) := by
  refine T.d_all_within.F.ok sc_all_within (fun vs H Q E h => by obtain ⟨_, _, rfl, _⟩ := h; rfl) (fun cdv A outer s H vs Q E hr h => ?_)
  refine ⟨_, (pss_one (ps_ret (pe_cmpR op_eq (pe_op op_and (pv 0) (pv 1)) (pv 0) (nomark _)))), ?_⟩
  obtain ⟨a, m, rfl, hq⟩ := h
  refine ⟨_, rfl, _, rfl, _, _, rfl, rfl, _, rfl, rfl, ?_⟩
  show Q (.bl (decide (V.int (Builtin.bitAnd (a : Int) (m : Int)) = V.int (a : Int)))) H
  rw [and_nat, within_nat]
  exact hq
end
end Shp
end
section
set_option maxRecDepth 100000
set_option maxHeartbeats 4000000
namespace Shp
open PySem PySem.Spec PyProof.Rows L2
open Vapcma (Form Text_ Axiom)
section
variable {P : Program} {w : World} {K : PySem.W.Frag} {mg : Str → Option Value} {base : Heap}
theorem bitsF_succ (p : Nat → Bool) (n : Nat) : bitsF p (n + 1) = if p n = true then bitsF p n ||| (1 <<< n) else bitsF p n := rfl
def sp_bits_of (T : Top K mg) : Sp := fun vs H Q _ => ∃ (r c : Addr) (R C : List Nat),
  vs = [.ref r, .ref c] ∧ SqL K H r (nvs R) ∧ (SqL K H c (nvs C) ∨ SqT K H c (nvs C)) ∧ R.length ≤ 1000 ∧ ∀ H', Same H H' → Q (.int ((bitsF (fun q => C.contains (R.getD q 0)) R.length : Nat) : Int)) H'
theorem ok_bits_of (T : Top K mg) : FnOk P w K mg base CX0 2 T.d_bits_of.f T.d_bits_of.fd P_bits_of (sp_bits_of T) := by
  refine T.d_bits_of.F.ok sc_bits_of (fun vs H Q E h => by obtain ⟨_, _, _, _, rfl, _⟩ := h; rfl) (fun cdv A outer s H vs Q E hr h => ?_)
  refine ⟨_, (pss_cons (ps_set (i := 2) sc_bits_of.nd rfl (Or.inl rfl) pe_int)
    (pss_cons (ps_for PassesOwn.never rfl (pi_enum (by rfl) T.b_enumerate (pa_cons (pv 0) pa_nil)) (pg_tup rfl (pgs_cons (pg_name (i := 3) sc_bits_of.nd rfl (Or.inl rfl)) (pgs_cons (pg_name (i := 4) sc_bits_of.nd rfl (Or.inl rfl)) pgs_nil)))
      (pss_one (ps_if (pt_cmpR op_in_seq (pv 4) (pv 1) rfl) (pss_one (ps_set (i := 2) sc_bits_of.nd rfl (Or.inl rfl) (pe_call (ok_with_bit T) (hr.mono (by decide)) rfl T.d_with_bit.mg T.d_with_bit.F.kp T.d_with_bit.b .nil pass0 (pa_cons (pv 2) (pa_cons (pv 3) pa_nil))))) pss_nil)))
    (pss_one (ps_ret (pv 2))))), ?_⟩
  obtain ⟨r, c, R, C, rfl, hR, hC, hz, hq⟩ := h
  refine ⟨_, rfl, r, nvs R, rfl, hR, for_it walk_enum (fun i σ H' => ∃ (v3 v4 : Option V), σ = [some (.ref r), some (.ref c), some (.int ((bitsF (fun q => C.contains (R.getD q 0)) i : Nat) : Int)), v3, v4] ∧ Same H H')
    ⟨none, none, rfl, Same.refl _⟩ (fun i σ H' _ ⟨_, _, _, sm⟩ => same_seqL sm hR) ?_ ?_⟩
  · rintro i y σ H1 H2 hi ⟨v3, v4, rfl, sm⟩ ⟨Tp, x1, x2, rfl, hTp, rfl, e1, e2⟩
    cases e1
    have e2 : (nvs R)[i]? = some x2 := e2
    rw [nvs_len] at hi
    have e3 : x2 = .int ((R.getD i 0 : Nat) : Int) := by
      rw [nvs_get (List.getElem?_eq_getElem hi)] at e2
      rw [List.getD_eq_getElem?_getD, List.getElem?_eq_getElem hi]
      exact (Option.some.inj e2).symm
    subst e3
    have sm2 : Same H (upd H1 Tp (.tup [.int (i : Nat), .int ((R.getD i 0 : Nat) : Int)])) := same_newer sm hTp
    refine ⟨Tp, _, rfl, SqT.of upd_same, rfl, _, _, rfl, _, _, rfl, rfl, ?_⟩
    generalize upd H1 Tp (.tup [.int (i : Nat), .int ((R.getD i 0 : Nat) : Int)]) = H3 at *
    refine ⟨_, rfl, _, rfl, c, _, rfl, hC.imp (same_seqL sm2) (same_seqT sm2), rfl, nvs_flat _, _, rfl, ?_⟩
    rw [if_neg Bool.false_ne_true, nvs_in]
    cases e4 : C.contains (R.getD i 0) with
    | false =>
      refine iteF rfl ?_
      refine ⟨some (.int ((i : Nat) : Int)), some (.int ((R.getD i 0 : Nat) : Int)), ?_, sm2⟩
      rw [bitsF_succ, if_neg (by rw [e4]; exact Bool.false_ne_true)]
      rfl
    | true =>
      refine iteT rfl ?_
      refine ⟨_, rfl, _, rfl, _, i, rfl, by omega, ?_⟩
      refine ⟨some (.int ((i : Nat) : Int)), some (.int ((R.getD i 0 : Nat) : Int)), ?_, sm2⟩
      rw [bitsF_succ, if_pos e4]
      rfl
  · rintro σ H' ⟨v3, v4, rfl, sm⟩
    rw [nvs_len]
    exact ⟨_, rfl, hq H' sm⟩
end
end Shp
end
section
set_option maxRecDepth 100000
set_option maxHeartbeats 4000000
namespace Shp
open PySem PySem.Spec PyProof.Rows L2
open Vapcma (Form Text_ Axiom)
section
variable {P : Program} {w : World} {K : PySem.W.Frag} {mg : Str → Option Value} {base : Heap}
theorem nvs_back {R : List Nat} {i : Nat} {x : V} (h : (nvs R)[i]? = some x) : x = .int ((R.getD i 0 : Nat) : Int) ∧ i < R.length ∧ R[i]? = some (R.getD i 0) := by
  have hi : i < R.length := by have := (List.getElem?_eq_some_iff.mp h).1; rwa [nvs_len] at this
  rw [nvs_get (List.getElem?_eq_getElem hi)] at h
  rw [List.getD_eq_getElem?_getD, List.getElem?_eq_getElem hi]
  exact ⟨(Option.some.inj h).symm, hi, rfl⟩
theorem src_at {t : Text_} {R : List Nat} (w : Rws t R) {k : Nat} (h : k ∈ R) : ∃ x : Nat × Nat, (txOf t).ss[k]? = some (some x) ∧ srcs t k = [x.1, x.2] := by
  obtain ⟨h1, r, hr⟩ := w.row k h
  refine ⟨(r.i, r.j), ?_, by unfold srcs; rw [hr]⟩
  have := tx_at_row t (k - t.axioms.length)
  rw [hr, show t.axioms.length + (k - t.axioms.length) = k by omega] at this
  exact this
theorem take_filter {α : Type} (f : α → Bool) {l : List α} {i : Nat} {x : α} (h : l[i]? = some x) : (l.take (i + 1)).filter f = (l.take i).filter f ++ if f x = true then [x] else [] := by
  rw [take_more0 h, List.filter_append]
  congr 1
  cases c : f x with
  | true => simp [c]
  | false => simp [c]
def sp_rows_detached_from (T : Top K mg) : Sp := fun vs H Q _ => ∃ (A : TA) (t : Text_) (r : Addr) (R : List Nat) (k : Nat),
  vs = [.ref A.a, .ref r, .int (k : Int)] ∧ TAt K T.C_Text H A (txOf t) ∧ SqL K H r (nvs R) ∧ Rws t R ∧ R.length ≤ 1000 ∧
  ∀ (D : Addr) (H' : Hp), Same H H' → H' D = some (.lst (nvs (R.filter fun m => (srcs t m).contains k))) → Q (.ref D) H'
theorem ok_rows_detached_from (T : Top K mg) : FnOk P w K mg base CX0 1 T.d_rows_detached_from.f T.d_rows_detached_from.fd P_rows_detached_from (sp_rows_detached_from T) := by
  refine T.d_rows_detached_from.F.ok sc_rows_detached_from (fun vs H Q E h => by obtain ⟨_, _, _, _, _, rfl, _⟩ := h; rfl) (fun cdv A outer s H vs Q E hr h => ?_)
  refine ⟨_, (pss_one (ps_ret (pe_lc (tt := tTest (tOp (rIn K false) (tVar 2) (tOp (rIxL K) (tFld K (tVar 0) "sources") (tVar 3)))) (own := [("row", 3)]) rfl sc_rows_detached_from.nd (pi_list (pv 1)) (blkOk_by (N := N_rows_detached_from) (sc := defScope s_rows_detached_from) (by decide +kernel)) (fun _ _ _ _ _ => (pg_name (i := 3) sc_rows_detached_from.nd rfl (Or.inl rfl))) (fun _ _ _ _ _ => by exact (pts_one (pt_cmpR op_in_seq (pv 2) (pe_ix ix_list (pe_fld (pv 0) rfl) (pv 3) (fun _ _ => rfl)) rfl))) (fun _ _ _ _ _ => (pv 3))))), ?_⟩
  obtain ⟨A, t, r, R, k, rfl, hT, hR, wR, hz, hq⟩ := h
  obtain ⟨vs, s1, s2⟩ := hT.s
  refine ⟨_, rfl, r, rfl, ⟨_, hR⟩, fun D hD => ?_⟩
  refine lc_list (K := K) (a := r) (xs := nvs R) (fun i H' => Same H H' ∧ H' D = some (.lst (nvs ((R.take i).filter fun m => (srcs t m).contains k)))) ⟨same_new hD, upd_same⟩ (fun i H' _ e => same_seqL e.1 hR) ?_ ?_
  · rintro i y H' hy ⟨sm, hd⟩
    obtain ⟨rfl, hi, hat⟩ := nvs_back hy
    obtain ⟨x, hx, hs⟩ := src_at wR (List.mem_of_getElem? hat)
    obtain ⟨v, hv1, q, rfl, hqT⟩ := Shp.paired_get s2 hx
    have hT2 := hT.same sm
    have s3 := sm _ _ s1
    have hq2 : SqT K H' q (nvs (srcs t (R.getD i 0))) := by rw [hs]; exact same_seqT sm hqT
    refine ⟨rfl, _, rfl, _, rfl, A.a, _, A.dx, _, _, rfl, hT2.o, T.cl_Text, T.n_Text_sources, tF_sources _, _, rfl, _, _, _, _, rfl, rfl, SqL.of s3, atI_nat' hv1, q, _, rfl, .inr hq2, rfl, nvs_flat _, _, rfl, ?_⟩
    rw [if_neg Bool.false_ne_true, nvs_in]
    have hl : ((R.take i).filter fun m => (srcs t m).contains k).length ≤ 1000 := by
      refine Nat.le_trans (List.length_filter_le _ _) ?_
      rw [List.length_take]; omega
    cases c : (srcs t (R.getD i 0)).contains k with
    | false =>
      refine iteF rfl ?_
      refine ⟨sm, ?_⟩
      rw [take_filter _ hat, if_neg (by rw [c]; exact Bool.false_ne_true), List.append_nil]
      exact hd
    | true =>
      refine iteT rfl ?_
      refine ⟨_, rfl, _, hd, small_lt (m := 10000) (by rw [nvs_len]; omega), same_old sm hD, ?_⟩
      rw [upd_same, take_filter _ hat, if_pos c, nvs_app]; rfl
  · rintro H' ⟨sm, hd⟩
    rw [nvs_len, List.take_length] at hd
    exact hq D H' sm hd
end
end Shp
end
section
set_option maxRecDepth 100000
set_option maxHeartbeats 4000000
namespace Shp
open PySem PySem.Spec PyProof.Rows L2
open Vapcma (Form Text_ Axiom)
section
variable {P : Program} {w : World} {K : PySem.W.Frag} {mg : Str → Option Value} {base : Heap}
theorem Keep.seqL1 {H H' : Hp} {p C dx a : Addr} {fs : List (Str × V)} {xs : List V} (e : Keep [p] H H') (hp : H p = some (.ins C dx fs)) (h : SqL K H a xs) : SqL K H' a xs := by
  rcases h with h | h
  · refine .inl ?_
    rcases h with h | ⟨q, h⟩
    · refine .inl (e _ _ h fun m => ?_)
      rw [List.mem_singleton] at m
      rw [m, hp] at h; cases h
    · refine .inr ⟨q, e _ _ h fun m => ?_⟩
      rw [List.mem_singleton] at m
      rw [m, hp] at h; cases h
  · exact .inr h
theorem noTupI {H : Hp} {p C dx : Addr} {fs : List (Str × V)} (h : H p = some (.ins C dx fs)) : NoTup H [p] := .cons h (by intro _ z; cases z) (by intro _ _ z; cases z) .nil
theorem TAt.notI {C C2 : Addr} {H : Hp} {h hx : Addr} {fs : List (Str × V)} {A : TA} {x : Tx} (t : TAt K C H A x) (e : H h = Option.some (HO.ins C2 hx fs)) (hf : fs.length ≠ 4) : h ∉ A.all := by
  obtain ⟨vs, s1, s2⟩ := t.s
  obtain ⟨ws, f1, f2⟩ := t.f
  obtain ⟨us, g1, g2⟩ := t.g
  have e0 : h ≠ A.a := ne_of e t.o (by intro z; cases z; exact hf rfl)
  have e1 := ne_of e t.n (by intro z; cases z)
  have e2 := ne_of e s1 (by intro z; cases z)
  have e3 := ne_of e f1 (by intro z; cases z)
  have e4 := ne_of e g1 (by intro z; cases z)
  simp; exact ⟨e0, e1, e2, e3, e4⟩
theorem needed_rws {t : Text_} (ok : TOk t) {is : List Nat} (his : ∀ i ∈ is, i < Vapcma.count t) : Rws t (Vapcmb.neededRows t is) := by
  have hlt : ∀ k ∈ Vapcmb.neededRows t is, t.axioms.length ≤ k ∧ ∃ r, t.rows[k - t.axioms.length]? = some r := fun k hk => by
    obtain ⟨h1, i, hi, hh⟩ := (needed_iff ok his).mp hk
    have := hh.le ok.wf
    have := his i hi
    unfold Vapcma.count at this
    exact ⟨h1, _, List.getElem?_eq_getElem (by omega)⟩
  refine ⟨List.Pairwise.filter _ List.pairwise_lt_range, hlt, fun k hk x hx => ?_⟩
  obtain ⟨h1, r, hr⟩ := hlt k hk
  have hsk : (txOf t).ss[k]? = some (some (r.i, r.j)) := by
    have := tx_at_row t (k - t.axioms.length)
    rw [hr, show t.axioms.length + (k - t.axioms.length) = k by omega] at this
    exact this
  have hrw := ok.wf.rows k _ hsk
  have e : srcs t k = [r.i, r.j] := by unfold srcs; rw [hr]
  rw [e] at hx
  obtain ⟨_, i, hi, hh⟩ := (needed_iff ok his).mp hk
  simp only [List.mem_cons, List.not_mem_nil, or_false] at hx
  rcases hx with rfl | rfl
  · exact ⟨hrw.2.1, fun hx => (needed_iff ok his).mpr ⟨hx, i, hi, hh.snoc (.left hsk (.refl _))⟩⟩
  · exact ⟨hrw.2.2, fun hx => (needed_iff ok his).mpr ⟨hx, i, hi, hh.snoc (.right hsk (.refl _))⟩⟩
/-- the object that keeps the needed rows -/
structure NdA where
  a : Addr
  dx : Addr
  ra : Addr
  sa : Addr
  ua : Addr
def rowsF (B : NdA) (N : Nds) : List (Str × V) := [("rows", .ref B.ra), ("wished", .int (N.wb : Int)), ("sources", .ref B.sa), ("users", .ref B.ua)]
theorem rowsF_rows (B : NdA) (N : Nds) : (rowsF B N).lookup ("rows" : Str) = some (.ref B.ra) := lkH
theorem rowsF_wished (B : NdA) (N : Nds) : (rowsF B N).lookup ("wished" : Str) = some (.int (N.wb : Int)) := (lkP (by decide +kernel)).trans lkH
theorem rowsF_sources (B : NdA) (N : Nds) : (rowsF B N).lookup ("sources" : Str) = some (.ref B.sa) := (lkP (by decide +kernel)).trans ((lkP (by decide +kernel)).trans lkH)
theorem rowsF_users (B : NdA) (N : Nds) : (rowsF B N).lookup ("users" : Str) = some (.ref B.ua) := (lkP (by decide +kernel)).trans ((lkP (by decide +kernel)).trans ((lkP (by decide +kernel)).trans lkH))
theorem rowsF_no {m : Str} (h1 : (m == ("rows" : Str)) = false) (h2 : (m == ("wished" : Str)) = false) (h3 : (m == ("sources" : Str)) = false) (h4 : (m == ("users" : Str)) = false) (B : NdA) (N : Nds) : (rowsF B N).lookup m = none :=
  (lkP h1).trans ((lkP h2).trans ((lkP h3).trans ((lkP h4).trans rfl)))
structure RwAt (C : Addr) (H : Hp) (B : NdA) (N : Nds) : Prop where
  o : H B.a = some (.ins C B.dx (rowsF B N))
  r : H B.ra = some (.lst (nvs N.R))
  s : H B.sa = some (.lst (nvs N.sb))
  u : H B.ua = some (.lst (nvs N.ub))
theorem RwAt.same {C : Addr} {H H' : Hp} {B : NdA} {N : Nds} (h : RwAt C H B N) (e : Same H H') : RwAt C H' B N := ⟨e _ _ h.o, e _ _ h.r, e _ _ h.s, e _ _ h.u⟩
def sp_NeededRows___init__ (T : Top K mg) : Sp := fun vs H Q _ => ∃ (p dx : Addr) (A : TA) (t : Text_) (l : Addr) (is : List Nat),
  vs = [.ref p, .ref A.a, .ref l] ∧ H p = some (.ins T.C_NeededRows dx []) ∧ TAt K T.C_Text H A (txOf t) ∧ TOk t ∧ SqL K H l (nvs is) ∧ is.length ≤ 2000 ∧ (∀ i ∈ is, i < Vapcma.count t) ∧
  ∀ (H' : Hp) (ra sa ua : Addr), RwAt T.C_NeededRows H' ⟨p, dx, ra, sa, ua⟩ (ndsOf t (Vapcmb.neededRows t is) is) → Keep [p] H H' → Q .non H'
theorem ok_NeededRows___init__ (T : Top K mg) : FnOk P w K mg base CX0 3 T.m_NeededRows___init__.f T.m_NeededRows___init__.fd P_NeededRows___init__ (sp_NeededRows___init__ T) := by
  refine T.m_NeededRows___init__.F.ok sc_NeededRows___init__ (fun vs H Q E h => by obtain ⟨_, _, _, _, _, _, rfl, _⟩ := h; rfl) (fun cdv A outer s H vs Q E hr h => ?_)
  refine ⟨_, (pss_cons (ps_set (i := 3) sc_NeededRows___init__.nd rfl (Or.inr rfl) (pe_call (ok_needed_rows T) (hr.mono (by decide)) rfl T.d_needed_rows.mg T.d_needed_rows.F.kp T.d_needed_rows.b .nil pass0 (pa_cons (pv 1) (pa_cons (pv 2) pa_nil))))
    (pss_cons (ps_fld (pv 0) (pv 3) rfl)
    (pss_cons (ps_fld (pv 0) (pe_call (ok_bits_of T) (hr.mono (by decide)) rfl T.d_bits_of.mg T.d_bits_of.F.kp T.d_bits_of.b .nil pass0 (pa_cons (pv 3) (pa_cons (pv 2) pa_nil))) rfl)
    (pss_cons (ps_fld (pv 0) (pe_lc (te := tCall (sp_bits_of T) [] E0 (tCons (tVar 3) (tCons (tOp (rIxL K) (tFld K (tVar 1) "sources") (tVar 4)) tNil))) (own := [("row", 4)]) rfl sc_NeededRows___init__.nd (pi_list (pv 3)) (blkOk_by (N := N_NeededRows___init__) (sc := defScope s_NeededRows___init__) (by decide +kernel)) (fun _ _ _ _ _ => (pg_name (i := 4) sc_NeededRows___init__.nd rfl (Or.inl rfl))) (fun _ _ _ _ _ => pts_nil) (fun _ _ _ _ _ => by exact (pe_call (ok_bits_of T) (hr.mono (by decide)) rfl T.d_bits_of.mg T.d_bits_of.F.kp T.d_bits_of.b .nil pass0 (pa_cons (pv 3) (pa_cons (pe_ix ix_list (pe_fld (pv 1) rfl) (pv 4) (fun _ _ => rfl)) pa_nil))))) rfl)
    (pss_one (ps_fld (pv 0) (pe_lc (own := [("row", 4)]) rfl sc_NeededRows___init__.nd (pi_list (pv 3)) (blkOk_by (N := N_NeededRows___init__) (sc := defScope s_NeededRows___init__) (by decide +kernel)) (fun _ _ _ _ _ => (pg_name (i := 4) sc_NeededRows___init__.nd rfl (Or.inl rfl))) (fun _ _ _ _ _ => pts_nil) (fun _ _ _ _ _ => (pe_call (ok_bits_of T) (hr.mono (by decide)) rfl T.d_bits_of.mg T.d_bits_of.F.kp T.d_bits_of.b .nil pass0 (pa_cons (pv 3) (pa_cons (pe_call (ok_rows_detached_from T) (hr.mono (by decide)) rfl T.d_rows_detached_from.mg T.d_rows_detached_from.F.kp T.d_rows_detached_from.b .nil pass0 (pa_cons (pv 1) (pa_cons (pv 3) (pa_cons (pv 4) pa_nil)))) pa_nil))))) rfl)))))), ?_⟩
  obtain ⟨p, dx, A, t, l, is, rfl, ho, hT, hok, hl, hz, his, hq⟩ := h
  have hw := needed_rws hok his
  have hR := needed_len hok is
  have hpA := hT.notI ho (by decide)
  have keepT : ∀ {Hn : Hp}, Keep [p] H Hn → TAt K T.C_Text Hn A (txOf t) := fun k => hT.keep k (noTupI ho) (fun y hy => by rw [List.mem_singleton.mp hy]; exact hpA)
  refine ⟨_, rfl, _, rfl, A, t, l, is, rfl, hT, hok, hl, hz, his, fun ra H1 sm1 hra => ?_⟩
  generalize Vapcmb.neededRows t is = R at *
  have ho1 := sm1 _ _ ho
  have rp : ra ≠ p := ne_of hra ho1 (by intro z; cases z)
  refine ⟨_, rfl, _, rfl, p, T.C_NeededRows, dx, _, rfl, ho1, T.cl_NeededRows, T.n_NeededRows_rows, (by show 0 < 1000; decide), ?_⟩
  have kp2 : Keep [p] H (upd H1 p (.ins T.C_NeededRows dx (putF "rows" (.ref ra) []))) := (Keep.of_same sm1).trans (Keep.upd (by simp))
  have ho2 : (upd H1 p (.ins T.C_NeededRows dx (putF "rows" (.ref ra) []))) p = some (.ins T.C_NeededRows dx [("rows", .ref ra)]) := upd_same
  have hra2 : (upd H1 p (.ins T.C_NeededRows dx (putF "rows" (.ref ra) []))) ra = some (.lst (nvs R)) := by rw [upd_ne rp]; exact hra
  generalize upd H1 p (.ins T.C_NeededRows dx (putF "rows" (.ref ra) [])) = H2 at *
  refine ⟨_, rfl, _, rfl, ra, l, R, is, rfl, SqL.of hra2, .inl (kp2.seqL1 ho hl), by omega, fun H3 sm3 => ?_⟩
  have ho3 := sm3 _ _ ho2
  refine ⟨_, rfl, p, T.C_NeededRows, dx, _, rfl, ho3, T.cl_NeededRows, T.n_NeededRows_wished, (by show 1 < 1000; decide), ?_⟩
  generalize hwb : bitsF (fun q => is.contains (R.getD q 0)) R.length = wb at *
  have kp4 : Keep [p] H (upd H3 p (.ins T.C_NeededRows dx (putF "wished" (.int (wb : Int)) [("rows", .ref ra)]))) := (kp2.trans (Keep.of_same sm3)).trans (Keep.upd (by simp))
  have ho4 : (upd H3 p (.ins T.C_NeededRows dx (putF "wished" (.int (wb : Int)) [("rows", .ref ra)]))) p = some (.ins T.C_NeededRows dx [("rows", .ref ra), ("wished", .int (wb : Int))]) := by
    rw [upd_same, ptP (by decide +kernel)]; rfl
  have hra4 : (upd H3 p (.ins T.C_NeededRows dx (putF "wished" (.int (wb : Int)) [("rows", .ref ra)]))) ra = some (.lst (nvs R)) := by rw [upd_ne rp]; exact sm3 _ _ hra2
  generalize upd H3 p (.ins T.C_NeededRows dx (putF "wished" (.int (wb : Int)) [("rows", .ref ra)])) = H4 at *
  refine ⟨_, rfl, ra, rfl, ⟨_, SqL.of hra4⟩, fun D hD => ?_⟩
  refine lc_list (K := K) (a := ra) (xs := nvs R) (fun i H' => Same H4 H' ∧ H' D = some (.lst (nvs ((R.take i).map fun k => bitsF (fun q => (srcs t k).contains (R.getD q 0)) R.length)))) ⟨same_new hD, upd_same⟩ (fun i H' _ e => SqL.of (e.1 _ _ hra4)) ?_ ?_
  · rintro i y H' hy ⟨sm, hd⟩
    obtain ⟨rfl, hi, hat⟩ := nvs_back hy
    obtain ⟨x, hx, hs⟩ := src_at hw (List.mem_of_getElem? hat)
    have hT5 := (keepT kp4).same sm
    obtain ⟨vs, s1, s2⟩ := hT5.s
    obtain ⟨v, hv1, q, rfl, hqT⟩ := Shp.paired_get s2 hx
    have hq2 : SqT K H' q (nvs (srcs t (R.getD i 0))) := by rw [hs]; exact hqT
    refine ⟨rfl, _, rfl, _, rfl, A.a, _, A.dx, _, _, rfl, hT5.o, T.cl_Text, T.n_Text_sources, tF_sources _, _, rfl, _, _, _, _, rfl, rfl, SqL.of s1, atI_nat' hv1, ?_⟩
    refine ⟨ra, q, R, srcs t (R.getD i 0), rfl, SqL.of (sm _ _ hra4), .inr hq2, by omega, fun H6 sm6 => ?_⟩
    refine ⟨_, sm6 _ _ hd, small_lt (m := 10000) (by rw [nvs_len, List.length_map, List.length_take]; omega), same_old (sm.trans sm6) hD, ?_⟩
    rw [upd_same, take_more0 hat, List.map_append, nvs_app]; rfl
  · rintro H5 ⟨sm5, hd5⟩
    rw [nvs_len, List.take_length] at hd5
    have ho5 := sm5 _ _ ho4
    have hra5 := sm5 _ _ hra4
    have kp5 : Keep [p] H H5 := kp4.trans (Keep.of_same sm5)
    clear sm5
    generalize hsb : (R.map fun k => bitsF (fun q => (srcs t k).contains (R.getD q 0)) R.length) = sb at *
    have dp : D ≠ p := ne_of hd5 ho5 (by intro z; cases z)
    refine ⟨_, rfl, p, T.C_NeededRows, dx, _, rfl, ho5, T.cl_NeededRows, T.n_NeededRows_sources, (by show 2 < 1000; decide), ?_⟩
    have kp6 : Keep [p] H (upd H5 p (.ins T.C_NeededRows dx (putF "sources" (.ref D) [("rows", .ref ra), ("wished", .int (wb : Int))]))) := kp5.trans (Keep.upd (by simp))
    have ho6 : (upd H5 p (.ins T.C_NeededRows dx (putF "sources" (.ref D) [("rows", .ref ra), ("wished", .int (wb : Int))]))) p = some (.ins T.C_NeededRows dx [("rows", .ref ra), ("wished", .int (wb : Int)), ("sources", .ref D)]) := by
      rw [upd_same, ptP (by decide +kernel), ptP (by decide +kernel)]; rfl
    have hra6 : (upd H5 p (.ins T.C_NeededRows dx (putF "sources" (.ref D) [("rows", .ref ra), ("wished", .int (wb : Int))]))) ra = some (.lst (nvs R)) := by rw [upd_ne rp]; exact hra5
    have hd6 : (upd H5 p (.ins T.C_NeededRows dx (putF "sources" (.ref D) [("rows", .ref ra), ("wished", .int (wb : Int))]))) D = some (.lst (nvs sb)) := by rw [upd_ne dp]; exact hd5
    generalize upd H5 p (.ins T.C_NeededRows dx (putF "sources" (.ref D) [("rows", .ref ra), ("wished", .int (wb : Int))])) = H6 at *
    refine ⟨_, rfl, ra, rfl, ⟨_, SqL.of hra6⟩, fun D2 hD2 => ?_⟩
    refine lc_list (K := K) (a := ra) (xs := nvs R) (fun i H' => Same H6 H' ∧ H' D2 = some (.lst (nvs ((R.take i).map fun k => bitsF (fun q => (R.filter fun m => (srcs t m).contains k).contains (R.getD q 0)) R.length)))) ⟨same_new hD2, upd_same⟩ (fun i H' _ e => SqL.of (e.1 _ _ hra6)) ?_ ?_
    · rintro i y H' hy ⟨sm, hd⟩
      obtain ⟨rfl, hi, hat⟩ := nvs_back hy
      have hT7 := (keepT kp6).same sm
      refine ⟨rfl, _, rfl, _, rfl, _, rfl, _, rfl, A, t, ra, R, _, rfl, hT7, SqL.of (sm _ _ hra6), hw, by omega, fun q H8 sm8 hq8 => ?_⟩
      refine ⟨ra, q, R, _, rfl, SqL.of (sm8 _ _ (sm _ _ hra6)), .inl (SqL.of hq8), by omega, fun H9 sm9 => ?_⟩
      refine ⟨_, sm9 _ _ (sm8 _ _ hd), small_lt (m := 10000) (by rw [nvs_len, List.length_map, List.length_take]; omega), same_old ((sm.trans sm8).trans sm9) hD2, ?_⟩
      rw [upd_same, take_more0 hat, List.map_append, nvs_app]; rfl
    · rintro H7 ⟨sm7, hd7⟩
      rw [nvs_len, List.take_length] at hd7
      have ho7 := sm7 _ _ ho6
      have hra7 := sm7 _ _ hra6
      have hsa7 := sm7 _ _ hd6
      have d2p : D2 ≠ p := ne_of hd7 ho7 (by intro z; cases z)
      refine ⟨_, rfl, p, T.C_NeededRows, dx, _, rfl, ho7, T.cl_NeededRows, T.n_NeededRows_users, (by show 3 < 1000; decide), ?_⟩
      refine hq _ ra D D2 ⟨?_, ?_, ?_, ?_⟩ ((kp6.trans (Keep.of_same sm7)).trans (Keep.upd (by simp)))
      · show upd H7 p _ p = _
        rw [upd_same, ptP (by decide +kernel), ptP (by decide +kernel), ptP (by decide +kernel)]
        show _ = some (HO.ins T.C_NeededRows dx [("rows", .ref ra), ("wished", .int ((bitsF (fun q => is.contains (R.getD q 0)) R.length : Nat) : Int)), ("sources", .ref D), ("users", .ref D2)])
        rw [hwb]; rfl
      · show upd H7 p _ ra = _
        rw [upd_ne rp]; exact hra7
      · show upd H7 p _ D = some (HO.lst (nvs (R.map fun k => bitsF (fun q => (srcs t k).contains (R.getD q 0)) R.length)))
        rw [upd_ne dp, hsb]; exact hsa7
      · show upd H7 p _ D2 = _
        rw [upd_ne d2p]; exact hd7
end
end Shp
end
section
set_option maxRecDepth 100000
set_option maxHeartbeats 4000000
namespace Shp
open PySem PySem.Spec PyProof.Rows L2
open Vapcma (Form Text_ Axiom)
section
variable {P : Program} {w : World} {K : PySem.W.Frag} {mg : Str → Option Value} {base : Heap}
theorem nvs_at {l : List Nat} {i : Nat} (h : i < l.length) : (nvs l)[i]? = some (.int ((l.getD i 0 : Nat) : Int)) := by
  rw [nvs_get (List.getElem?_eq_getElem h), List.getD_eq_getElem?_getD, List.getElem?_eq_getElem h]; rfl
def sp_NeededRows_can_be_next (T : Top K mg) : Sp := fun vs H Q _ => ∃ (B : NdA) (N : Nds) (b m : Nat),
  vs = [.ref B.a, .int (b : Int), .int (m : Int)] ∧ RwAt T.C_NeededRows H B N ∧ b < N.sb.length ∧ Q (.bl (N.can b m)) H
theorem ok_NeededRows_can_be_next (T : Top K mg) : FnOk P w K mg base CX0 2 T.m_NeededRows_can_be_next.f T.m_NeededRows_can_be_next.fd P_NeededRows_can_be_next (sp_NeededRows_can_be_next T) := by
  refine T.m_NeededRows_can_be_next.F.ok sc_NeededRows_can_be_next (fun vs H Q E h => by obtain ⟨_, _, _, _, rfl, _⟩ := h; rfl) (fun cdv A outer s H vs Q E hr h => ?_)
  refine ⟨_, (pss_one (ps_ret (pe_and (pe_not (pe_call (ok_has_bit T) (hr.mono (by decide)) rfl T.d_has_bit.mg T.d_has_bit.F.kp T.d_has_bit.b .nil pass0 (pa_cons (pv 2) (pa_cons (pv 1) pa_nil)))) (pe_one (pe_call (ok_all_within T) (hr.mono (by decide)) rfl T.d_all_within.mg T.d_all_within.F.kp T.d_all_within.b .nil pass0 (pa_cons (pe_ix ix_list (pe_fld (pv 0) rfl) (pv 1) (fun _ _ => rfl)) (pa_cons (pv 2) pa_nil))))))), ?_⟩
  obtain ⟨B, N, b, m, rfl, hB, hb, hq⟩ := h
  refine ⟨_, rfl, _, rfl, m, b, rfl, _, rfl, _, rfl, ?_⟩
  unfold Nds.can at hq
  cases c : m.testBit b with
  | true =>
    refine iteF rfl ?_
    rw [c] at hq
    exact hq
  | false =>
    refine iteT rfl ?_
    rw [c] at hq
    refine ⟨_, rfl, B.a, _, B.dx, _, _, rfl, hB.o, T.cl_NeededRows, T.n_NeededRows_sources, rowsF_sources _ _, _, rfl, _, _, _, _, rfl, rfl, SqL.of hB.s, atI_nat' (nvs_at hb), _, rfl, N.sb.getD b 0, m, rfl, ?_⟩
    exact hq
def sp_NeededRows_is_held (T : Top K mg) : Sp := fun vs H Q _ => ∃ (B : NdA) (N : Nds) (b m : Nat),
  vs = [.ref B.a, .int (b : Int), .int (m : Int)] ∧ RwAt T.C_NeededRows H B N ∧ b < N.ub.length ∧ Q (.bl (N.hold b m)) H
theorem ok_NeededRows_is_held (T : Top K mg) : FnOk P w K mg base CX0 2 T.m_NeededRows_is_held.f T.m_NeededRows_is_held.fd P_NeededRows_is_held (sp_NeededRows_is_held T) := by
  refine T.m_NeededRows_is_held.F.ok sc_NeededRows_is_held (fun vs H Q E h => by obtain ⟨_, _, _, _, rfl, _⟩ := h; rfl) (fun cdv A outer s H vs Q E hr h => ?_)
  refine ⟨_, (pss_cons (ps_if (pt_not (pt_val (pe_call (ok_has_bit T) (hr.mono (by decide)) rfl T.d_has_bit.mg T.d_has_bit.F.kp T.d_has_bit.b .nil pass0 (pa_cons (pv 2) (pa_cons (pv 1) pa_nil))))) (pss_one (ps_ret pe_bl)) pss_nil)
    (pss_one (ps_ret (pe_or (pe_call (ok_has_bit T) (hr.mono (by decide)) rfl T.d_has_bit.mg T.d_has_bit.F.kp T.d_has_bit.b .nil pass0 (pa_cons (pe_fld (pv 0) rfl) (pa_cons (pv 1) pa_nil))) (pe_one (pe_not (pe_call (ok_all_within T) (hr.mono (by decide)) rfl T.d_all_within.mg T.d_all_within.F.kp T.d_all_within.b .nil pass0 (pa_cons (pe_ix ix_list (pe_fld (pv 0) rfl) (pv 1) (fun _ _ => rfl)) (pa_cons (pv 2) pa_nil))))))))), ?_⟩
  obtain ⟨B, N, b, m, rfl, hB, hb, hq⟩ := h
  refine ⟨_, rfl, _, rfl, m, b, rfl, _, rfl, ?_⟩
  unfold Nds.hold at hq
  cases c : m.testBit b with
  | false =>
    refine iteT rfl ?_
    rw [c] at hq
    exact hq
  | true =>
    refine iteF rfl ?_
    rw [c, Bool.true_and] at hq
    refine ⟨_, rfl, B.a, _, B.dx, _, _, rfl, hB.o, T.cl_NeededRows, T.n_NeededRows_wished, rowsF_wished _ _, _, rfl, N.wb, b, rfl, _, rfl, ?_⟩
    cases c2 : N.wb.testBit b with
    | true =>
      refine iteT rfl ?_
      rw [c2] at hq
      exact hq
    | false =>
      refine iteF rfl ?_
      rw [c2, Bool.false_or] at hq
      refine ⟨_, rfl, B.a, _, B.dx, _, _, rfl, hB.o, T.cl_NeededRows, T.n_NeededRows_users, rowsF_users _ _, _, rfl, _, _, _, _, rfl, rfl, SqL.of hB.u, atI_nat' (nvs_at hb), _, rfl, N.ub.getD b 0, m, rfl, _, rfl, ?_⟩
      exact hq
structure Nok (N : Nds) : Prop where
  s : N.sb.length = N.R.length
  u : N.ub.length = N.R.length
  z : N.R.length ≤ 100
def sp_NeededRows_next_bits (T : Top K mg) : Sp := fun vs H Q _ => ∃ (B : NdA) (N : Nds) (m : Nat),
  vs = [.ref B.a, .int (m : Int)] ∧ RwAt T.C_NeededRows H B N ∧ Nok N ∧ ∀ (D : Addr) (H' : Hp), Same H H' → H' D = some (.lst (nvs (N.next m))) → Q (.ref D) H'
theorem ok_NeededRows_next_bits (T : Top K mg) : FnOk P w K mg base CX0 3 T.m_NeededRows_next_bits.f T.m_NeededRows_next_bits.fd P_NeededRows_next_bits (sp_NeededRows_next_bits T) := by
  refine T.m_NeededRows_next_bits.F.ok sc_NeededRows_next_bits (fun vs H Q E h => by obtain ⟨_, _, _, rfl, _⟩ := h; rfl) (fun cdv A outer s H vs Q E hr h => ?_)
  refine ⟨_, (pss_one (ps_ret (pe_lc (tt := tB (tMeth T.C_NeededRows "can_be_next" (sp_NeededRows_can_be_next T) [] E0 (tVar 0) (tCons (tVar 2) (tCons (tVar 1) tNil)))) (own := [("bit", 2)]) rfl sc_NeededRows_next_bits.nd (pi_range1 rfl T.b_range (pa_cons (pe_callB call_len (by rfl) T.b_len PySem.boot_len (pa_cons (pe_fld (pv 0) rfl) pa_nil)) pa_nil)) (blkOk_by (N := N_NeededRows_next_bits) (sc := defScope s_NeededRows_next_bits) (by decide +kernel)) (fun _ _ _ _ _ => (pg_name (i := 2) sc_NeededRows_next_bits.nd rfl (Or.inl rfl))) (fun _ _ _ _ _ => by exact (pts_one (pt_val (pe_meth (pv 0) T.cl_NeededRows T.m_NeededRows_can_be_next.m (ok_NeededRows_can_be_next T) (hr.mono (by decide)) T.m_NeededRows_can_be_next.b .nil pass0 (pa_cons (pv 2) (pa_cons (pv 1) pa_nil)))))) (fun _ _ _ _ _ => (pv 2))))), ?_⟩
  obtain ⟨B, N, m, rfl, hB, ok, hq⟩ := h
  have hz := ok.z
  refine ⟨_, rfl, B.a, _, B.dx, _, _, rfl, hB.o, T.cl_NeededRows, T.n_NeededRows_rows, rowsF_rows _ _, _, _, rfl, .inl ⟨_, SqL.of hB.r, rfl⟩, ?_⟩
  refine ⟨((N.n : Nat) : Int), by rw [nvs_len]; rfl, by unfold Nds.n; omega, by unfold Nds.n; omega, fun D hD => ?_⟩
  refine lc_range (lo := 0) (n := N.n) (fun i H' => Same H H' ∧ H' D = some (.lst (nvs ((List.range i).filter fun b => N.can b m)))) ⟨same_new hD, upd_same⟩ ?_ ?_
  · rintro i H' hi ⟨sm, hd⟩
    have ei : (0 : Int) + (i : Nat) = (i : Nat) := by omega
    have hi2 : i < N.sb.length := by rw [ok.s]; exact hi
    refine ⟨rfl, _, rfl, B.a, B.dx, _, rfl, sm _ _ hB.o, rowsF_no (by decide +kernel) (by decide +kernel) (by decide +kernel) (by decide +kernel) _ _, _, rfl, _, rfl, B, N, i, m, by rw [ei]; rfl, hB.same sm, hi2, _, rfl, ?_⟩
    have hl : ((List.range i).filter fun b => N.can b m).length ≤ 100 := by
      refine Nat.le_trans (List.length_filter_le _ _) ?_
      rw [List.length_range]; unfold Nds.n at hi; omega
    have e : ((List.range (i + 1)).filter fun b => N.can b m) = ((List.range i).filter fun b => N.can b m) ++ if N.can i m = true then [i] else [] := by
      rw [List.range_succ, List.filter_append]
      congr 1
      cases c : N.can i m with
      | true => simp [c]
      | false => simp [c]
    cases c : N.can i m with
    | false =>
      refine iteF rfl ?_
      refine ⟨sm, ?_⟩
      rw [e, if_neg (by rw [c]; exact Bool.false_ne_true), List.append_nil]; exact hd
    | true =>
      refine iteT rfl ?_
      refine ⟨_, rfl, _, hd, small_lt (m := 10000) (by rw [nvs_len]; omega), same_old sm hD, ?_⟩
      rw [upd_same, e, if_pos c, nvs_app, ei]; rfl
  · rintro H' ⟨sm, hd⟩
    exact hq D H' sm hd
def sp_NeededRows_places_taken (T : Top K mg) : Sp := fun vs H Q _ => ∃ (B : NdA) (N : Nds) (m : Nat),
  vs = [.ref B.a, .int (m : Int)] ∧ RwAt T.C_NeededRows H B N ∧ Nok N ∧ ∀ (H' : Hp), Same H H' → Q (.int ((N.places m : Nat) : Int)) H'
theorem ok_NeededRows_places_taken (T : Top K mg) : FnOk P w K mg base CX0 3 T.m_NeededRows_places_taken.f T.m_NeededRows_places_taken.fd P_NeededRows_places_taken (sp_NeededRows_places_taken T) := by
  refine T.m_NeededRows_places_taken.F.ok sc_NeededRows_places_taken (fun vs H Q E h => by obtain ⟨_, _, _, rfl, _⟩ := h; rfl) (fun cdv A outer s H vs Q E hr h => ?_)
  refine ⟨_, (pss_cons (ps_setLc (tt := tB (tMeth T.C_NeededRows "is_held" (sp_NeededRows_is_held T) [] E0 (tVar 0) (tCons (tVar 3) (tCons (tVar 1) tNil)))) (i := 2) (own := [("bit", 3)]) rfl sc_NeededRows_places_taken.nd rfl rfl (sw_true rfl rfl rfl (by decide +kernel)) (pi_range1 rfl T.b_range (pa_cons (pe_callB call_len (by rfl) T.b_len PySem.boot_len (pa_cons (pe_fld (pv 0) rfl) pa_nil)) pa_nil)) (blkOk_by (N := N_NeededRows_places_taken) (sc := defScope s_NeededRows_places_taken) (by decide +kernel)) (fun _ _ _ _ _ => (pg_name (i := 3) sc_NeededRows_places_taken.nd rfl (Or.inl rfl))) (fun _ _ _ _ _ => by exact (pts_one (pt_val (pe_meth (pv 0) T.cl_NeededRows T.m_NeededRows_is_held.m (ok_NeededRows_is_held T) (hr.mono (by decide)) T.m_NeededRows_is_held.b .nil pass0 (pa_cons (pv 3) (pa_cons (pv 1) pa_nil)))))) (fun _ _ _ _ _ => (pv 3)))
    (pss_one (ps_ret (pe_op op_add (pe_callB call_len (by rfl) T.b_len PySem.boot_len (pa_cons (pv 2) pa_nil)) pe_int)))), ?_⟩
  obtain ⟨B, N, m, rfl, hB, ok, hq⟩ := h
  have hz := ok.z
  refine ⟨_, rfl, B.a, _, B.dx, _, _, rfl, hB.o, T.cl_NeededRows, T.n_NeededRows_rows, rowsF_rows _ _, _, _, rfl, .inl ⟨_, SqL.of hB.r, rfl⟩, ?_⟩
  refine ⟨((N.n : Nat) : Int), by rw [nvs_len]; rfl, by unfold Nds.n; omega, by unfold Nds.n; omega, fun D hD => ?_⟩
  refine lc_range (lo := 0) (n := N.n) (fun i H' => Same H H' ∧ H' D = some (.lst (nvs ((List.range i).filter fun b => N.hold b m)))) ⟨same_new hD, upd_same⟩ ?_ ?_
  · rintro i H' hi ⟨sm, hd⟩
    have ei : (0 : Int) + (i : Nat) = (i : Nat) := by omega
    have hi2 : i < N.ub.length := by rw [ok.u]; exact hi
    refine ⟨rfl, _, rfl, B.a, B.dx, _, rfl, sm _ _ hB.o, rowsF_no (by decide +kernel) (by decide +kernel) (by decide +kernel) (by decide +kernel) _ _, _, rfl, _, rfl, B, N, i, m, by rw [ei]; rfl, hB.same sm, hi2, _, rfl, ?_⟩
    have hl : ((List.range i).filter fun b => N.hold b m).length ≤ 100 := by
      refine Nat.le_trans (List.length_filter_le _ _) ?_
      rw [List.length_range]; unfold Nds.n at hi; omega
    have e : ((List.range (i + 1)).filter fun b => N.hold b m) = ((List.range i).filter fun b => N.hold b m) ++ if N.hold i m = true then [i] else [] := by
      rw [List.range_succ, List.filter_append]
      congr 1
      cases c : N.hold i m with
      | true => simp [c]
      | false => simp [c]
    cases c : N.hold i m with
    | false =>
      refine iteF rfl ?_
      refine ⟨sm, ?_⟩
      rw [e, if_neg (by rw [c]; exact Bool.false_ne_true), List.append_nil]; exact hd
    | true =>
      refine iteT rfl ?_
      refine ⟨_, rfl, _, hd, small_lt (m := 10000) (by rw [nvs_len]; omega), same_old sm hD, ?_⟩
      rw [upd_same, e, if_pos c, nvs_app, ei]; rfl
  · rintro H' ⟨sm, hd⟩
    refine ⟨_, rfl, _, _, rfl, .inl ⟨_, SqL.of hd, rfl⟩, _, _, rfl, rfl, ?_⟩
    have e : (((nvs ((List.range N.n).filter fun b => N.hold b m)).length : Nat) : Int) + 1 = ((N.places m : Nat) : Int) := by
      rw [nvs_len]; unfold Nds.places; omega
    show Q (.int ((((nvs ((List.range N.n).filter fun b => N.hold b m)).length : Nat) : Int) + 1)) H'
    rw [e]
    exact hq H' sm
end
end Shp
end
section
set_option maxRecDepth 100000
set_option maxHeartbeats 4000000
namespace Shp
open PySem PySem.Spec PyProof.Rows L2
open Vapcma (Form Text_ Axiom)
section
variable {P : Program} {w : World} {K : PySem.W.Frag} {mg : Str → Option Value} {base : Heap}
theorem eqv_lst (xs ys : List Int) : PyData.eqv (.list (xs.map PyData.int)) (.list (ys.map PyData.int)) = decide (xs = ys) := by
  rw [PyData.eqv]; exact eqv_ints xs ys
theorem shaped_intsL (xs : List Int) : SeqAt.shaped (.list (xs.map PyData.int)) = true := shaped_list (g := PyData.int) (fun _ => rfl) (fun _ => Nat.zero_le _) xs
theorem dp_lst {H : Hp} {a : Addr} {xs : List Int} (h : SqL K H a (ivs xs)) : Dp K H (.ref a) (.list (xs.map PyData.int)) := .lst h (dp_all xs)
theorem nvs_is (l : List Nat) : nvs l = ivs (l.map fun (n : Nat) => (n : Int)) := by simp [nvs, ivs]
theorem cast_perm {l R : List Nat} (h : (l.map fun (n : Nat) => (n : Int)).Perm (R.map fun (n : Nat) => (n : Int))) : l.Perm R := by
  have := h.map Int.toNat
  rw [List.map_map, List.map_map] at this
  have e : ∀ l : List Nat, l.map (Int.toNat ∘ fun (n : Nat) => (n : Int)) = l := fun l => by
    refine (List.map_congr_left fun x _ => ?_).trans (List.map_id l)
    rfl
  rwa [e, e] at this
/-- a sorted list is the rows just where it has just these -/
theorem sorted_is {l R : List Nat} (asc : R.Pairwise (· < ·)) {ys : List Int} (p : ys.Perm (l.map fun (n : Nat) => (n : Int))) (q : ys.Pairwise (· ≤ ·)) : ys = (R.map fun (n : Nat) => (n : Int)) ↔ l.Perm R := by
  constructor
  · rintro rfl
    exact (cast_perm p).symm
  · intro h
    refine List.Perm.eq_of_pairwise (le := fun a b : Int => a ≤ b) (fun a b _ _ h1 h2 => Int.le_antisymm h1 h2) q ?_ (p.trans (h.map _))
    rw [List.pairwise_map]
    exact List.Pairwise.imp (fun h => by omega) asc
theorem eqV_int (a b : Nat) : eqV (.int (a : Int)) (.int (b : Int)) = (a == b) := by
  show ((a : Int) == (b : Int)) = _
  rw [Bool.eq_iff_iff, beq_iff_eq, beq_iff_eq]; omega
theorem idx_facts {R : List Nat} (nd : R.Nodup) {r : Nat} (h : r ∈ R) : R.idxOf r < R.length ∧ (nvs R)[R.idxOf r]? = some (.int (r : Int)) ∧ ∀ (m : Nat) (z : V), m < R.idxOf r → (nvs R)[m]? = some z → eqV z (.int (r : Int)) = false := by
  have hlt := List.idxOf_lt_length_of_mem h
  refine ⟨hlt, ?_, fun m z hm hz => ?_⟩
  · have := nvs_get (List.getElem?_eq_getElem hlt)
    rw [List.getElem_idxOf hlt] at this
    exact this
  · obtain ⟨rfl, hl, hat⟩ := nvs_back hz
    rw [eqV_int, beq_eq_false_iff_ne]
    intro e
    obtain ⟨q, hq, rfl⟩ := mem_at h
    rw [idx_at nd hq] at hm
    have h1 : R[m]'hl = R[q]'hq := by
      have e1 : R.getD m 0 = R[m]'hl := by rw [List.getD_eq_getElem?_getD, List.getElem?_eq_getElem hl]; rfl
      have e2 : R.getD q 0 = R[q]'hq := by rw [List.getD_eq_getElem?_getD, List.getElem?_eq_getElem hq]; rfl
      rw [← e1, ← e2]; exact e
    exact absurd (List.getElem_inj nd |>.mp h1) (by omega)
theorem max_nat (a b : Nat) : (if ((b : Nat) : Int) > ((a : Nat) : Int) then ((b : Nat) : Int) else ((a : Nat) : Int)) = ((Nat.max a b : Nat) : Int) := by
  have : Nat.max a b = max a b := rfl
  rw [this]
  split <;> omega
theorem go_cons (N : Nds) (r : Nat) (rest : List Nat) (m pk : Nat) : N.go (r :: rest) m pk = if N.can (N.R.idxOf r) m = true then N.go rest (m ||| (1 <<< N.R.idxOf r)) (Nat.max pk (N.places m)) else none := rfl
def sp_peak_of (T : Top K mg) : Sp := fun vs H Q _ => ∃ (B : NdA) (N : Nds) (o : Addr) (l : List Nat),
  vs = [.ref B.a, .ref o] ∧ RwAt T.C_NeededRows H B N ∧ Nok N ∧ N.R.Pairwise (· < ·) ∧ SqL K H o (nvs l) ∧ l.length ≤ 2000 ∧
  (l.Perm N.R → ∀ H', Same H H' → Q (optV (N.go l 0 0)) H') ∧ (¬ l.Perm N.R → ∀ H', Same H H' → Q .non H')
theorem ok_peak_of (T : Top K mg) : FnOk P w K mg base CX0 4 T.d_peak_of.f T.d_peak_of.fd P_peak_of (sp_peak_of T) := by
  refine T.d_peak_of.F.ok sc_peak_of (fun vs H Q E h => by obtain ⟨_, _, _, _, rfl, _⟩ := h; rfl) (fun cdv A outer s H vs Q E hr h => ?_)
  refine ⟨_, (pss_cons (ps_if (pt_cmpR (op_neD hr.units) (pe_callB cr_sortedI (by rfl) T.b_sorted (by decide +kernel) (pa_cons (pv 1) pa_nil)) (pe_fld (pv 0) rfl) (nomark _)) (pss_one (ps_ret pe_non)) pss_nil)
    (pss_cons (ps_set (i := 2) sc_peak_of.nd rfl (Or.inl rfl) pe_int)
    (pss_cons (ps_set (i := 3) sc_peak_of.nd rfl (Or.inl rfl) pe_int)
    (pss_cons (ps_for PassesOwn.never rfl (pi_list (pv 1)) (pg_name (i := 4) sc_peak_of.nd rfl (Or.inl rfl))
      (pss_cons (ps_set (i := 5) sc_peak_of.nd rfl (Or.inl rfl) (pe_bm PySem.F.plainAttrs_list PySem.F.slot_list_index PySem.F.type_list_index mt_index (pe_fld (pv 0) rfl) (pa_cons (pv 4) pa_nil)))
      (pss_cons (ps_if (pt_not (pt_val (pe_meth (pv 0) T.cl_NeededRows T.m_NeededRows_can_be_next.m (ok_NeededRows_can_be_next T) (hr.mono (by decide)) T.m_NeededRows_can_be_next.b .nil pass0 (pa_cons (pv 5) (pa_cons (pv 2) pa_nil))))) (pss_one (ps_ret pe_non)) pss_nil)
      (pss_cons (ps_set (i := 3) sc_peak_of.nd rfl (Or.inl rfl) (pe_callB (call_max2 rfl) (by rfl) T.b_max (by decide +kernel) (pa_cons (pv 3) (pa_cons (pe_meth (pv 0) T.cl_NeededRows T.m_NeededRows_places_taken.m (ok_NeededRows_places_taken T) (hr.mono (by decide)) T.m_NeededRows_places_taken.b .nil pass0 (pa_cons (pv 2) pa_nil)) pa_nil))))
      (pss_one (ps_set (i := 2) sc_peak_of.nd rfl (Or.inl rfl) (pe_call (ok_with_bit T) (hr.mono (by decide)) rfl T.d_with_bit.mg T.d_with_bit.F.kp T.d_with_bit.b .nil pass0 (pa_cons (pv 2) (pa_cons (pv 5) pa_nil)))))))))
    (pss_one (ps_ret (pv 3))))))), ?_⟩
  obtain ⟨B, N, o, l, rfl, hB, ok, asc, hl, hz, kY, kN⟩ := h
  have hRz := ok.z
  have nd : N.R.Nodup := asc.imp fun h => Nat.ne_of_lt h
  refine ⟨_, rfl, o, l.map (fun (n : Nat) => (n : Int)), rfl, by rw [nvs_is] at hl; exact hl, fun ys p hp hs hfree => ?_⟩
  have sm1 : Same H (upd H p (.lst (ys.map V.int))) := same_new hfree
  have hp1 : (upd H p (.lst (ys.map V.int))) p = some (.lst (ivs ys)) := upd_same
  generalize upd H p (.lst (ys.map V.int)) = H1 at *
  have hB1 := hB.same sm1
  have hr1 : SqL K H1 B.ra (ivs (N.R.map fun (n : Nat) => (n : Int))) := by rw [← nvs_is]; exact SqL.of hB1.r
  refine ⟨_, rfl, B.a, _, B.dx, _, _, rfl, hB1.o, T.cl_NeededRows, T.n_NeededRows_rows, rowsF_rows _ _, _, _, dp_lst (SqL.of hp1), dp_lst hr1, shaped_intsL _, shaped_intsL _, _, rfl, ?_⟩
  rw [eqv_lst]
  by_cases c : l.Perm N.R
  · refine iteF (by rw [decide_eq_true ((sorted_is asc hp hs).mpr c)]; rfl) ?_
    refine ⟨_, rfl, o, rfl, ⟨_, same_seqL sm1 hl⟩, for_list (K := K) (a := o) (xs := nvs l) (fun i σ H' => ∃ (m pk : Nat) (v4 v5 : Option V), σ = [some (.ref B.a), some (.ref o), some (.int (m : Int)), some (.int (pk : Int)), v4, v5] ∧ Same H H' ∧ N.go l 0 0 = N.go (l.drop i) m pk)
      ⟨0, 0, none, none, rfl, sm1, rfl⟩ (fun i σ H' _ ⟨_, _, _, _, _, sm, _⟩ => same_seqL sm hl) ?_ ?_⟩
    · rintro i y σ H' hy ⟨m, pk, v4, v5, rfl, sm, hgo⟩
      obtain ⟨rfl, hi, hat⟩ := nvs_back hy
      rw [drop_cons hat] at hgo
      generalize l.getD i 0 = r at *
      have hr : r ∈ N.R := c.mem_iff.mp (List.mem_of_getElem? hat)
      obtain ⟨j1, j2, j3⟩ := idx_facts nd hr
      have hB2 := hB.same sm
      rw [go_cons] at hgo
      generalize N.R.idxOf r = j at *
      refine ⟨_, rfl, B.a, _, B.dx, _, _, rfl, hB2.o, T.cl_NeededRows, T.n_NeededRows_rows, rowsF_rows _ _, tyL hB2.r, _, rfl, B.ra, _, .int (r : Int), j, .int (r : Int), rfl, rfl, SqL.of hB2.r, rfl, nvs_flat _, j2, by rw [eqV_int]; simp, j3, ?_⟩
      refine ⟨_, rfl, B.a, B.dx, _, rfl, hB2.o, rowsF_no (by decide +kernel) (by decide +kernel) (by decide +kernel) (by decide +kernel) _ _, _, rfl, _, rfl, B, N, j, m, rfl, hB2, by rw [ok.s]; exact j1, _, rfl, ?_⟩
      cases cn : N.can j m with
      | false =>
        rw [cn, if_neg Bool.false_ne_true] at hgo
        refine iteT rfl ?_
        have := kY c H' sm
        rw [hgo] at this
        exact this
      | true =>
        rw [cn, if_pos rfl] at hgo
        refine iteF rfl ?_
        refine ⟨_, rfl, _, rfl, B.a, B.dx, _, rfl, hB2.o, rowsF_no (by decide +kernel) (by decide +kernel) (by decide +kernel) (by decide +kernel) _ _, _, rfl, B, N, m, rfl, hB2, ok, fun H3 sm3 => ?_⟩
        refine ⟨_, _, rfl, ?_⟩
        rw [max_nat]
        refine ⟨_, rfl, _, rfl, m, j, rfl, by omega, ?_⟩
        exact ⟨_, _, _, _, rfl, sm.trans sm3, hgo⟩
    · rintro σ H' ⟨m, pk, v4, v5, rfl, sm, hgo⟩
      rw [nvs_len, List.drop_length] at hgo
      refine ⟨_, rfl, ?_⟩
      have := kY c H' sm
      rw [hgo] at this
      exact this
  · refine iteT (by rw [decide_eq_false (fun e => c ((sorted_is asc hp hs).mp e))]; rfl) ?_
    exact kN c H1 sm1
end
end Shp
end
section
set_option maxRecDepth 100000
set_option maxHeartbeats 4000000
namespace Shp
open PySem PySem.Spec PyProof.Rows L2
open Vapcma (Form Text_ Axiom)
section
variable {P : Program} {w : World} {K : PySem.W.Frag} {mg : Str → Option Value} {base : Heap}
theorem nds_ok {t : Text_} {R wish : List Nat} (h : R.length ≤ 100) : Nok (ndsOf t R wish) := ⟨by show (R.map _).length = _; rw [List.length_map]; rfl, by show (R.map _).length = _; rw [List.length_map]; rfl, h⟩
theorem rep_flat (k : Nat) : (List.replicate k [V.int 0]).flatten = nvs (List.replicate k 0) := by
  induction k with
  | zero => rfl
  | succ k ih => rw [List.replicate_succ, List.flatten_cons, ih, List.replicate_succ]; rfl
theorem max_int {a b : Int} : (if b > a then b else a) = max a b := by split <;> omega
def sp_least_peaks (T : Top K mg) : Sp := fun vs H Q _ => ∃ (B : NdA) (t : Text_) (R wish wish2 : List Nat),
  vs = [.ref B.a] ∧ RwAt T.C_NeededRows H B (ndsOf t R wish) ∧ Rws t R ∧ (∀ k, t.axioms.length ≤ k → (k ∈ wish ↔ k ∈ wish2)) ∧ R.length ≤ 8 ∧
  ∀ (D : Addr) (H' : Hp), Same H H' → H' D = some (.lst (nvs (Vapcmb.table t ⟨R, wish2⟩))) → Q (.ref D) H'
theorem ok_least_peaks (T : Top K mg) : FnOk P w K mg base CX0 4 T.d_least_peaks.f T.d_least_peaks.fd P_least_peaks (sp_least_peaks T) := by
  refine T.d_least_peaks.F.ok sc_least_peaks (fun vs H Q E h => by obtain ⟨_, _, _, _, _, rfl, _⟩ := h; rfl) (fun cdv A outer s H vs Q E hr h => ?_)
  refine ⟨_, (pss_cons (ps_set (i := 1) sc_least_peaks.nd rfl (Or.inl rfl) (pe_call (ok_bits_of T) (hr.mono (by decide)) rfl T.d_bits_of.mg T.d_bits_of.F.kp T.d_bits_of.b .nil pass0 (pa_cons (pe_fld (pv 0) rfl) (pa_cons (pe_fld (pv 0) rfl) pa_nil))))
    (pss_cons (ps_set (i := 2) sc_least_peaks.nd rfl (Or.inr rfl) (pe_op op_rep (pe_lst (pa_cons pe_int pa_nil)) (pe_op op_add (pv 1) pe_int)))
    (pss_cons (ps_for PassesOwn.never rfl (pi_range3 rfl T.b_range (pa_cons (pe_op op_sub (pv 1) pe_int) (pa_cons (pe_un un_neg pe_int) (pa_cons (pe_un un_neg pe_int) pa_nil)))) (pg_name (i := 3) sc_least_peaks.nd rfl (Or.inr rfl))
      (pss_cons (ps_setLc (i := 4) (own := [("bit", 5)]) rfl sc_least_peaks.nd rfl rfl (sw_true rfl rfl rfl (by decide +kernel)) (pi_list (pe_meth (pv 0) T.cl_NeededRows T.m_NeededRows_next_bits.m (ok_NeededRows_next_bits T) (hr.mono (by decide)) T.m_NeededRows_next_bits.b .nil pass0 (pa_cons (pv 3) pa_nil))) (blkOk_by (N := N_least_peaks) (sc := defScope s_least_peaks) (by decide +kernel)) (fun _ _ _ _ _ => (pg_name (i := 5) sc_least_peaks.nd rfl (Or.inl rfl))) (fun _ _ _ _ _ => pts_nil) (fun _ _ _ _ _ => (pe_ix (r := rIxL K) ix_list (pv 2) (pe_call (ok_with_bit T) (hr.mono (by decide)) rfl T.d_with_bit.mg T.d_with_bit.F.kp T.d_with_bit.b .nil pass0 (pa_cons (pv 3) (pa_cons (pv 5) pa_nil))) (fun _ _ => rfl))))
      (pss_one (ps_asg (pe_callB (call_max2 rfl) (by rfl) T.b_max (by decide +kernel) (pa_cons (pe_meth (pv 0) T.cl_NeededRows T.m_NeededRows_places_taken.m (ok_NeededRows_places_taken T) (hr.mono (by decide)) T.m_NeededRows_places_taken.b .nil pass0 (pa_cons (pv 3) pa_nil)) (pa_cons (pe_callB (cr_min rfl) (by rfl) T.b_min (by decide +kernel) (pa_cons (pv 4) pa_nil)) pa_nil))) (pg_sub (pv 2) (pv 3) set_list)))))
    (pss_one (ps_ret (pv 2)))))), ?_⟩
  obtain ⟨B, t, R, wish, wish2, rfl, hB, hw, hww, h8, hq⟩ := h
  have ok : Nok (ndsOf t R wish) := nds_ok (by omega)
  have hpow : 2 ^ R.length ≤ 256 := Nat.le_trans (Nat.pow_le_pow_right (by decide) h8) (by decide)
  have hpos : 0 < 2 ^ R.length := Nat.two_pow_pos _
  have hnR : (ndsOf t R wish).R = R := rfl
  refine ⟨_, rfl, B.a, _, B.dx, _, _, rfl, hB.o, T.cl_NeededRows, T.n_NeededRows_rows, rowsF_rows _ _, _, rfl, B.a, _, B.dx, _, _, rfl, hB.o, T.cl_NeededRows, T.n_NeededRows_rows, rowsF_rows _ _, B.ra, B.ra, R, R, rfl, SqL.of hB.r, .inl (SqL.of hB.r), by omega, fun H1 sm1 => ?_⟩
  have eE : bitsF (fun q => R.contains (R.getD q 0)) R.length = 2 ^ R.length - 1 := by
    rw [← bitsF_all]
    exact bitsF_congr fun q hq => by rw [List.contains_iff_mem]; exact at_mem hq
  rw [eE]
  generalize hE : 2 ^ R.length - 1 = E at *
  refine ⟨(show 1 ≤ sizeLine by decide), fun l0 hl0 => ?_⟩
  refine ⟨_, rfl, _, _, rfl, rfl, l0, _, _, rfl, rfl, upd_same, by omega, by omega, ?_, fun D hD => ?_⟩
  · show 1 * ((E : Int) + 1).toNat ≤ sizeLine
    exact small_ok (m := 10000) (by omega)
  generalize hj : (⟨R, wish2⟩ : Vapcmb.Job) = j at *
  have hjr : j.rows = R := by rw [← hj]
  have e0 : (List.replicate ((E : Int) + 1).toNat [V.int 0]).flatten = nvs (pks t j 0) := by
    rw [rep_flat, pks_start, hjr]
    congr 2; omega
  rw [e0]
  have sm2 : Same H (upd (upd H1 l0 (.lst [V.int 0])) D (.lst (nvs (pks t j 0)))) := (sm1.trans (same_new hl0)).trans (same_new hD)
  have hD0 : H D = none := (sm1.trans (same_new hl0)).free hD
  have hd2 : (upd (upd H1 l0 (.lst [V.int 0])) D (.lst (nvs (pks t j 0)))) D = some (.lst (nvs (pks t j 0))) := upd_same
  generalize upd (upd H1 l0 (.lst [V.int 0])) D (.lst (nvs (pks t j 0))) = H2 at *
  have rg : RgC ((E : Int) - 1) (-1) (-1) E := by
    have := RgC.neg (i := (E : Int) - 1) (j := -1) (by omega) (by omega) (by omega) (by omega)
    rwa [show ((E : Int) - 1 - -1).toNat = E by omega] at this
  refine ⟨_, rfl, _, _, rfl, rfl, _, rfl, _, rfl, (E : Int) - 1, -1, -1, E, rfl, rg, for_rangeC (lo := (E : Int) - 1) (c := -1) (n := E) (fun i σ H' => ∃ (v3 v4 v5 : Option V), σ = [some (.ref B.a), some (.int (E : Int)), some (.ref D), v3, v4, v5] ∧ Same H H' ∧ H' D = some (.lst (nvs (pks t j i))))
    ⟨none, none, none, rfl, sm2, hd2⟩ ?_ ?_⟩
  · rintro i σ H' hi ⟨v3, v4, v5, rfl, sm, hd⟩
    obtain ⟨m, hm⟩ : ∃ m : Nat, m = 2 ^ R.length - 2 - i := ⟨_, rfl⟩
    have em : ((E : Int) - 1 + (i : Nat) * -1) = (m : Int) := by omega
    have hlt : m < 2 ^ R.length := by omega
    have hi2 : i + 1 < 2 ^ R.length := by omega
    rw [em]
    have hB2 := hB.same sm
    refine ⟨_, rfl, B.a, B.dx, _, rfl, hB2.o, rowsF_no (by decide +kernel) (by decide +kernel) (by decide +kernel) (by decide +kernel) _ _, _, rfl, B, _, m, rfl, hB2, ok, fun D3 H3 sm3 hd3 => ?_⟩
    refine ⟨D3, rfl, ⟨_, SqL.of hd3⟩, fun D4 hD4 => ?_⟩
    have hdp3 := sm3 _ _ hd
    refine lc_list (K := K) (a := D3) (xs := nvs ((ndsOf t R wish).next m)) (fun i' H' => Same H3 H' ∧ H' D4 = some (.lst (nvs ((((ndsOf t R wish).next m).take i').map fun b => (pks t j i).getD (m ||| (1 <<< b)) 0)))) ⟨same_new hD4, upd_same⟩ (fun i' H' _ e => SqL.of (e.1 _ _ hd3)) ?_ ?_
    · rintro i' y H5 hy ⟨sm5, hd5⟩
      obtain ⟨rfl, hi', hat⟩ := nvs_back hy
      have hb := List.mem_of_getElem? hat
      have hnb := next_bit hb
      have hnl := next_lt hlt hb
      generalize ((ndsOf t R wish).next m).getD i' 0 = b at *
      have hnn : (ndsOf t R wish).n = R.length := rfl
      have hpl : (m ||| (1 <<< b)) < (pks t j i).length := by rw [pks_len _ (by rw [hjr]; omega), hjr]; exact hnl.1
      refine ⟨rfl, _, rfl, _, rfl, _, rfl, m, b, rfl, by omega, D, _, _, _, rfl, rfl, SqL.of (sm5 _ _ hdp3), atI_nat' (nvs_at hpl), ?_⟩
      refine ⟨_, hd5, small_lt (m := 10000) ?_, same_old sm5 hD4, ?_⟩
      · rw [nvs_len, List.length_map, List.length_take]
        have : ((ndsOf t R wish).next m).length ≤ R.length := by
          refine Nat.le_trans (List.length_filter_le _ _) ?_
          rw [List.length_range]; exact Nat.le_refl _
        omega
      · rw [upd_same, take_more0 hat, List.map_append, nvs_app]; rfl
    · rintro H5 ⟨sm5, hd5⟩
      rw [nvs_len, List.take_length] at hd5
      have sm6 := (sm.trans sm3).trans sm5
      have hB5 := hB.same sm6
      refine ⟨_, rfl, B.a, B.dx, _, rfl, hB5.o, rowsF_no (by decide +kernel) (by decide +kernel) (by decide +kernel) (by decide +kernel) _ _, _, rfl, B, _, m, rfl, hB5, ok, fun H6 sm7 => ?_⟩
      have hd6 := sm7 _ _ hd5
      rw [nvs_is] at hd6
      have hne : 0 < ((((ndsOf t R wish).next m).map fun b => (pks t j i).getD (m ||| (1 <<< b)) 0).map fun (n : Nat) => (n : Int)).length := by
        rw [List.length_map, List.length_map]
        obtain ⟨b0, hb0⟩ := next_some (wish := wish) hw hlt (by omega)
        exact List.length_pos_of_mem hb0
      refine ⟨_, rfl, D4, _, rfl, SqL.of hd6, hne, fun mn hmn hle => ?_⟩
      obtain ⟨mn, hmn1, rfl⟩ := List.mem_map.mp hmn
      have hle1 : ∀ v ∈ ((ndsOf t R wish).next m).map fun b => (pks t j i).getD (m ||| (1 <<< b)) 0, mn ≤ v := fun v hv => by
        have := hle _ (List.mem_map.mpr ⟨v, hv, rfl⟩)
        omega
      subst hj
      have st := pks_step hw hww h8 hi2 hm hmn1 hle1
      refine ⟨_, _, rfl, ?_⟩
      rw [max_nat]
      have hdp6 := sm7 _ _ (sm5 _ _ hdp3)
      refine ⟨_, rfl, _, rfl, D, _, _, m, rfl, rfl, hdp6, ?_, ?_⟩
      · rw [nvs_len, pks_len _ (by show i < 2 ^ R.length; omega)]
        unfold ixN
        rw [if_pos (by omega), if_pos (by show (m : Int) < ((2 ^ R.length : Nat) : Int); omega), Int.toNat_natCast]
      · rw [nvs_set, st]
        exact ⟨_, _, _, rfl, same_old (sm6.trans sm7) hD0, upd_same⟩
  · rintro σ H' ⟨v3, v4, v5, rfl, sm, hd⟩
    refine ⟨_, rfl, ?_⟩
    have hpe := pks_end (t := t) j
    rw [hjr, hE] at hpe
    rw [hpe] at hd
    exact hq D H' sm hd
end
end Shp
end
section
set_option maxRecDepth 100000
set_option maxHeartbeats 4000000
namespace Shp
open PySem PySem.Spec PyProof.Rows L2
open Vapcma (Form Text_ Axiom)
section
variable {P : Program} {w : World} {K : PySem.W.Frag} {mg : Str → Option Value} {base : Heap}
theorem Rel.len {t : Text_} {R dl : List Nat} {m : Nat} (h : Rel R dl m) : dl.length ≤ R.length := h.nd.length_le_of_subset h.sub
def sp_first_order (T : Top K mg) : Sp := fun vs H Q _ => ∃ (B : NdA) (t : Text_) (R wish wish2 : List Nat) (D : Addr),
  vs = [.ref B.a, .ref D] ∧ RwAt T.C_NeededRows H B (ndsOf t R wish) ∧ Rws t R ∧ (∀ k, t.axioms.length ≤ k → (k ∈ wish ↔ k ∈ wish2)) ∧ R.length ≤ 8 ∧ H D = some (.lst (nvs (Vapcmb.table t ⟨R, wish2⟩))) ∧
  ((Vapcmb.leastOrder t ⟨R, wish2⟩).length = R.length → ∀ (L : Addr) (H' : Hp), Same H H' → H' L = some (.lst (nvs (Vapcmb.leastOrder t ⟨R, wish2⟩))) → Q (.ref L) H')
theorem ok_first_order (T : Top K mg) : FnOk P w K mg base CX0 4 T.d_first_order.f T.d_first_order.fd P_first_order (sp_first_order T) := by
  refine T.d_first_order.F.ok sc_first_order (fun vs H Q E h => by obtain ⟨_, _, _, _, _, _, rfl, _⟩ := h; rfl) (fun cdv A outer s H vs Q E hr h => ?_)
  refine ⟨_, (pss_cons (ps_set (i := 2) sc_first_order.nd rfl (Or.inl rfl) (pe_lst pa_nil))
    (pss_cons (ps_set (i := 3) sc_first_order.nd rfl (Or.inr rfl) pe_int)
    (pss_cons (ps_while PassesOwn.never (pt_cmpR op_lt (pe_callB call_len (by rfl) T.b_len PySem.boot_len (pa_cons (pv 2) pa_nil)) (pe_callB call_len (by rfl) T.b_len PySem.boot_len (pa_cons (pe_fld (pv 0) rfl) pa_nil)) (nomark _)) (pss_cons (ps_setLc (tt := tTest (tOp (rI0 fun i j => .bl (decide (i ≤ j))) (tOp (rIxL K) (tVar 1) (tCall (sp_with_bit T) [] E0 (tCons (tVar 3) (tCons (tVar 5) tNil)))) (tOp (rIxL K) (tVar 1) (tC (.int 0))))) (i := 4) (own := [("bit", 5)]) rfl sc_first_order.nd rfl rfl (sw_true rfl rfl rfl (by decide +kernel)) (pi_list (pe_meth (pv 0) T.cl_NeededRows T.m_NeededRows_next_bits.m (ok_NeededRows_next_bits T) (hr.mono (by decide)) T.m_NeededRows_next_bits.b .nil pass0 (pa_cons (pv 3) pa_nil))) (blkOk_by (N := N_first_order) (sc := defScope s_first_order) (by decide +kernel)) (fun _ _ _ _ _ => (pg_name (i := 5) sc_first_order.nd rfl (Or.inl rfl))) (fun _ _ _ _ _ => by exact (pts_one (pt_cmpR op_le (pe_ix ix_list (pv 1) (pe_call (ok_with_bit T) (hr.mono (by decide)) rfl T.d_with_bit.mg T.d_with_bit.F.kp T.d_with_bit.b .nil pass0 (pa_cons (pv 3) (pa_cons (pv 5) pa_nil))) (fun _ _ => rfl)) (pe_ix ix_list (pv 1) pe_int (fun _ _ => rfl)) (nomark _)))) (fun _ _ _ _ _ => (pv 5)))
      (pss_cons (ps_expr (pe_bm PySem.F.plainAttrs_list PySem.F.slot_list_append PySem.F.type_list_append mt_append (pv 2) (pa_cons (pe_ix ix_list (pe_fld (pv 0) rfl) (pe_ix ix_list (pv 4) pe_int (fun _ _ => rfl)) (fun _ _ => rfl)) pa_nil)))
      (pss_one (ps_set (i := 3) sc_first_order.nd rfl (Or.inr rfl) (pe_call (ok_with_bit T) (hr.mono (by decide)) rfl T.d_with_bit.mg T.d_with_bit.F.kp T.d_with_bit.b .nil pass0 (pa_cons (pv 3) (pa_cons (pe_ix ix_list (pv 4) pe_int (fun _ _ => rfl)) pa_nil))))))))
    (pss_one (ps_ret (pv 2)))))), ?_⟩
  obtain ⟨B, t, R, wish, wish2, D, rfl, hB, hw, hww, h8, hD, hq⟩ := h
  have ok : Nok (ndsOf t R wish) := nds_ok (by omega)
  have hpos : 0 < 2 ^ R.length := Nat.two_pow_pos _
  have htl : (Vapcmb.table t ⟨R, wish2⟩).length = 2 ^ R.length := by rw [table_eq, ltab_len]
  have hdef : Vapcmb.leastOrder t ⟨R, wish2⟩ = Vapcmb.orderBy t ⟨R, wish2⟩ (Vapcmb.table t ⟨R, wish2⟩) ((Vapcmb.table t ⟨R, wish2⟩).getD 0 0) R.length 0 [] := rfl
  generalize hbest : (Vapcmb.table t ⟨R, wish2⟩).getD 0 0 = best at *
  refine ⟨Nat.zero_le _, fun L hL => ?_⟩
  have hL2 : (upd H L (.lst [])) L = some (.lst (nvs [])) := upd_same
  have sm1 : Same H (upd H L (.lst [])) := same_new hL
  refine ⟨fun k σ H' => ∃ (dl : List Nat) (m : Nat) (v4 v5 : Option V), k = R.length - dl.length ∧ σ = [some (.ref B.a), some (.ref D), some (.ref L), some (.int (m : Int)), v4, v5] ∧ Same H H' ∧ H' L = some (.lst (nvs dl)) ∧ Rel R dl m ∧
      (Vapcmb.table t ⟨R, wish2⟩).getD m 0 ≤ best ∧ Vapcmb.leastOrder t ⟨R, wish2⟩ = Vapcmb.orderBy t ⟨R, wish2⟩ (Vapcmb.table t ⟨R, wish2⟩) best (R.length - dl.length) m dl,
    ⟨_, [], 0, none, none, rfl, rfl, sm1, hL2, Rel.start R, by rw [hbest]; exact Nat.le_refl _, hdef⟩, ?_⟩
  rintro k σ H' ⟨dl, m, v4, v5, rfl, rfl, sm, hl, rel, htb, hor⟩
  have hB2 := hB.same sm
  have hdl := Rel.len (t := t) rel
  refine ⟨_, rfl, _, _, rfl, .inl ⟨_, SqL.of hl, rfl⟩, _, rfl, B.a, _, B.dx, _, _, rfl, hB2.o, T.cl_NeededRows, T.n_NeededRows_rows, rowsF_rows _ _, _, _, rfl, .inl ⟨_, SqL.of hB2.r, rfl⟩, _, _, rfl, rfl, _, rfl, ?_⟩
  rw [nvs_len, nvs_len]
  by_cases c : dl.length < R.length
  · refine iteT (decide_eq_true (by show (dl.length : Int) < ((R.length : Nat) : Int); omega)) ?_
    refine ⟨_, fun _ _ h => h, ?_⟩
    have hk : R.length - dl.length = (R.length - (dl.length + 1)) + 1 := by omega
    obtain ⟨b, rest, hf, ho, hb, rel2, htb2⟩ := order_step hw hww h8 rel c htb (R.length - (dl.length + 1))
    rw [hk] at hor
    rw [ho] at hor
    refine ⟨_, rfl, B.a, B.dx, _, rfl, hB2.o, rowsF_no (by decide +kernel) (by decide +kernel) (by decide +kernel) (by decide +kernel) _ _, _, rfl, B, _, m, rfl, hB2, ok, fun D3 H3 sm3 hd3 => ?_⟩
    refine ⟨D3, rfl, ⟨_, SqL.of hd3⟩, fun D4 hD4 => ?_⟩
    have hDt := (sm.trans sm3) _ _ hD
    refine lc_list (K := K) (a := D3) (xs := nvs ((ndsOf t R wish).next m)) (fun i' H' => Same H3 H' ∧ H' D4 = some (.lst (nvs ((((ndsOf t R wish).next m).take i').filter fun b => decide ((Vapcmb.table t ⟨R, wish2⟩).getD (m ||| (1 <<< b)) 0 ≤ best))))) ⟨same_new hD4, upd_same⟩ (fun i' H' _ e => SqL.of (e.1 _ _ hd3)) ?_ ?_
    · rintro i' y H5 hy ⟨sm5, hd5⟩
      obtain ⟨rfl, hi', hat⟩ := nvs_back hy
      have hbm := List.mem_of_getElem? hat
      have hnb := next_bit hbm
      have hnl := next_lt rel.lt hbm
      generalize ((ndsOf t R wish).next m).getD i' 0 = q at *
      have hnn : (ndsOf t R wish).n = R.length := rfl
      have hpl : (m ||| (1 <<< q)) < (Vapcmb.table t ⟨R, wish2⟩).length := by rw [htl]; exact hnl.1
      have hp0 : 0 < (Vapcmb.table t ⟨R, wish2⟩).length := by rw [htl]; exact hpos
      refine ⟨rfl, _, rfl, _, rfl, _, rfl, m, q, rfl, by omega, D, _, _, _, rfl, rfl, SqL.of (sm5 _ _ hDt), atI_nat' (nvs_at hpl), _, rfl, D, _, 0, _, rfl, rfl, SqL.of (sm5 _ _ hDt), atI_nat' (i := 0) (nvs_at hp0), _, _, rfl, rfl, _, rfl, ?_⟩
      rw [hbest]
      have hll : (((((ndsOf t R wish).next m).take i').filter fun b => decide ((Vapcmb.table t ⟨R, wish2⟩).getD (m ||| (1 <<< b)) 0 ≤ best))).length ≤ R.length := by
        refine Nat.le_trans (List.length_filter_le _ _) ?_
        rw [List.length_take]
        have : ((ndsOf t R wish).next m).length ≤ R.length := by
          refine Nat.le_trans (List.length_filter_le _ _) ?_
          rw [List.length_range]; exact Nat.le_refl _
        omega
      by_cases c2 : (Vapcmb.table t ⟨R, wish2⟩).getD (m ||| (1 <<< q)) 0 ≤ best
      · refine iteT (decide_eq_true (by omega)) ?_
        refine ⟨_, rfl, _, hd5, small_lt (m := 10000) (by rw [nvs_len]; omega), same_old sm5 hD4, ?_⟩
        rw [upd_same, take_filter _ hat, if_pos (decide_eq_true c2), nvs_app]; rfl
      · refine iteF (decide_eq_false (by omega)) ?_
        refine ⟨sm5, ?_⟩
        rw [take_filter _ hat, if_neg (by rw [decide_eq_false c2]; exact Bool.false_ne_true), List.append_nil]
        exact hd5
    · rintro H5 ⟨sm5, hd5⟩
      rw [nvs_len, List.take_length, hf] at hd5
      have sm6 := (sm.trans sm3).trans sm5
      have hB5 := hB.same sm6
      have hl5 := sm5 _ _ (sm3 _ _ hl)
      have hbat : (nvs R)[b]? = some (.int ((R.getD b 0 : Nat) : Int)) := nvs_at hb
      refine ⟨_, rfl, tyL hl5, _, rfl, B.a, _, B.dx, _, _, rfl, hB5.o, T.cl_NeededRows, T.n_NeededRows_rows, rowsF_rows _ _, _, rfl, D4, _, _, _, rfl, rfl, SqL.of hd5, atI_nat' (i := 0) rfl, B.ra, _, _, _, rfl, rfl, SqL.of hB5.r, atI_nat' hbat, ?_⟩
      refine ⟨L, _, _, rfl, rfl, hl5, small_lt (m := 10000) (by rw [nvs_len]; omega), ?_⟩
      have hD4L : D4 ≠ L := by
        rintro rfl
        rw [sm3 _ _ hl] at hD4; cases hD4
      have hd7 : (upd H5 L (.lst (nvs dl ++ [.int ((R.getD b 0 : Nat) : Int)]))) D4 = some (.lst (nvs (b :: rest))) := by rw [upd_ne hD4L]; exact hd5
      have hl7 : (upd H5 L (.lst (nvs dl ++ [.int ((R.getD b 0 : Nat) : Int)]))) L = some (.lst (nvs (dl ++ [R.getD b 0]))) := by rw [upd_same, nvs_app]; rfl
      have sm7 : Same H (upd H5 L (.lst (nvs dl ++ [.int ((R.getD b 0 : Nat) : Int)]))) := same_old sm6 hL
      generalize upd H5 L (.lst (nvs dl ++ [.int ((R.getD b 0 : Nat) : Int)])) = H7 at *
      refine ⟨_, rfl, _, rfl, D4, _, _, _, rfl, rfl, SqL.of hd7, atI_nat' (i := 0) rfl, m, b, rfl, by omega, ?_⟩
      refine ⟨_, ?_, dl ++ [R.getD b 0], m ||| (1 <<< b), _, _, rfl, rfl, sm7, hl7, rel2, htb2, ?_⟩
      · rw [List.length_append, List.length_singleton]; omega
      · rw [List.length_append, List.length_singleton]; exact hor
  · refine iteF (decide_eq_false (by show ¬ (dl.length : Int) < ((R.length : Nat) : Int); omega)) ?_
    have hz : R.length - dl.length = 0 := by omega
    rw [hz] at hor
    have hor2 : Vapcmb.leastOrder t ⟨R, wish2⟩ = dl := hor
    refine ⟨_, rfl, ?_⟩
    rw [hor2] at hq
    exact hq (by omega) L H' sm hl
end
end Shp
end
section
set_option maxRecDepth 100000
set_option maxHeartbeats 4000000
namespace Shp
open PySem PySem.Spec PyProof.Rows L2
open Vapcma (Form Text_ Axiom)
open VapcmbNeutral (encode)
section
variable {P : Program} {w : World} {K : PySem.W.Frag} {mg : Str → Option Value} {base : Heap}
def sp_Holder_short (T : Top K mg) : Sp := fun vs H Q _ => ∃ (h hx : Addr) (t : Text_),
  vs = [.ref h] ∧ HAt K T.C_Holder T.C_Text H h hx (some t) ∧ ∀ (D : Addr) (H' : Hp), Same H H' → H D = none → H' D = some (.lst (ivs (encode (Vapcmb.looked t .short)))) → Q (.ref D) H'
theorem ok_Holder_short (T : Top K mg) : FnOk P w K mg base CX0 9 T.m_Holder_short.f T.m_Holder_short.fd P_Holder_short (sp_Holder_short T) := by
  refine T.m_Holder_short.F.ok sc_Holder_short (fun vs H Q E h => by obtain ⟨_, _, _, rfl, _⟩ := h; rfl) (fun cdv A outer s H vs Q E hr h => ?_)
  refine ⟨_, (pss_one (ps_ret (pe_call (ok_form_told T) (hr.mono (by decide)) rfl T.d_form_told.mg T.d_form_told.F.kp T.d_form_told.b .nil pass0 (pa_cons (pe_call (ok_shortened T) (hr.mono (by decide)) rfl T.d_shortened.mg T.d_shortened.F.kp T.d_shortened.b .nil pass0 (pa_cons (pe_fld (pv 0) rfl) pa_nil)) pa_nil)))), ?_⟩
  obtain ⟨h, hx, t, rfl, ⟨A, hh, hT, hok⟩, hk⟩ := h
  refine ⟨_, rfl, h, _, hx, _, _, rfl, hh, T.cl_Holder, T.n_Holder_text, hF_text _, A, t, rfl, hT, hok, fun A2 H1 sm1 hT2 hok2 => ?_⟩
  exact ⟨A2, _, rfl, hT2, hok2, fun D H2 sm2 hf hD => hk D H2 (sm1.trans sm2) (sm1.free hf) hD⟩
/-- what the items that a list names make to be done -/
theorem Its.job {t : Text_} {zs : List Int} (ok : TOk t) (h : Its t zs) : ∃ wish2, Vapcmb.jobOf t ((List.range (Vapcma.count t)).filter fun (k : Nat) => zs.contains (k : Int)) = ⟨Vapcmb.neededRows t (zs.map Int.toNat), wish2⟩ ∧ ∀ k, t.axioms.length ≤ k → (k ∈ zs.map Int.toNat ↔ k ∈ wish2) := by
  refine ⟨_, by rw [h.rows ok]; rfl, fun k hk => ?_⟩
  rw [h.mem k, List.mem_filter (p := fun i => decide (t.axioms.length ≤ i)), decide_eq_true_eq]
  exact ⟨fun x => ⟨x, hk⟩, fun x => x.1⟩
def sp_Holder_order (T : Top K mg) : Sp := fun vs H Q _ => ∃ (h hx : Addr) (t : Text_) (l o : Addr) (zs os : List Int),
  vs = [.ref h, .ref l, .ref o] ∧ HAt K T.C_Holder T.C_Text H h hx (some t) ∧ SqL K H l (ivs zs) ∧ zs.length ≤ 2000 ∧ SqL K H o (ivs os) ∧ os.length ≤ 2000 ∧ ∀ (D : Addr) (H' : Hp), Same H H' → H D = none → H' D = some (.lst (ivs (encode (Vapcmb.looked t (.order zs os))))) → Q (.ref D) H'
theorem ok_Holder_order (T : Top K mg) : FnOk P w K mg base CX0 5 T.m_Holder_order.f T.m_Holder_order.fd P_Holder_order (sp_Holder_order T) := by
  refine T.m_Holder_order.F.ok sc_Holder_order (fun vs H Q E h => by obtain ⟨_, _, _, _, _, _, _, rfl, _⟩ := h; rfl) (fun cdv A outer s H vs Q E hr h => ?_)
  refine ⟨_, (pss_cons (ps_if (PW.pt (pw_or (pt_not (pt_val (pe_meth (pe_fld (pv 0) rfl) T.cl_Text T.m_Text_has_items.m (ok_Text_has_items T) (hr.mono (by decide)) T.m_Text_has_items.b .nil pass0 (pa_cons (pv 1) pa_nil)))) (pw_or1 (pt_not (pt_val (pe_meth (pe_fld (pv 0) rfl) T.cl_Text T.m_Text_has_items.m (ok_Text_has_items T) (hr.mono (by decide)) T.m_Text_has_items.b .nil pass0 (pa_cons (pv 2) pa_nil))))))) (pss_one (ps_ret (pe_lst (pa_cons (pe_un un_neg pe_int) pa_nil)))) pss_nil)
    (pss_cons (ps_set (i := 3) sc_Holder_order.nd rfl (Or.inl rfl) (pe_call (ok_peak_of T) (hr.mono (by decide)) rfl T.d_peak_of.mg T.d_peak_of.F.kp T.d_peak_of.b .nil pass0 (pa_cons (pe_make T.m_NeededRows___init__.M (ok_NeededRows___init__ T) (hr.mono (by decide)) rfl T.mg_NeededRows T.m_NeededRows___init__.b .nil pass0 (pa_cons (pe_fld (pv 0) rfl) (pa_cons (pv 1) pa_nil))) (pa_cons (pv 2) pa_nil))))
    (pss_cons (ps_if (pt_cmpR op_isN (pv 3) pe_non (nomark _)) (pss_one (ps_ret (pe_lst (pa_cons pe_int pa_nil)))) pss_nil)
    (pss_one (ps_ret (pe_lst (pa_cons pe_int (pa_cons (pv 3) pa_nil)))))))), ?_⟩
  obtain ⟨h, hx, t, l, o, zs, os, rfl, ⟨A, hh, hT, hok⟩, hl, hz, ho, hoz, hk⟩ := h
  have hnl : (txOf t).ns.length = Vapcma.count t := tx_ns t
  have hlook : Vapcmb.looked t (.order zs os) = match Vapcmb.itemsOf t zs with
    | none => VapcmBase.one (-2)
    | some is => (match Vapcmb.itemsOf t os with
      | none => VapcmBase.one (-2)
      | some _ => match Vapcmb.peakOf t (Vapcmb.jobOf t is) (os.map fun z => z.toNat) with
        | none => VapcmBase.one 0
        | some m => ⟨1, Vapcmb.nats [m]⟩) := rfl
  refine ⟨_, rfl, h, _, hx, _, _, rfl, hh, T.cl_Holder, T.n_Holder_text, hF_text _, A.a, A.dx, _, rfl, hT.o, tF_no (by decide +kernel) (by decide +kernel) (by decide +kernel) (by decide +kernel) _, _, rfl, A, txOf t, l, zs, rfl, hT, hl, by omega, fun H1 sm1 => ?_⟩
  refine ⟨_, rfl, ?_⟩
  rw [hnl]
  cases c : allIn (Vapcma.count t) zs with
  | false =>
    refine iteT rfl ?_
    rw [items_no c] at hlook
    refine ⟨_, rfl, (show 1 ≤ sizeLine by decide), fun p hp => ?_⟩
    refine hk p _ (sm1.trans (same_new hp)) (Same.free sm1 hp) ?_
    rw [upd_same, hlook]; rfl
  | true =>
    refine iteF rfl ?_
    have hT1 := hT.same sm1
    have hh1 := sm1 _ _ hh
    refine ⟨_, rfl, h, _, hx, _, _, rfl, hh1, T.cl_Holder, T.n_Holder_text, hF_text _, A.a, A.dx, _, rfl, hT1.o, tF_no (by decide +kernel) (by decide +kernel) (by decide +kernel) (by decide +kernel) _, _, rfl, A, txOf t, o, os, rfl, hT1, same_seqL sm1 ho, by omega, fun H2 sm2 => ?_⟩
    refine ⟨_, rfl, ?_⟩
    rw [hnl]
    have I := items_yes c
    rw [I.look] at hlook
    dsimp only at hlook
    cases c2 : allIn (Vapcma.count t) os with
    | false =>
      refine iteT rfl ?_
      rw [items_no c2] at hlook
      refine ⟨_, rfl, (show 1 ≤ sizeLine by decide), fun p hp => ?_⟩
      refine hk p _ ((sm1.trans sm2).trans (same_new hp)) (Same.free (sm1.trans sm2) hp) ?_
      rw [upd_same, hlook]; rfl
    | true =>
      refine iteF rfl ?_
      have I2 := items_yes c2
      rw [I2.look] at hlook
      dsimp only at hlook
      obtain ⟨wish2, hjob, hww⟩ := I.job hok
      rw [hjob] at hlook
      have sm3 := sm1.trans sm2
      have hT3 := hT.same sm3
      have hh3 := sm3 _ _ hh
      refine ⟨_, rfl, h, _, hx, _, _, rfl, hh3, T.cl_Holder, T.n_Holder_text, hF_text _, _, rfl, fun x dx hx0 hdx0 hne => ?_⟩
      have sm4 : Same H2 (upd (upd H2 dx (.own x)) x (.ins T.C_NeededRows dx [])) := (same_new hdx0).trans (same_new (by rw [upd_ne (Ne.symm hne)]; exact hx0))
      have hl4 : SqL K (upd (upd H2 dx (.own x)) x (.ins T.C_NeededRows dx [])) l (nvs (zs.map Int.toNat)) := by rw [← I.ivs]; exact same_seqL (sm3.trans sm4) hl
      refine ⟨x, dx, A, t, l, zs.map Int.toNat, rfl, upd_same, hT3.same sm4, hok, hl4, by rw [List.length_map]; exact hz, I.lt, fun H5 ra sa ua hN kp => ⟨rfl, ?_⟩⟩
      have sm5 : Same H2 H5 := fun b u hb => kp b u (sm4 b u hb) (by simp; exact fun e => by rw [e, hx0] at hb; cases hb)
      have hw := needed_rws hok I.lt
      have hR := needed_len hok (zs.map Int.toNat)
      have sm6 := sm3.trans sm5
      have ho5 : SqL K H5 o (nvs (os.map Int.toNat)) := by rw [← I2.ivs]; exact same_seqL sm6 ho
      generalize Vapcmb.neededRows t (zs.map Int.toNat) = R at *
      refine ⟨_, rfl, ⟨x, dx, ra, sa, ua⟩, _, o, os.map Int.toNat, rfl, hN, nds_ok hR, hw.asc, ho5, by rw [List.length_map]; exact hoz, fun pm H7 sm7 => ?_, fun pm H7 sm7 => ?_⟩
      · have pk : Vapcmb.peakOf t ⟨R, wish2⟩ (os.map fun z => z.toNat) = (ndsOf t R (zs.map Int.toNat)).go (os.map Int.toNat) 0 0 := peakOf_yes hw hww pm
        rw [pk] at hlook
        refine ⟨_, rfl, rfl, _, rfl, ?_⟩
        rw [optV_dec]
        cases e : (ndsOf t R (zs.map Int.toNat)).go (os.map Int.toNat) 0 0 with
        | none =>
          rw [e] at hlook
          refine iteT rfl ?_
          refine ⟨(show 1 ≤ sizeLine by decide), fun p hp => ?_⟩
          refine hk p _ ((sm6.trans sm7).trans (same_new hp)) (Same.free (sm6.trans sm7) hp) ?_
          rw [upd_same, hlook]; rfl
        | some m =>
          rw [e] at hlook
          refine iteF rfl ?_
          refine ⟨_, rfl, (show 2 ≤ sizeLine by decide), fun p hp => ?_⟩
          refine hk p _ ((sm6.trans sm7).trans (same_new hp)) (Same.free (sm6.trans sm7) hp) ?_
          rw [upd_same, hlook]; rfl
      · have pk : Vapcmb.peakOf t ⟨R, wish2⟩ (os.map fun z => z.toNat) = none := peakOf_no hw pm
        rw [pk] at hlook
        refine ⟨_, rfl, rfl, _, rfl, ?_⟩
        refine iteT rfl ?_
        refine ⟨(show 1 ≤ sizeLine by decide), fun p hp => ?_⟩
        refine hk p _ ((sm6.trans sm7).trans (same_new hp)) (Same.free (sm6.trans sm7) hp) ?_
        rw [upd_same, hlook]; rfl
end
end Shp
end
section
set_option maxRecDepth 100000
set_option maxHeartbeats 4000000
namespace Shp
open PySem PySem.Spec PyProof.Rows L2
open Vapcma (Form Text_ Axiom)
open VapcmbNeutral (encode)
section
variable {P : Program} {w : World} {K : PySem.W.Frag} {mg : Str → Option Value} {base : Heap}
def sp_Holder_least (T : Top K mg) : Sp := fun vs H Q _ => ∃ (h hx : Addr) (t : Text_) (l : Addr) (zs : List Int),
  vs = [.ref h, .ref l] ∧ HAt K T.C_Holder T.C_Text H h hx (some t) ∧ SqL K H l (ivs zs) ∧ zs.length ≤ 2000 ∧ ∀ (D : Addr) (H' : Hp), Same H H' → H D = none → H' D = some (.lst (ivs (encode (Vapcmb.looked t (.least zs))))) → Q (.ref D) H'
theorem ok_Holder_least (T : Top K mg) : FnOk P w K mg base CX0 5 T.m_Holder_least.f T.m_Holder_least.fd P_Holder_least (sp_Holder_least T) := by
  refine T.m_Holder_least.F.ok sc_Holder_least (fun vs H Q E h => by obtain ⟨_, _, _, _, _, rfl, _⟩ := h; rfl) (fun cdv A outer s H vs Q E hr h => ?_)
  refine ⟨_, (pss_cons (ps_if (pt_not (pt_val (pe_meth (pe_fld (pv 0) rfl) T.cl_Text T.m_Text_has_items.m (ok_Text_has_items T) (hr.mono (by decide)) T.m_Text_has_items.b .nil pass0 (pa_cons (pv 1) pa_nil)))) (pss_one (ps_ret (pe_lst (pa_cons (pe_un un_neg pe_int) pa_nil)))) pss_nil)
    (pss_cons (ps_set (i := 2) sc_Holder_least.nd rfl (Or.inl rfl) (pe_make T.m_NeededRows___init__.M (ok_NeededRows___init__ T) (hr.mono (by decide)) rfl T.mg_NeededRows T.m_NeededRows___init__.b .nil pass0 (pa_cons (pe_fld (pv 0) rfl) (pa_cons (pv 1) pa_nil))))
    (pss_cons (ps_if (pt_cmpR op_gt (pe_callB call_len (by rfl) T.b_len PySem.boot_len (pa_cons (pe_fld (pv 2) rfl) pa_nil)) (pe_glob rfl T.c_MOST_ROWS_IN_ORDER.choose_spec relI) (nomark _)) (pss_one (ps_ret (pe_lst (pa_cons (pe_un un_neg pe_int) pa_nil)))) pss_nil)
    (pss_cons (ps_set (i := 3) sc_Holder_least.nd rfl (Or.inl rfl) (pe_call (ok_least_peaks T) (hr.mono (by decide)) rfl T.d_least_peaks.mg T.d_least_peaks.F.kp T.d_least_peaks.b .nil pass0 (pa_cons (pv 2) pa_nil)))
    (pss_one (ps_ret (pe_op op_cat (pe_lst (pa_cons (pe_ix ix_list (pv 3) pe_int (fun _ _ => rfl)) (pa_cons (pe_callB call_len (by rfl) T.b_len PySem.boot_len (pa_cons (pe_fld (pv 2) rfl) pa_nil)) pa_nil))) (pe_call (ok_first_order T) (hr.mono (by decide)) rfl T.d_first_order.mg T.d_first_order.F.kp T.d_first_order.b .nil pass0 (pa_cons (pv 2) (pa_cons (pv 3) pa_nil)))))))))), ?_⟩
  obtain ⟨h, hx, t, l, zs, rfl, ⟨A, hh, hT, hok⟩, hl, hz, hk⟩ := h
  have hnl : (txOf t).ns.length = Vapcma.count t := tx_ns t
  have hlook : Vapcmb.looked t (.least zs) = match Vapcmb.itemsOf t zs with
    | none => VapcmBase.one (-2)
    | some is => (if Vapcmb.MOST < (Vapcmb.jobOf t is).rows.length then VapcmBase.one (-7) else ⟨(Vapcmb.leastPeak t (Vapcmb.jobOf t is) : Int), Vapcmb.listRow (Vapcmb.leastOrder t (Vapcmb.jobOf t is))⟩) := rfl
  refine ⟨_, rfl, h, _, hx, _, _, rfl, hh, T.cl_Holder, T.n_Holder_text, hF_text _, A.a, A.dx, _, rfl, hT.o, tF_no (by decide +kernel) (by decide +kernel) (by decide +kernel) (by decide +kernel) _, _, rfl, A, txOf t, l, zs, rfl, hT, hl, by omega, fun H1 sm1 => ?_⟩
  refine ⟨_, rfl, ?_⟩
  rw [hnl]
  cases c : allIn (Vapcma.count t) zs with
  | false =>
    refine iteT rfl ?_
    rw [items_no c] at hlook
    refine ⟨_, rfl, (show 1 ≤ sizeLine by decide), fun p hp => ?_⟩
    refine hk p _ (sm1.trans (same_new hp)) (Same.free sm1 hp) ?_
    rw [upd_same, hlook]; rfl
  | true =>
    refine iteF rfl ?_
    have I := items_yes c
    rw [I.look] at hlook
    dsimp only at hlook
    obtain ⟨wish2, hjob, hww⟩ := I.job hok
    rw [hjob] at hlook
    have hT3 := hT.same sm1
    have hh3 := sm1 _ _ hh
    refine ⟨_, rfl, h, _, hx, _, _, rfl, hh3, T.cl_Holder, T.n_Holder_text, hF_text _, _, rfl, fun x dx hx0 hdx0 hne => ?_⟩
    have sm4 : Same H1 (upd (upd H1 dx (.own x)) x (.ins T.C_NeededRows dx [])) := (same_new hdx0).trans (same_new (by rw [upd_ne (Ne.symm hne)]; exact hx0))
    have hl4 : SqL K (upd (upd H1 dx (.own x)) x (.ins T.C_NeededRows dx [])) l (nvs (zs.map Int.toNat)) := by rw [← I.ivs]; exact same_seqL (sm1.trans sm4) hl
    refine ⟨x, dx, A, t, l, zs.map Int.toNat, rfl, upd_same, hT3.same sm4, hok, hl4, by rw [List.length_map]; exact hz, I.lt, fun H5 ra sa ua hN kp => ⟨rfl, ?_⟩⟩
    have sm5 : Same H1 H5 := fun b u hb => kp b u (sm4 b u hb) (by simp; exact fun e => by rw [e, hx0] at hb; cases hb)
    have hw := needed_rws hok I.lt
    have hR := needed_len hok (zs.map Int.toNat)
    have sm6 := sm1.trans sm5
    clear kp hl4 sm4
    generalize Vapcmb.neededRows t (zs.map Int.toNat) = R at *
    generalize hBB : (⟨x, dx, ra, sa, ua⟩ : NdA) = B at *
    obtain rfl : x = B.a := by rw [← hBB]
    refine ⟨_, rfl, B.a, _, B.dx, _, _, rfl, hN.o, T.cl_NeededRows, T.n_NeededRows_rows, rowsF_rows _ _, _, _, rfl, .inl ⟨_, SqL.of hN.r, rfl⟩, _, _, rfl, rfl, _, rfl, ?_⟩
    have hrl : (nvs (ndsOf t R (zs.map Int.toNat)).R).length = R.length := nvs_len _
    rw [hrl]
    have hM : Vapcmb.MOST = 8 := rfl
    by_cases c8 : 8 < R.length
    · refine iteT (decide_eq_true (by omega)) ?_
      rw [if_pos (by rw [hM]; exact c8)] at hlook
      refine ⟨_, rfl, (show 1 ≤ sizeLine by decide), fun p hp => ?_⟩
      refine hk p _ (sm6.trans (same_new hp)) (Same.free sm6 hp) ?_
      rw [upd_same, hlook]; rfl
    · refine iteF (decide_eq_false (by omega)) ?_
      rw [if_neg (by rw [hM]; exact c8)] at hlook
      have h8 : R.length ≤ 8 := by omega
      refine ⟨_, rfl, B, t, R, zs.map Int.toNat, wish2, rfl, hN, hw, hww, h8, fun D H7 sm7 hD => ?_⟩
      have hN7 := hN.same sm7
      have hp0 : 0 < (Vapcmb.table t ⟨R, wish2⟩).length := by rw [table_eq, ltab_len]; exact Nat.two_pow_pos _
      refine ⟨_, rfl, D, _, _, _, rfl, rfl, SqL.of hD, atI_nat' (i := 0) (nvs_at hp0), _, rfl, B.a, _, B.dx, _, _, rfl, hN7.o, T.cl_NeededRows, T.n_NeededRows_rows, rowsF_rows _ _, _, _, rfl, .inl ⟨_, SqL.of hN7.r, rfl⟩, (show 2 ≤ sizeLine by decide), fun p hp => ?_⟩
      rw [hrl]
      have hp8 : (upd H7 p (.lst [.int (((Vapcmb.table t ⟨R, wish2⟩).getD 0 0 : Nat) : Int), .int ((R.length : Nat) : Int)])) p = some (.lst [.int (((Vapcmb.table t ⟨R, wish2⟩).getD 0 0 : Nat) : Int), .int ((R.length : Nat) : Int)]) := upd_same
      have sm8 : Same H7 (upd H7 p (.lst [.int (((Vapcmb.table t ⟨R, wish2⟩).getD 0 0 : Nat) : Int), .int ((R.length : Nat) : Int)])) := same_new hp
      generalize upd H7 p (.lst [.int (((Vapcmb.table t ⟨R, wish2⟩).getD 0 0 : Nat) : Int), .int ((R.length : Nat) : Int)]) = H8 at *
      refine ⟨_, rfl, _, rfl, B, t, R, zs.map Int.toNat, wish2, D, rfl, hN7.same sm8, hw, hww, h8, sm8 _ _ hD, fun hlen L H9 sm9 hL => ?_⟩
      refine ⟨p, L, _, _, rfl, rfl, sm9 _ _ hp8, hL, small_ok (m := 10000) (by rw [nvs_len, hlen]; show 2 + _ ≤ _; omega), fun q hq => ?_⟩
      refine hk q _ ((((sm6.trans sm7).trans sm8).trans sm9).trans (same_new hq)) (Same.free (((sm6.trans sm7).trans sm8).trans sm9) hq) ?_
      rw [upd_same, hlook]
      show some (HO.lst (_ :: _ :: nvs _)) = some (HO.lst (ivs (_ :: (_ :: _))))
      rw [hlen]
      simp [ivs, nvs, Vapcmb.nats, Vapcmb.leastPeak]
def sp_Holder_totals (T : Top K mg) : Sp := fun vs H Q _ => ∃ (h hx : Addr) (t : Text_),
  vs = [.ref h] ∧ HAt K T.C_Holder T.C_Text H h hx (some t) ∧ ∀ (D : Addr) (H' : Hp), Same H H' → H D = none → H' D = some (.lst (ivs (encode (Vapcmb.looked t .totals)))) → Q (.ref D) H'
theorem ok_Holder_totals (T : Top K mg) : FnOk P w K mg base CX0 6 T.m_Holder_totals.f T.m_Holder_totals.fd P_Holder_totals (sp_Holder_totals T) := by
  refine T.m_Holder_totals.F.ok sc_Holder_totals (fun vs H Q E h => by obtain ⟨_, _, _, rfl, _⟩ := h; rfl) (fun cdv A outer s H vs Q E hr h => ?_)
  refine ⟨_, (pss_cons (ps_set (i := 1) sc_Holder_totals.nd rfl (Or.inl rfl) (pe_call (ok_targets T) (hr.mono (by decide)) rfl T.d_targets.mg T.d_targets.F.kp T.d_targets.b .nil pass0 (pa_cons (pe_fld (pv 0) rfl) pa_nil)))
    (pss_one (ps_ret (pe_lst (pa_cons (pe_callB call_len (by rfl) T.b_len PySem.boot_len (pa_cons (pv 1) pa_nil)) (pa_cons (pe_callB call_len (by rfl) T.b_len PySem.boot_len (pa_cons (pe_call (ok_needed_rows T) (hr.mono (by decide)) rfl T.d_needed_rows.mg T.d_needed_rows.F.kp T.d_needed_rows.b .nil pass0 (pa_cons (pe_fld (pv 0) rfl) (pa_cons (pv 1) pa_nil))) pa_nil)) (pa_cons (pe_call (ok_target_steps T) (hr.mono (by decide)) rfl T.d_target_steps.mg T.d_target_steps.F.kp T.d_target_steps.b .nil pass0 (pa_cons (pe_fld (pv 0) rfl) pa_nil)) pa_nil))))))), ?_⟩
  obtain ⟨h, hx, t, rfl, ⟨A, hh, hT, hok⟩, hk⟩ := h
  have hlt : ∀ i ∈ tgt (txOf t), i < Vapcma.count t := fun i hi => by have := tgt_lt hi; rw [tx_fs] at this; exact this
  have hng := hok.ng
  have hlen : (tgt (txOf t)).length ≤ 2000 := by
    have h1 : (tgt (txOf t)).length ≤ t.goals.length := List.length_filterMap_le _ _
    omega
  refine ⟨_, rfl, h, _, hx, _, _, rfl, hh, T.cl_Holder, T.n_Holder_text, hF_text _, A, _, rfl, hT, hok.sizes1000, by show t.goals.length ≤ _; omega, fun D H1 sm1 hD => ?_⟩
  refine ⟨_, rfl, _, _, rfl, .inl ⟨_, SqL.of hD, rfl⟩, ?_⟩
  refine ⟨_, rfl, h, _, hx, _, _, rfl, sm1 _ _ hh, T.cl_Holder, T.n_Holder_text, hF_text _, _, rfl, A, t, D, _, rfl, hT.same sm1, hok, SqL.of hD, hlen, hlt, fun p H2 sm2 hp => ?_⟩
  refine ⟨_, _, rfl, .inl ⟨_, SqL.of hp, rfl⟩, ?_⟩
  have sm3 := sm1.trans sm2
  refine ⟨_, rfl, h, _, hx, _, _, rfl, sm3 _ _ hh, T.cl_Holder, T.n_Holder_text, hF_text _, A, t, rfl, hT.same sm3, hok, fun H4 sm4 => ?_⟩
  refine ⟨(show 3 ≤ sizeLine by decide), fun q hq => ?_⟩
  refine hk q _ ((sm3.trans sm4).trans (same_new hq)) (Same.free (sm3.trans sm4) hq) ?_
  rw [upd_same, nvs_len, nvs_len, tgt_eq]
  rfl
end
end Shp
end
section
set_option maxRecDepth 100000
set_option maxHeartbeats 4000000
namespace Shp
open PySem PySem.Spec PyProof.Rows L2
section
variable {P : Program} {w : World} {K : PySem.W.Frag} {mg : Str → Option Value} {base : Heap}
theorem rows_turn {k : Nat} {r : List Int} {xs : List (List Int)} {t : List Int} (h : PyFlat.rows (k + 1) r = some (xs, t)) : ∃ x s ys, PyFlat.row r = some (x, s) ∧ PyFlat.rows k s = some (ys, t) ∧ xs = x :: ys := by
  unfold PyFlat.rows at h
  cases hr : PyFlat.row r with
  | none => rw [hr] at h; cases h
  | some xt =>
    obtain ⟨x, s⟩ := xt
    rw [hr] at h
    dsimp only at h
    cases h2 : PyFlat.rows k s with
    | none => rw [h2] at h; cases h
    | some yt =>
      obtain ⟨ys, u⟩ := yt
      rw [h2] at h
      cases h
      exact ⟨x, s, ys, rfl, h2, rfl⟩
abbrev SHP : List (Int × Int) := [(0, 1), (0, 0), (0, 1), (1, 0), (0, 0), (0, 0), (0, 2), (0, 1), (0, 0)]
theorem shape_at {p : Int} {n k : Nat} (h : PyVapcmb.shape p = some (n, k)) : ∃ q : Nat, p = (q : Int) ∧ SHP[q]? = some ((n : Int), (k : Int)) := by
  rcases shape_cases h with ⟨rfl, e⟩ | ⟨rfl, e⟩ | ⟨rfl, e⟩ | ⟨rfl, e⟩ | ⟨rfl, e⟩ | ⟨rfl, e⟩ | ⟨rfl, e⟩ | ⟨rfl, e⟩ | ⟨rfl, e⟩ <;> cases e
  · exact ⟨0, rfl, rfl⟩
  · exact ⟨1, rfl, rfl⟩
  · exact ⟨2, rfl, rfl⟩
  · exact ⟨3, rfl, rfl⟩
  · exact ⟨4, rfl, rfl⟩
  · exact ⟨5, rfl, rfl⟩
  · exact ⟨6, rfl, rfl⟩
  · exact ⟨7, rfl, rfl⟩
  · exact ⟨8, rfl, rfl⟩
/-- a call's list of numbers, at a place of its own -/
def RowAt (F : Addr → Prop) (H : Hp) (v : V) (r : List Int) : Prop := ∃ b, v = .ref b ∧ F b ∧ H b = some (.lst (ivs r))
/-- a call, as it is kept: its number and its arguments -/
def CallAt (F : Addr → Prop) (H : Hp) (v : V) (c : List (List Int)) : Prop := ∃ (T a : Addr) (p : Int) (xs : List Int) (rows : List (List Int)) (vs : List V),
  v = .ref T ∧ c = (p :: xs) :: rows ∧ F T ∧ F a ∧ H T = some (.tup [.int p, .ref a]) ∧ H a = some (.lst (ivs xs ++ vs)) ∧ Paired (RowAt F H) vs rows
theorem RowAt.keep {F : Addr → Prop} {M : List Addr} {H H' : Hp} (k : Keep M H H') (n : ∀ y ∈ M, ¬ F y) {v : V} {r : List Int} (h : RowAt F H v r) : RowAt F H' v r := by
  obtain ⟨b, e, f, hb⟩ := h
  exact ⟨b, e, f, k _ _ hb (fun m => n _ m f)⟩
theorem CallAt.keep {F : Addr → Prop} {M : List Addr} {H H' : Hp} (k : Keep M H H') (n : ∀ y ∈ M, ¬ F y) {v : V} {c : List (List Int)} (h : CallAt F H v c) : CallAt F H' v c := by
  obtain ⟨T, a, p, xs, rows, vs, e1, e2, f1, f2, h1, h2, h3⟩ := h
  exact ⟨T, a, p, xs, rows, vs, e1, e2, f1, f2, k _ _ h1 (fun m => n _ m f1), k _ _ h2 (fun m => n _ m f2), paired_mono (fun _ _ z => z.keep k n) h3⟩
theorem CallAt.mono {F G : Addr → Prop} {H : Hp} (g : ∀ y, F y → G y) {v : V} {c : List (List Int)} (h : CallAt F H v c) : CallAt G H v c := by
  obtain ⟨T, a, p, xs, rows, vs, e1, e2, f1, f2, h1, h2, h3⟩ := h
  exact ⟨T, a, p, xs, rows, vs, e1, e2, g _ f1, g _ f2, h1, h2, paired_mono (fun _ _ ⟨b, q1, q2, q3⟩ => ⟨b, q1, g _ q2, q3⟩) h3⟩
def sp_parted (T : Top K mg) : Sp := fun vs H Q _ => ∃ (l : Addr) (ns : List Int) (cs : List (List (List Int))),
  vs = [.ref l] ∧ SqL K H l (ivs ns) ∧ ns.length ≤ 16000 ∧ PyFlat.calls PyVapcmb.shape ns.length ns = some cs ∧ cs.length ≤ 40 ∧
  ∀ (L : Addr) (H' : Hp) (us : List V), Same H H' → H L = none → H' L = some (.lst us) → Paired (CallAt (fun y => H y = none) H') us cs → Q (.ref L) H'
theorem ok_parted (T : Top K mg) : FnOk P w K mg base CX0 1 T.d_parted.f T.d_parted.fd P_parted (sp_parted T) := by
  refine T.d_parted.F.ok sc_parted (fun vs H Q E h => by obtain ⟨_, _, _, rfl, _⟩ := h; rfl) (fun cdv A outer s H vs Q E hr h => ?_)
  refine ⟨_, (pss_cons (ps_set (i := 1) sc_parted.nd rfl (Or.inl rfl) (pe_lst pa_nil))
    (pss_cons (ps_set (i := 2) sc_parted.nd rfl (Or.inl rfl) pe_int)
    (pss_cons (ps_while PassesOwn.never (pt_cmpR op_lt (pv 2) (pe_callB call_len (by rfl) T.b_len PySem.boot_len (pa_cons (pv 0) pa_nil)) (nomark _)) (pss_cons (ps_set (i := 3) sc_parted.nd rfl (Or.inl rfl) (pe_ix ix_list (pv 0) (pv 2) (fun _ _ => rfl)))
      (pss_cons (ps_set (i := 4) sc_parted.nd rfl (Or.inl rfl) (pe_ix ix_tup (pe_glob (v := .ref _) rfl T.c_SHAPES.choose_spec.1 rfl) (pv 3) (fun _ _ => rfl)))
      (pss_cons (ps_set (i := 5) sc_parted.nd rfl (Or.inl rfl) (pe_op op_add (pv 2) pe_int))
      (pss_cons (ps_set (i := 2) sc_parted.nd rfl (Or.inl rfl) (pe_op op_add (pv 5) (pe_ix ix_tup (pv 4) pe_int (fun _ _ => rfl))))
      (pss_cons (ps_set (i := 6) sc_parted.nd rfl (Or.inl rfl) (pe_slice sl_list (pv 0) (po_some (pv 5)) (po_some (pv 2))))
      (pss_cons (ps_while PassesOwn.never (pt_cmpR op_lt (pe_callB call_len (by rfl) T.b_len PySem.boot_len (pa_cons (pv 6) pa_nil)) (pe_op op_add (pe_ix ix_tup (pv 4) pe_int (fun _ _ => rfl)) (pe_ix ix_tup (pv 4) pe_int (fun _ _ => rfl))) (nomark _)) (pss_cons (ps_set (i := 5) sc_parted.nd rfl (Or.inl rfl) (pe_op op_add (pv 2) pe_int))
        (pss_cons (ps_set (i := 2) sc_parted.nd rfl (Or.inl rfl) (pe_op op_add (pv 5) (pe_ix ix_list (pv 0) (pv 2) (fun _ _ => rfl))))
        (pss_one (ps_expr (pe_bm PySem.F.plainAttrs_list PySem.F.slot_list_append PySem.F.type_list_append mt_append (pv 6) (pa_cons (pe_slice sl_list (pv 0) (po_some (pv 5)) (po_some (pv 2))) pa_nil)))))))
      (pss_one (ps_expr (pe_bm PySem.F.plainAttrs_list PySem.F.slot_list_append PySem.F.type_list_append mt_append (pv 1) (pa_cons (pe_tup (pa_cons (pv 3) (pa_cons (pv 6) pa_nil))) pa_nil)))))))))))
    (pss_one (ps_ret (pv 1)))))), ?_⟩
  obtain ⟨l, ns, cs, rfl, hl, hz, hcs, h40, hq⟩ := h
  refine ⟨Nat.zero_le _, fun L hL => ?_⟩
  obtain ⟨H1, hH1⟩ : ∃ H1, H1 = upd H L (.lst []) := ⟨_, rfl⟩
  rw [← hH1]
  have sm1 : Same H H1 := by rw [hH1]; exact same_new hL
  have hL1 : H1 L = some (.lst []) := by rw [hH1]; exact upd_same
  have hFL : ¬ H1 L = none := by rw [hL1]; intro e; cases e
  have hF : ∀ y, H1 y = none → H y = none := fun y hy => sm1.free hy
  clear hH1
  refine ⟨fun k σ H' => ∃ (i f : Nat) (cs1 cs2 : List (List (List Int))) (us : List V) (v3 v4 v5 v6 : Option V), k = ns.length - i ∧ σ = [some (.ref l), some (.ref L), some (.int (i : Int)), v3, v4, v5, v6] ∧ Keep [L] H1 H' ∧
      H' L = some (.lst us) ∧ Paired (CallAt (fun y => H1 y = none) H') us cs1 ∧ PyFlat.calls PyVapcmb.shape f (ns.drop i) = some cs2 ∧ cs = cs1 ++ cs2 ∧ i ≤ ns.length,
    ⟨_, 0, _, [], cs, [], none, none, none, none, rfl, rfl, Keep.refl _ _, hL1, .nil, hcs, rfl, Nat.zero_le _⟩, ?_⟩
  rintro k σ H' ⟨i, f, cs1, cs2, us, v3, v4, v5, v6, rfl, rfl, kp, hL2, hP, hc2, hcc, hi⟩
  have sm : Same H H' := fun b u hb => kp b u (sm1 _ _ hb) (by rw [List.mem_singleton]; rintro rfl; rw [hL] at hb; cases hb)
  have hl2 := same_seqL sm hl
  refine ⟨_, rfl, _, rfl, _, _, rfl, .inl ⟨_, hl2, rfl⟩, _, _, rfl, rfl, _, rfl, ?_⟩
  rw [ivs_len]
  rcases calls_turn hc2 with ⟨e1, e2⟩ | ⟨p, r, g, c, t, cs', e1, e2, e3, e4, e5⟩
  · have hle := congrArg List.length e1
    rw [List.length_drop, List.length_nil] at hle
    refine iteF (decide_eq_false (by omega)) ?_
    subst e2
    rw [List.append_nil] at hcc
    subst hcc
    refine ⟨_, rfl, ?_⟩
    exact hq L H' us sm hL hL2 (paired_mono (fun _ _ z => z.mono hF) hP)
  · have hlt : i < ns.length := by
      have := congrArg List.length e1
      rw [List.length_drop, List.length_cons] at this
      omega
    refine iteT (decide_eq_true (by omega)) ?_
    refine ⟨_, fun _ _ h => h, ?_⟩
    obtain ⟨n, k, hsh⟩ : ∃ n k, PyVapcmb.shape p = some (n, k) := by
      cases hs : PyVapcmb.shape p with
      | none => unfold PyFlat.call at e3; dsimp only at e3; rw [hs] at e3; cases e3
      | some nk => exact ⟨nk.1, nk.2, rfl⟩
    obtain ⟨hn, rows, hrows, hc⟩ := call_is hsh e3
    obtain ⟨q, rfl, hSq⟩ := shape_at hsh
    have hS := T.c_SHAPES.choose_spec.2
    obtain ⟨ws, hws, hwp⟩ := hS
    obtain ⟨wa, hwa1, hwa2⟩ := Shp.paired_get hwp hSq
    refine ⟨_, rfl, _, rfl, _, _, _, _, rfl, rfl, hl2, atI_nat' (ivs_at e1), ?_⟩
    have hrd : ns.drop (i + 1) = r := drop_more e1
    have hnl : i + 1 + n ≤ ns.length := by
      have := congrArg List.length hrd
      rw [List.length_drop] at this
      omega
    refine ⟨_, rfl, _, _, _, _, rfl, rfl, hws _, atI_nat' (by rw [List.getElem?_map, hwa1]; rfl), ?_⟩
    refine ⟨_, rfl, _, _, rfl, rfl, ?_⟩
    refine ⟨_, rfl, _, rfl, _, _, _, _, rfl, rfl, hwa2 _, atI_nat' (i := 0) rfl, _, _, rfl, rfl, ?_⟩
    refine ⟨_, rfl, _, rfl, _, rfl, _, rfl, _, rfl, l, _, rfl, hl2, fun a ha => ?_⟩
    have hcut : cutV (ivs ns) (some ((i : Int) + 1)) (some ((i : Int) + 1 + (n : Int))) = ivs (r.take n) := by
      have := cut_ints (xs := ns) (p := i + 1) (q := i + 1 + n) (by omega) hnl
      rw [hrd, show i + 1 + n - (i + 1) = n by omega] at this
      exact this
    have hcut2 : cutV (ivs ns) (some ((i : Int) + 1)) (some ((i : Int) + 1 + ((n : Int), (k : Int)).fst)) = ivs (r.take n) := hcut
    rw [hcut2]
    have hxl : (r.take n).length = n := by rw [List.length_take]; omega
    generalize r.take n = xs at *
    have hrn : ns.drop (i + 1 + n) = r.drop n := by rw [← List.drop_drop, hrd]
    rw [← hrn] at hrows
    have hla : L ≠ a := by rintro rfl; rw [hL2] at ha; cases ha
    have smA : Same H' (upd H' a (.lst (ivs xs))) := same_new ha
    have haA : (upd H' a (.lst (ivs xs))) a = some (.lst (ivs xs ++ [])) := by rw [upd_same, List.append_nil]
    generalize upd H' a (.lst (ivs xs)) = HA at *
    have fa : H1 a = none := by
      cases e : H1 a with
      | none => rfl
      | some o =>
        have := kp a o e (by rw [List.mem_singleton]; exact Ne.symm hla)
        rw [this] at ha; cases ha
    refine ⟨fun k2 σ H2 => ∃ (i2 kk : Nat) (rows1 rows2 : List (List Int)) (vs : List V) (v5 : Option V), k2 = kk ∧ σ = [some (.ref l), some (.ref L), some (.int (i2 : Int)), some (.int (q : Int)), some (.ref wa), v5, some (.ref a)] ∧ Same H' H2 ∧
        H2 a = some (.lst (ivs xs ++ vs)) ∧ Paired (RowAt (fun y => H1 y = none ∧ y ≠ a) H2) vs rows1 ∧ PyFlat.rows kk (ns.drop i2) = some (rows2, t) ∧ rows = rows1 ++ rows2 ∧ kk + rows1.length = k ∧ i < i2 ∧ i2 ≤ ns.length,
      ⟨_, i + 1 + n, k, [], rows, [], _, rfl, rfl, smA, haA, .nil, hrows, rfl, rfl, by omega, hnl⟩, ?_⟩
    rintro k2 σ H2 ⟨i2, kk, rows1, rows2, vs, v5, rfl, rfl, sm2, ha2, hRP, hr2, hrr, hkk, hi2, hi2l⟩
    have hvl := hRP.length
    have hk2 : k ≤ 2 := by
      rcases shape_cases hsh with ⟨_, e⟩ | ⟨_, e⟩ | ⟨_, e⟩ | ⟨_, e⟩ | ⟨_, e⟩ | ⟨_, e⟩ | ⟨_, e⟩ | ⟨_, e⟩ | ⟨_, e⟩ <;> cases e <;> decide
    have hl3 := same_seqL sm2 hl2
    refine ⟨_, rfl, _, _, rfl, .inl ⟨_, SqL.of ha2, rfl⟩, _, rfl, _, _, _, _, rfl, rfl, hwa2 _, atI_nat' (i := 0) rfl, _, rfl, _, _, _, _, rfl, rfl, hwa2 _, atI_nat' (i := 1) rfl, _, _, rfl, rfl, _, _, rfl, rfl, _, rfl, ?_⟩
    rw [List.length_append, ivs_len, hxl]
    cases k2 with
    | zero =>
      refine iteF (decide_eq_false (by show ¬ ((n + vs.length : Nat) : Int) < (n : Int) + (k : Int); omega)) ?_
      unfold PyFlat.rows at hr2
      cases hr2
      rw [List.append_nil] at hrr
      subst hrr
      have hL3 := sm2 _ _ hL2
      refine ⟨_, rfl, tyL hL3, _, rfl, _, rfl, (show 2 ≤ sizeLine by decide), fun Tp hTp => ?_⟩
      have sm3 : Same H2 (upd H2 Tp (.tup [.int (q : Int), .ref a])) := same_new hTp
      have hT3 : (upd H2 Tp (.tup [.int (q : Int), .ref a])) Tp = some (.tup [.int (q : Int), .ref a]) := upd_same
      have fT : H1 Tp = none := by
        cases e : H1 Tp with
        | none => rfl
        | some o =>
          by_cases eL : Tp = L
          · rw [eL, hL3] at hTp; cases hTp
          · have := sm2 _ _ (kp Tp o e (by rw [List.mem_singleton]; exact eL))
            rw [this] at hTp; cases hTp
      generalize upd H2 Tp (.tup [.int (q : Int), .ref a]) = H3 at *
      have hul := hP.length
      have h40' : us.length + 1 ≤ 40 := by
        rw [hcc, e5, List.length_append, List.length_cons] at h40
        omega
      refine ⟨L, us, _, rfl, rfl, sm3 _ _ hL3, small_lt (m := 10000) (by omega), ?_⟩
      have kp4 : Keep [L] H3 (upd H3 L (.lst (us ++ [.ref Tp]))) := Keep.upd (by simp)
      have kp5 : Keep [L] H' (upd H3 L (.lst (us ++ [.ref Tp]))) := (Keep.of_same (sm2.trans sm3)).trans kp4
      have nF : ∀ y ∈ [L], ¬ H1 y = none := fun y hy => by rw [List.mem_singleton.mp hy]; exact hFL
      have hcall : CallAt (fun y => H1 y = none) (upd H3 L (.lst (us ++ [.ref Tp]))) (.ref Tp) c := by
        refine CallAt.keep kp4 nF ⟨Tp, a, (q : Int), xs, rows, vs, rfl, hc, fT, fa, hT3, sm3 _ _ ha2, ?_⟩
        exact paired_mono (fun _ _ ⟨b, z1, z2, z3⟩ => ⟨b, z1, z2.1, sm3 _ _ z3⟩) hRP
      refine ⟨_, ?_, i2, g, cs1 ++ [c], cs', us ++ [.ref Tp], _, _, _, _, rfl, rfl, kp.trans kp5, upd_same, paired_snoc hcall (paired_mono (fun _ _ z => z.keep kp5 nF) hP), e4, ?_, hi2l⟩
      · omega
      · rw [hcc, e5, List.append_assoc]; rfl
    | succ kk =>
      refine iteT (decide_eq_true (by show ((n + vs.length : Nat) : Int) < (n : Int) + (k : Int); omega)) ?_
      refine ⟨_, fun _ _ h => h, ?_⟩
      obtain ⟨x, s2, ys, hrow, hrows2, hyy⟩ := rows_turn hr2
      obtain ⟨m, r', er, hm0, hml, ex, es⟩ := row_is hrow
      obtain ⟨M, rfl⟩ : ∃ M : Nat, m = (M : Int) := ⟨m.toNat, by omega⟩
      rw [Int.toNat_natCast] at hml ex es
      have hrd2 : ns.drop (i2 + 1) = r' := drop_more er
      have hnl2 : i2 + 1 + M ≤ ns.length := by
        have h1 := congrArg List.length hrd2
        rw [List.length_drop] at h1
        have h2 := congrArg List.length er
        rw [List.length_drop, List.length_cons] at h2
        omega
      refine ⟨_, rfl, _, _, rfl, rfl, ?_⟩
      refine ⟨_, rfl, _, rfl, _, rfl, _, _, _, _, rfl, rfl, hl3, atI_nat' (ivs_at er), _, _, rfl, rfl, ?_⟩
      refine ⟨_, rfl, tyL ha2, _, rfl, _, rfl, _, rfl, _, rfl, _, rfl, l, _, rfl, hl3, fun b hb => ?_⟩
      have hcutb : cutV (ivs ns) (some ((i2 : Int) + 1)) (some ((i2 : Int) + 1 + (M : Int))) = ivs x := by
        have := cut_ints (xs := ns) (p := i2 + 1) (q := i2 + 1 + M) (by omega) hnl2
        rw [hrd2, show i2 + 1 + M - (i2 + 1) = M by omega, ← ex] at this
        exact this
      rw [hcutb]
      have fb : H1 b = none ∧ b ≠ a := by
        constructor
        · cases e : H1 b with
          | none => rfl
          | some o =>
            by_cases eL : b = L
            · rw [eL, sm2 _ _ hL2] at hb; cases hb
            · have := sm2 _ _ (kp b o e (by rw [List.mem_singleton]; exact eL))
              rw [this] at hb; cases hb
        · rintro rfl; rw [ha2] at hb; cases hb
      have smb : Same H2 (upd H2 b (.lst (ivs x))) := same_new hb
      have hb3 : (upd H2 b (.lst (ivs x))) b = some (.lst (ivs x)) := upd_same
      have ha3 := smb _ _ ha2
      generalize upd H2 b (.lst (ivs x)) = H3 at *
      refine ⟨a, _, _, rfl, rfl, ha3, small_lt (m := 100000) (by rw [List.length_append, ivs_len, hxl]; omega), ?_⟩
      have kpa : Keep [a] H3 (upd H3 a (.lst (ivs xs ++ vs ++ [.ref b]))) := Keep.upd (by simp)
      have nFa : ∀ y ∈ [a], ¬ (H1 y = none ∧ y ≠ a) := fun y hy z => z.2 (List.mem_singleton.mp hy)
      have es2 : s2 = ns.drop (i2 + 1 + M) := by rw [es, ← hrd2, List.drop_drop]
      rw [es2] at hrows2
      refine ⟨kk, Nat.lt_succ_self _, i2 + 1 + M, kk, rows1 ++ [x], ys, vs ++ [.ref b], _, rfl, rfl, same_old (sm2.trans smb) ha, by rw [upd_same, List.append_assoc], ?_, hrows2, by rw [hrr, hyy, List.append_assoc]; rfl, by rw [List.length_append, List.length_singleton]; omega, by omega, hnl2⟩
      exact paired_snoc (RowAt.keep kpa nFa ⟨b, rfl, fb, hb3⟩) (paired_mono (fun _ _ ⟨b', z1, z2, z3⟩ => RowAt.keep kpa nFa ⟨b', z1, z2, smb _ _ z3⟩) hRP)
end
end Shp
end
section
set_option maxRecDepth 100000
set_option maxHeartbeats 4000000
namespace Shp
open PySem PySem.Spec PyProof.Rows L2
open Vapcma (Form Text_ Axiom)
open VapcmbNeutral (encode callOf asked1 bytesOf)
section
variable {P : Program} {w : World} {K : PySem.W.Frag} {mg : Str → Option Value} {base : Heap}
theorem num_ne {a b : Int} (h : a ≠ b) : decide (V.int a = V.int b) = false := by
  rw [dec_int]; simpa using h
theorem num_eq (a : Int) : decide (V.int a = V.int a) = true := by simp
theorem nstep {o : Vapcmb.Obj} {c : List (List Int)} {k : Vapcmb.Call} (h : callOf c = some k) : VapcmbNeutral.step o c = ((Vapcmb.step o k).1, encode (Vapcmb.step o k).2) := by
  unfold VapcmbNeutral.step
  rw [h]
theorem len0 {α : Type} {l : List α} (h : l.length = 0) : l = [] := List.length_eq_zero_iff.mp h
theorem len1 {α : Type} {l : List α} (h : l.length = 1) : ∃ x, l = [x] := List.length_eq_one_iff.mp h
theorem len2 {α : Type} {l : List α} (h : l.length = 2) : ∃ x y, l = [x, y] := by
  match l, h with
  | [x, y], _ => exact ⟨x, y, rfl⟩
theorem pair1 {α β : Type} {R : α → β → Prop} {xs : List α} {y : β} (h : Paired R xs [y]) : ∃ x, xs = [x] ∧ R x y := by
  cases h with
  | cons h1 h2 => cases h2; exact ⟨_, rfl, h1⟩
theorem pair2 {α β : Type} {R : α → β → Prop} {xs : List α} {y z : β} (h : Paired R xs [y, z]) : ∃ x u, xs = [x, u] ∧ R x y ∧ R u z := by
  cases h with
  | cons h1 h2 =>
    obtain ⟨u, rfl, h3⟩ := pair1 h2
    exact ⟨_, _, rfl, h1, h3⟩
theorem pair0 {α β : Type} {R : α → β → Prop} {xs : List α} (h : Paired R xs []) : xs = [] := by cases h; rfl
/-- numbers that are bytes -/
theorem bytes_of {b : List Int} (h : (b.all fun (z : Int) => VapcmbNeutral.natural z 8) = true) : NeutralIO.bytes b = true ∧ ((bytesOf b).map fun b => V.int ((b.toNat : Nat) : Int)) = ivs b := by
  have hb : ∀ z ∈ b, 0 ≤ z ∧ z < 256 := fun z hz => by
    have := List.all_eq_true.mp h z hz
    unfold VapcmbNeutral.natural at this
    rw [Bool.and_eq_true, decide_eq_true_eq, decide_eq_true_eq] at this
    exact ⟨this.1, by have := this.2; omega⟩
  constructor
  · unfold NeutralIO.bytes
    rw [List.all_eq_true]
    intro z hz
    have := hb z hz
    rw [Bool.and_eq_true, decide_eq_true_eq, decide_eq_true_eq]
    omega
  · unfold bytesOf ivs
    rw [List.map_map]
    refine List.map_congr_left fun z hz => ?_
    have := hb z hz
    show V.int (((UInt8.ofNat z.toNat).toNat : Nat) : Int) = V.int z
    rw [UInt8.toNat_ofNat']
    congr 1
    omega
def sp_answer_one (T : Top K mg) : Sp := fun vs H Q _ => ∃ (G F : Addr → Prop) (h hx a : Addr) (o : Option Text_) (p : Int) (xs : List Int) (rows : List (List Int)) (ws : List V),
  vs = [.ref h, .int p, .ref a] ∧ HAtG K T.C_Holder T.C_Text G H h hx o ∧ (∀ y, H y = none → G y) ∧ H a = some (.lst (ivs xs ++ ws)) ∧ Paired (RowAt F H) ws rows ∧ PyVapcmb.shape p = some (xs.length, rows.length) ∧ asked1 ((p :: xs) :: rows) = true ∧
  ∀ (D : Addr) (H' : Hp), H D = none → HAtG K T.C_Holder T.C_Text G H' h hx (VapcmbNeutral.step o ((p :: xs) :: rows)).1 → H' D = some (.lst (ivs (VapcmbNeutral.step o ((p :: xs) :: rows)).2)) → Keep [h] H H' → Q (.ref D) H'
theorem ok_answer_one (T : Top K mg) (TF : FaultT K T.C_Fault) : FnOk P w K mg base CX0 92 T.d_answer_one.f T.d_answer_one.fd P_answer_one (sp_answer_one T) := by
  refine T.d_answer_one.F.ok sc_answer_one (fun vs H Q E h => by obtain ⟨_, _, _, _, _, _, _, _, _, _, rfl, _⟩ := h; rfl) (fun cdv A outer s H vs Q E hr h => ?_)
  refine ⟨_, (pss_cons (ps_if (pt_cmpR op_eq (pv 1) (pe_glob rfl T.c_LOAD.choose_spec relI) (nomark _)) (pss_one (ps_ret (pe_meth (pv 0) T.cl_Holder T.m_Holder_load.m (ok_Holder_load T TF) (hr.mono (by decide)) T.m_Holder_load.b .nil pass0 (pa_cons (pe_ix ix_list (pv 2) pe_int (fun _ _ => rfl)) pa_nil)))) pss_nil)
    (pss_cons (ps_if (pt_cmpR op_isN (pe_fld (pv 0) rfl) pe_non (nomark _)) (pss_one (ps_ret (pe_lst (pa_cons (pe_un un_neg pe_int) pa_nil)))) pss_nil)
    (pss_cons (ps_if (pt_cmpR op_eq (pv 1) (pe_glob rfl T.c_SHOWN.choose_spec relI) (nomark _)) (pss_one (ps_ret (pe_meth0 (pv 0) T.cl_Holder T.m_Holder_shown.m (ok_Holder_shown T) (hr.mono (by decide)) T.m_Holder_shown.b .nil pass0))) pss_nil)
    (pss_cons (ps_if (pt_cmpR op_eq (pv 1) (pe_glob rfl T.c_PRUNE.choose_spec relI) (nomark _)) (pss_one (ps_ret (pe_meth (pv 0) T.cl_Holder T.m_Holder_prune.m (ok_Holder_prune T) (hr.mono (by decide)) T.m_Holder_prune.b .nil pass0 (pa_cons (pe_ix ix_list (pv 2) pe_int (fun _ _ => rfl)) pa_nil)))) pss_nil)
    (pss_cons (ps_if (pt_cmpR op_eq (pv 1) (pe_glob rfl T.c_GENERAL.choose_spec relI) (nomark _)) (pss_one (ps_ret (pe_meth (pv 0) T.cl_Holder T.m_Holder_general.m (ok_Holder_general T) (hr.mono (by decide)) T.m_Holder_general.b .nil pass0 (pa_cons (pe_ix ix_list (pv 2) pe_int (fun _ _ => rfl)) pa_nil)))) pss_nil)
    (pss_cons (ps_if (pt_cmpR op_eq (pv 1) (pe_glob rfl T.c_SHORTEN.choose_spec relI) (nomark _)) (pss_one (ps_ret (pe_meth0 (pv 0) T.cl_Holder T.m_Holder_shorten.m (ok_Holder_shorten T) (hr.mono (by decide)) T.m_Holder_shorten.b .nil pass0))) pss_nil)
    (pss_cons (ps_if (pt_cmpR op_eq (pv 1) (pe_glob rfl T.c_SHORT.choose_spec relI) (nomark _)) (pss_one (ps_ret (pe_meth0 (pv 0) T.cl_Holder T.m_Holder_short.m (ok_Holder_short T) (hr.mono (by decide)) T.m_Holder_short.b .nil pass0))) pss_nil)
    (pss_cons (ps_if (pt_cmpR op_eq (pv 1) (pe_glob rfl T.c_ORDER.choose_spec relI) (nomark _)) (pss_one (ps_ret (pe_meth (pv 0) T.cl_Holder T.m_Holder_order.m (ok_Holder_order T) (hr.mono (by decide)) T.m_Holder_order.b .nil pass0 (pa_cons (pe_ix ix_list (pv 2) pe_int (fun _ _ => rfl)) (pa_cons (pe_ix ix_list (pv 2) pe_int (fun _ _ => rfl)) pa_nil))))) pss_nil)
    (pss_cons (ps_if (pt_cmpR op_eq (pv 1) (pe_glob rfl T.c_LEAST.choose_spec relI) (nomark _)) (pss_one (ps_ret (pe_meth (pv 0) T.cl_Holder T.m_Holder_least.m (ok_Holder_least T) (hr.mono (by decide)) T.m_Holder_least.b .nil pass0 (pa_cons (pe_ix ix_list (pv 2) pe_int (fun _ _ => rfl)) pa_nil)))) pss_nil)
    (pss_one (ps_ret (pe_meth0 (pv 0) T.cl_Holder T.m_Holder_totals.m (ok_Holder_totals T) (hr.mono (by decide)) T.m_Holder_totals.b .nil pass0)))))))))))), ?_⟩
  obtain ⟨G, F, h, hx, a, o, p, xs, rows, ws, rfl, hH, hG, ha, hP, hsh, hask, hk⟩ := h
  refine ⟨_, rfl, rfl, _, rfl, ?_⟩
  by_cases p0 : p = 0
  · subst p0
    have e0 : xs.length = 0 ∧ rows.length = 1 := by
      have e1 : PyVapcmb.shape 0 = some (0, 1) := rfl
      rw [e1] at hsh
      have e2 := Prod.mk.inj (Option.some.inj hsh)
      exact ⟨e2.1.symm, e2.2.symm⟩
    obtain rfl := len0 e0.1
    obtain ⟨r, rfl⟩ := len1 e0.2
    obtain ⟨v, rfl, b, rfl, fb, hb⟩ := pair1 hP
    have hask2 : ((r.all (fun (z : Int) => VapcmbNeutral.natural z 8)) && decide (r.length ≤ 8192)) = true := hask
    rw [Bool.and_eq_true] at hask2
    obtain ⟨hb1, hb2⟩ := bytes_of hask2.1
    have hc : callOf [[0], r] = some (.load (bytesOf r)) := by
      show (if NeutralIO.bytes r = true then _ else _) = _
      rw [if_pos hb1]
    rw [nstep hc] at hk
    refine iteT (num_eq _) ?_
    obtain ⟨v, hv⟩ := hH.at_.obj
    refine ⟨_, rfl, h, hx, _, rfl, hv, hF_no (by decide +kernel) _, _, rfl, _, _, _, _, rfl, rfl, SqL.of ha, atI_nat' (i := 0) rfl, ?_⟩
    exact ⟨G, h, hx, o, b, bytesOf r, rfl, hH, hG, by rw [hb2]; exact SqL.of hb, fun D H' hD h1 h2 h3 => hk D H' hD h1 h2 h3⟩
  · refine iteF (num_ne p0) ?_
    cases o with
    | none =>
      have hst : VapcmbNeutral.step none ((p :: xs) :: rows) = (none, encode (VapcmBase.one (-1))) := by
        rcases shape_cases hsh with ⟨rfl, e⟩ | ⟨rfl, e⟩ | ⟨rfl, e⟩ | ⟨rfl, e⟩ | ⟨rfl, e⟩ | ⟨rfl, e⟩ | ⟨rfl, e⟩ | ⟨rfl, e⟩ | ⟨rfl, e⟩
        · exact absurd rfl p0
        all_goals (obtain ⟨e1, e2⟩ := Prod.mk.inj e)
        · rw [len0 e1, len0 e2]; rfl
        · obtain ⟨r, rfl⟩ := len1 e2; rw [len0 e1]; rfl
        · obtain ⟨x, rfl⟩ := len1 e1; rw [len0 e2]; rfl
        · rw [len0 e1, len0 e2]; rfl
        · rw [len0 e1, len0 e2]; rfl
        · obtain ⟨r, r2, rfl⟩ := len2 e2; rw [len0 e1]; rfl
        · obtain ⟨r, rfl⟩ := len1 e2; rw [len0 e1]; rfl
        · rw [len0 e1, len0 e2]; rfl
      rw [hst] at hk
      have hh : H h = some (.ins T.C_Holder hx (hF .non)) := hH
      refine ⟨_, rfl, h, _, hx, _, _, rfl, hh, T.cl_Holder, T.n_Holder_text, hF_text _, rfl, _, rfl, ?_⟩
      refine iteT (by simp) ?_
      refine ⟨_, rfl, (show 1 ≤ sizeLine by decide), fun q hq => ?_⟩
      exact hk q _ hq (HAtG.same hH (same_new hq)) (by rw [upd_same]; rfl) (Keep.new hq)
    | some t =>
      have hHG := hH
      have hH0 := hH.at_
      obtain ⟨A, hh, hT, hok, _⟩ := hH
      refine ⟨_, rfl, h, _, hx, _, _, rfl, hh, T.cl_Holder, T.n_Holder_text, hF_text _, rfl, _, rfl, ?_⟩
      refine iteF (by simp) ?_
      have no : ∀ {m : Str}, (m == ("text" : Str)) = false → (hF (.ref A.a)).lookup m = none := fun e => hF_no e _
      have fin : ∀ k, callOf ((p :: xs) :: rows) = some k → Vapcmb.step (some t) k = (some t, Vapcmb.looked t k) → ∀ (D : Addr) (H' : Hp), Same H H' → H D = none → H' D = some (.lst (ivs (encode (Vapcmb.looked t k)))) → Q (.ref D) H' := fun k hc hs D H' sm hD h2 => by
        rw [nstep hc, hs] at hk
        exact hk D H' hD (HAtG.same hHG sm) h2 (Keep.of_same sm)
      clear hk
      have lst : ∀ {r : List Int}, (r.all VapcmbNeutral.whole60 && decide (r.length ≤ 2000)) = true → r.length ≤ 2000 := fun z => by
        rw [Bool.and_eq_true, decide_eq_true_eq] at z; exact z.2
      refine ⟨_, rfl, rfl, _, rfl, ?_⟩
      rcases shape_cases hsh with ⟨rfl, e⟩ | ⟨rfl, e⟩ | ⟨rfl, e⟩ | ⟨rfl, e⟩ | ⟨rfl, e⟩ | ⟨rfl, e⟩ | ⟨rfl, e⟩ | ⟨rfl, e⟩ | ⟨rfl, e⟩
      · exact absurd rfl p0
      all_goals (obtain ⟨e1, e2⟩ := Prod.mk.inj e)
      · obtain rfl := len0 e1
        obtain rfl := len0 e2
        refine iteT (num_eq _) ?_
        refine ⟨_, rfl, h, hx, _, rfl, hh, no (by decide +kernel), ?_⟩
        exact ⟨h, hx, t, rfl, hH0, fin .shown rfl rfl⟩
      · obtain rfl := len0 e1
        obtain ⟨r, rfl⟩ := len1 e2
        obtain ⟨v, rfl, b, rfl, fb, hb⟩ := pair1 hP
        refine iteF (num_ne (by decide)) ?_
        refine ⟨_, rfl, rfl, _, rfl, ?_⟩
        refine iteT (num_eq _) ?_
        refine ⟨_, rfl, h, hx, _, rfl, hh, no (by decide +kernel), _, rfl, _, _, _, _, rfl, rfl, SqL.of ha, atI_nat' (i := 0) rfl, ?_⟩
        exact ⟨h, hx, t, b, r, rfl, hH0, SqL.of hb, lst hask, fin (.prune r) rfl rfl⟩
      · obtain ⟨x, rfl⟩ := len1 e1
        obtain rfl := len0 e2
        refine iteF (num_ne (by decide)) ?_
        refine ⟨_, rfl, rfl, _, rfl, ?_⟩
        refine iteF (num_ne (by decide)) ?_
        refine ⟨_, rfl, rfl, _, rfl, ?_⟩
        refine iteT (num_eq _) ?_
        refine ⟨_, rfl, h, hx, _, rfl, hh, no (by decide +kernel), _, rfl, _, _, _, _, rfl, rfl, SqL.of ha, atI_nat' (i := 0) rfl, ?_⟩
        exact ⟨h, hx, t, x, rfl, hH0, fin (.general x) rfl rfl⟩
      · obtain rfl := len0 e1
        obtain rfl := len0 e2
        refine iteF (num_ne (by decide)) ?_
        refine ⟨_, rfl, rfl, _, rfl, ?_⟩
        refine iteF (num_ne (by decide)) ?_
        refine ⟨_, rfl, rfl, _, rfl, ?_⟩
        refine iteF (num_ne (by decide)) ?_
        refine ⟨_, rfl, rfl, _, rfl, ?_⟩
        refine iteT (num_eq _) ?_
        refine ⟨_, rfl, h, hx, _, rfl, hh, no (by decide +kernel), ?_⟩
        exact ⟨h, hx, t, rfl, hH0, fin .shorten rfl rfl⟩
      · obtain rfl := len0 e1
        obtain rfl := len0 e2
        refine iteF (num_ne (by decide)) ?_
        refine ⟨_, rfl, rfl, _, rfl, ?_⟩
        refine iteF (num_ne (by decide)) ?_
        refine ⟨_, rfl, rfl, _, rfl, ?_⟩
        refine iteF (num_ne (by decide)) ?_
        refine ⟨_, rfl, rfl, _, rfl, ?_⟩
        refine iteF (num_ne (by decide)) ?_
        refine ⟨_, rfl, rfl, _, rfl, ?_⟩
        refine iteT (num_eq _) ?_
        refine ⟨_, rfl, h, hx, _, rfl, hh, no (by decide +kernel), ?_⟩
        exact ⟨h, hx, t, rfl, hH0, fin .short rfl rfl⟩
      · obtain rfl := len0 e1
        obtain ⟨r, r2, rfl⟩ := len2 e2
        obtain ⟨v, v2, rfl, ⟨b, rfl, fb, hb⟩, ⟨b2, rfl, fb2, hb2⟩⟩ := pair2 hP
        refine iteF (num_ne (by decide)) ?_
        refine ⟨_, rfl, rfl, _, rfl, ?_⟩
        refine iteF (num_ne (by decide)) ?_
        refine ⟨_, rfl, rfl, _, rfl, ?_⟩
        refine iteF (num_ne (by decide)) ?_
        refine ⟨_, rfl, rfl, _, rfl, ?_⟩
        refine iteF (num_ne (by decide)) ?_
        refine ⟨_, rfl, rfl, _, rfl, ?_⟩
        refine iteF (num_ne (by decide)) ?_
        refine ⟨_, rfl, rfl, _, rfl, ?_⟩
        refine iteT (num_eq _) ?_
        have hask2 : ((r.all VapcmbNeutral.whole60 && decide (r.length ≤ 2000)) && (r2.all VapcmbNeutral.whole60 && decide (r2.length ≤ 2000))) = true := hask
        rw [Bool.and_eq_true] at hask2
        refine ⟨_, rfl, h, hx, _, rfl, hh, no (by decide +kernel), _, rfl, _, _, _, _, rfl, rfl, SqL.of ha, atI_nat' (i := 0) rfl, _, rfl, _, _, _, _, rfl, rfl, SqL.of ha, atI_nat' (i := 1) rfl, ?_⟩
        exact ⟨h, hx, t, b, b2, r, r2, rfl, hH0, SqL.of hb, lst hask2.1, SqL.of hb2, lst hask2.2, fin (.order r r2) rfl rfl⟩
      · obtain rfl := len0 e1
        obtain ⟨r, rfl⟩ := len1 e2
        obtain ⟨v, rfl, b, rfl, fb, hb⟩ := pair1 hP
        refine iteF (num_ne (by decide)) ?_
        refine ⟨_, rfl, rfl, _, rfl, ?_⟩
        refine iteF (num_ne (by decide)) ?_
        refine ⟨_, rfl, rfl, _, rfl, ?_⟩
        refine iteF (num_ne (by decide)) ?_
        refine ⟨_, rfl, rfl, _, rfl, ?_⟩
        refine iteF (num_ne (by decide)) ?_
        refine ⟨_, rfl, rfl, _, rfl, ?_⟩
        refine iteF (num_ne (by decide)) ?_
        refine ⟨_, rfl, rfl, _, rfl, ?_⟩
        refine iteF (num_ne (by decide)) ?_
        refine ⟨_, rfl, rfl, _, rfl, ?_⟩
        refine iteT (num_eq _) ?_
        refine ⟨_, rfl, h, hx, _, rfl, hh, no (by decide +kernel), _, rfl, _, _, _, _, rfl, rfl, SqL.of ha, atI_nat' (i := 0) rfl, ?_⟩
        exact ⟨h, hx, t, b, r, rfl, hH0, SqL.of hb, lst hask, fin (.least r) rfl rfl⟩
      · obtain rfl := len0 e1
        obtain rfl := len0 e2
        refine iteF (num_ne (by decide)) ?_
        refine ⟨_, rfl, rfl, _, rfl, ?_⟩
        refine iteF (num_ne (by decide)) ?_
        refine ⟨_, rfl, rfl, _, rfl, ?_⟩
        refine iteF (num_ne (by decide)) ?_
        refine ⟨_, rfl, rfl, _, rfl, ?_⟩
        refine iteF (num_ne (by decide)) ?_
        refine ⟨_, rfl, rfl, _, rfl, ?_⟩
        refine iteF (num_ne (by decide)) ?_
        refine ⟨_, rfl, rfl, _, rfl, ?_⟩
        refine iteF (num_ne (by decide)) ?_
        refine ⟨_, rfl, rfl, _, rfl, ?_⟩
        refine iteF (num_ne (by decide)) ?_
        refine ⟨_, rfl, h, hx, _, rfl, hh, no (by decide +kernel), ?_⟩
        exact ⟨h, hx, t, rfl, hH0, fin .totals rfl rfl⟩
end
end Shp
end
section
set_option maxRecDepth 100000
set_option maxHeartbeats 4000000
namespace Shp
open PySem PySem.Spec PyProof.Rows L2
open Vapcma (Form Text_ Axiom)
open VapcmbNeutral (encode callOf asked1 bytesOf)
section
variable {P : Program} {w : World} {K : PySem.W.Frag} {mg : Str → Option Value} {base : Heap}
theorem rows_len {k : Nat} : ∀ {r : List Int} {xs : List (List Int)} {t : List Int}, PyFlat.rows k r = some (xs, t) → xs.length = k := by
  induction k with
  | zero => intro r xs t h; unfold PyFlat.rows at h; cases h; rfl
  | succ k ih =>
    intro r xs t h
    obtain ⟨x, s, ys, _, h2, rfl⟩ := rows_turn h
    rw [List.length_cons, ih h2]
def Shaped (c : List (List Int)) : Prop := ∃ p xs rows, c = (p :: xs) :: rows ∧ PyVapcmb.shape p = some (xs.length, rows.length)
theorem calls_shaped : ∀ {f : Nat} {l : List Int} {cs : List (List (List Int))}, PyFlat.calls PyVapcmb.shape f l = some cs → ∀ c ∈ cs, Shaped c := by
  intro f
  induction f with
  | zero =>
    intro l cs h c hc
    rcases calls_turn h with ⟨_, rfl⟩ | ⟨_, _, _, _, _, _, _, e, _⟩
    · cases hc
    · cases e
  | succ f ih =>
    intro l cs h c hc
    rcases calls_turn h with ⟨_, rfl⟩ | ⟨p, r, g, c0, t, cs', rfl, e2, e3, e4, rfl⟩
    · cases hc
    · cases e2
      rcases List.mem_cons.mp hc with rfl | hc
      · cases hs : PyVapcmb.shape p with
        | none => unfold PyFlat.call at e3; dsimp only at e3; rw [hs] at e3; cases e3
        | some nk =>
          obtain ⟨n, k⟩ := nk
          obtain ⟨hn, xs, hx, e⟩ := call_is hs e3
          refine ⟨p, r.take n, xs, e, ?_⟩
          rw [hs, rows_len hx, List.length_take]
          congr 2; omega
      · exact ih e4 c hc
theorem whole_eq {c : List (List Int)} (h : Shaped c) : PyVapcmb.whole c = c := by
  obtain ⟨p, xs, rows, rfl, hsh⟩ := h
  rcases shape_cases hsh with ⟨rfl, e⟩ | ⟨rfl, e⟩ | ⟨rfl, e⟩ | ⟨rfl, e⟩ | ⟨rfl, e⟩ | ⟨rfl, e⟩ | ⟨rfl, e⟩ | ⟨rfl, e⟩ | ⟨rfl, e⟩
  all_goals (obtain ⟨e1, e2⟩ := Prod.mk.inj e)
  · obtain ⟨r, rfl⟩ := len1 e2; rw [len0 e1]; rfl
  · rw [len0 e1, len0 e2]; rfl
  · obtain ⟨r, rfl⟩ := len1 e2; rw [len0 e1]; rfl
  · obtain ⟨x, rfl⟩ := len1 e1; rw [len0 e2]; rfl
  · rw [len0 e1, len0 e2]; rfl
  · rw [len0 e1, len0 e2]; rfl
  · obtain ⟨r, r2, rfl⟩ := len2 e2; rw [len0 e1]; rfl
  · obtain ⟨r, rfl⟩ := len1 e2; rw [len0 e1]; rfl
  · rw [len0 e1, len0 e2]; rfl
theorem whole_all {cs : List (List (List Int))} (h : ∀ c ∈ cs, Shaped c) : cs.map PyVapcmb.whole = cs := by
  refine (List.map_congr_left fun c hc => whole_eq (h c hc)).trans (List.map_id cs)
/-- what is asked of the list -/
theorem asked_is {ns : List Int} (h : PyVapcmb.answers_asked ns = true) : ∃ cs, PyFlat.calls PyVapcmb.shape ns.length ns = some cs ∧ cs.length ≤ 40 ∧ (∀ c ∈ cs, Shaped c ∧ asked1 c = true) ∧ (PyVapcmb.answers ns).length ≤ 10000000 ∧
    PyVapcmb.answers ns = PyFlat.told (PyFlat.played VapcmbNeutral.step none cs) := by
  unfold PyVapcmb.answers_asked at h
  cases hc : PyFlat.calls PyVapcmb.shape ns.length ns with
  | none => rw [hc] at h; cases h
  | some cs =>
    rw [hc] at h
    dsimp only at h
    simp only [Bool.and_eq_true] at h
    obtain ⟨⟨⟨⟨h1, h2⟩, h3⟩, h4⟩, h5⟩ := h
    have hs := calls_shaped hc
    rw [whole_all hs] at h4
    unfold VapcmbNeutral.asked at h4
    rw [Bool.and_eq_true] at h4
    refine ⟨cs, rfl, of_decide_eq_true h2, fun c hm => ⟨hs c hm, List.all_eq_true.mp h4.1 c hm⟩, of_decide_eq_true h5, ?_⟩
    unfold PyVapcmb.answers PyVapcmb.calls
    rw [hc]
    dsimp only
    rw [whole_all hs]; rfl
def sp_answers (T : Top K mg) : Sp := fun vs H Q _ => ∃ (l : Addr) (ns : List Int),
  vs = [.ref l] ∧ SqL K H l (ivs ns) ∧ ns.length ≤ 16000 ∧ PyVapcmb.answers_asked ns = true ∧ ∀ (D : Addr) (H' : Hp), Same H H' → H' D = some (.lst (ivs (PyVapcmb.answers ns))) → Q (.ref D) H'
theorem ok_answers (T : Top K mg) (TF : FaultT K T.C_Fault) : FnOk P w K mg base CX0 93 T.d_answers.f T.d_answers.fd P_answers (sp_answers T) := by
  refine T.d_answers.F.ok sc_answers (fun vs H Q E h => by obtain ⟨_, _, rfl, _⟩ := h; rfl) (fun cdv A outer s H vs Q E hr h => ?_)
  refine ⟨_, (pss_cons (ps_set (i := 1) sc_answers.nd rfl (Or.inl rfl) (pe_make0 T.m_Holder___init__.M (ok_Holder___init__ T) (hr.mono (by decide)) rfl T.mg_Holder T.m_Holder___init__.b .nil pass0))
    (pss_cons (ps_set (i := 2) sc_answers.nd rfl (Or.inl rfl) (pe_lst pa_nil))
    (pss_cons (ps_for PassesOwn.never rfl (pi_list (pe_call (ok_parted T) (hr.mono (by decide)) rfl T.d_parted.mg T.d_parted.F.kp T.d_parted.b .nil pass0 (pa_cons (pv 0) pa_nil))) (pg_name (i := 3) sc_answers.nd rfl (Or.inl rfl))
      (pss_cons (ps_set (i := 4) sc_answers.nd rfl (Or.inl rfl) (pe_call (ok_answer_one T TF) (hr.mono (by decide)) rfl T.d_answer_one.mg T.d_answer_one.F.kp T.d_answer_one.b .nil pass0 (pa_cons (pv 1) (pa_cons (pe_ix ix_tup (pv 3) pe_int (fun _ _ => rfl)) (pa_cons (pe_ix ix_tup (pv 3) pe_int (fun _ _ => rfl)) pa_nil)))))
      (pss_cons (ps_expr (pe_bm PySem.F.plainAttrs_list PySem.F.slot_list_append PySem.F.type_list_append mt_append (pv 2) (pa_cons (pe_callB call_len (by rfl) T.b_len PySem.boot_len (pa_cons (pv 4) pa_nil)) pa_nil)))
      (pss_one (ps_expr (pe_bm PySem.F.plainAttrs_list PySem.F.slot_list_extend PySem.F.type_list_extend mt_extend (pv 2) (pa_cons (pv 4) pa_nil)))))))
    (pss_one (ps_ret (pv 2)))))), ?_⟩
  obtain ⟨l, ns, rfl, hl, hz, hask, hq⟩ := h
  obtain ⟨cs, hcs, h40, hsc, h10, hans⟩ := asked_is hask
  intro h hx hh0 hhx0 hne
  refine ⟨h, hx, rfl, upd_same, fun H1 hh1 kp1 => ⟨rfl, ?_⟩⟩
  have sm1 : Same H H1 := fun c o q => kp1 c o (by rw [upd_ne (ne_of_none q hh0), upd_ne (ne_of_none q hhx0)]; exact q) (by simp; exact fun e => by rw [e, hh0] at q; cases q)
  clear kp1
  refine ⟨Nat.zero_le _, fun L hL => ?_⟩
  have hL0 : H L = none := sm1.free hL
  obtain ⟨H2, hH2⟩ : ∃ H2, H2 = upd H1 L (.lst []) := ⟨_, rfl⟩
  rw [← hH2]
  have sm2 : Same H1 H2 := by rw [hH2]; exact same_new hL
  have hL2 : H2 L = some (.lst (ivs [])) := by rw [hH2]; exact upd_same
  have hh2 := sm2 _ _ hh1
  clear hH2
  refine ⟨_, rfl, l, ns, cs, rfl, same_seqL (sm1.trans sm2) hl, hz, hcs, h40, fun U H3 us sm3 hU0 hU hP => ?_⟩
  have hul := hP.length
  have nF : ∀ y ∈ [h, L], ¬ H2 y = none := fun y hy e => by
    simp only [List.mem_cons, List.not_mem_nil, or_false] at hy
    rcases hy with rfl | rfl
    · rw [hh2] at e; cases e
    · rw [hL2] at e; cases e
  have hUn : U ∉ [h, L] := fun m => nF U m hU0
  have hhL : h ≠ L := by rintro rfl; rw [hh2] at hL2; cases hL2
  refine ⟨U, rfl, ⟨_, SqL.of hU⟩, for_list (K := K) (a := U) (xs := us) (fun i σ H' => ∃ (o : Option Text_) (acc : List Int) (v3 v4 : Option V), σ = [some (.ref l), some (.ref h), some (.ref L), v3, v4] ∧ Keep [h, L] H3 H' ∧ H' L = some (.lst (ivs acc)) ∧
      HAtG K T.C_Holder T.C_Text (fun y => y ≠ L) H' h hx o ∧ PyVapcmb.answers ns = acc ++ PyFlat.told (PyFlat.played VapcmbNeutral.step o (cs.drop i)))
    ⟨none, [], none, none, rfl, Keep.refl _ _, sm3 _ _ hL2, sm3 _ _ hh2, hans⟩ (fun i σ H' _ ⟨_, _, _, _, _, kp, _⟩ => SqL.of (kp _ _ hU hUn)) ?_ ?_⟩
  · rintro i y σ H' hy ⟨o, acc, v3, v4, rfl, kp, hLa, hH, hrun⟩
    have hi : i < cs.length := by have := (List.getElem?_eq_some_iff.mp hy).1; omega
    have hci := List.getElem?_eq_getElem hi
    obtain ⟨v, hv1, hcall⟩ := Shp.paired_get hP hci
    rw [hy] at hv1; cases hv1
    obtain ⟨hshape, hask1⟩ := hsc cs[i] (List.getElem_mem hi)
    rw [drop_cons hci] at hrun
    generalize cs[i] = c at *
    obtain ⟨Tp, a, p, xs, rows, ws, rfl, rfl, fT, fa, hT, ha, hR⟩ := hcall.keep kp nF
    obtain ⟨p', xs', rows', e, hsh⟩ := hshape
    cases e
    have hrun2 : PyVapcmb.answers ns = acc ++ ((((VapcmbNeutral.step o ((p :: xs) :: rows)).2.length : Nat) : Int) :: ((VapcmbNeutral.step o ((p :: xs) :: rows)).2 ++ PyFlat.told (PyFlat.played VapcmbNeutral.step (VapcmbNeutral.step o ((p :: xs) :: rows)).1 (cs.drop (i + 1))))) := hrun
    have hlen := congrArg List.length hrun2
    rw [List.length_append, List.length_cons, List.length_append] at hlen
    refine ⟨_, rfl, _, rfl, Tp, _, _, _, rfl, rfl, SqT.of hT, atI_nat' (i := 0) rfl, _, rfl, Tp, _, _, _, rfl, rfl, SqT.of hT, atI_nat' (i := 1) rfl, ?_⟩
    refine ⟨fun y => y ≠ L, (fun y => H2 y = none), h, hx, a, o, p, xs, rows, ws, rfl, hH, (fun y hy e => by rw [e, hLa] at hy; cases hy), ha, hR, hsh, hask1, fun D H4 hD hH4 hD4 kp4 => ?_⟩
    generalize (VapcmbNeutral.step o ((p :: xs) :: rows)).2 = ans at *
    generalize (VapcmbNeutral.step o ((p :: xs) :: rows)).1 = o2 at *
    have hLa4 : H4 L = some (.lst (ivs acc)) := kp4 _ _ hLa (by simp; exact Ne.symm hhL)
    have hDL : D ≠ L := by rintro rfl; rw [hLa] at hD; cases hD
    have hacc : acc.length + ans.length + 1 ≤ 10000000 := by omega
    have sl : sizeLine = 16777216 := rfl
    refine ⟨_, rfl, tyL hLa4, _, rfl, _, _, rfl, .inl ⟨_, SqL.of hD4, rfl⟩, L, _, _, rfl, rfl, hLa4, by rw [ivs_len, sl]; omega, ?_⟩
    rw [ivs_len]
    have hL5 : (upd H4 L (.lst (ivs acc ++ [.int ((ans.length : Nat) : Int)]))) L = some (.lst (ivs (acc ++ [((ans.length : Nat) : Int)]))) := by rw [upd_same, ivs_app]; rfl
    have hD5 : (upd H4 L (.lst (ivs acc ++ [.int ((ans.length : Nat) : Int)]))) D = some (.lst (ivs ans)) := by rw [upd_ne hDL]; exact hD4
    have kp5 : Keep [L] H4 (upd H4 L (.lst (ivs acc ++ [.int ((ans.length : Nat) : Int)]))) := Keep.upd (by simp)
    generalize upd H4 L (.lst (ivs acc ++ [.int ((ans.length : Nat) : Int)])) = H5 at *
    refine ⟨_, rfl, tyL hL5, _, rfl, L, D, _, _, rfl, rfl, hL5, hD5, by rw [ivs_len, ivs_len, List.length_append, List.length_singleton, sl]; omega, ?_⟩
    have kp6 : Keep [L] H4 (upd H5 L (.lst (ivs (acc ++ [((ans.length : Nat) : Int)]) ++ ivs ans))) := kp5.trans (Keep.upd (by simp))
    have hL6 : (upd H5 L (.lst (ivs (acc ++ [((ans.length : Nat) : Int)]) ++ ivs ans))) L = some (.lst (ivs (acc ++ ((ans.length : Nat) : Int) :: ans))) := by
      rw [upd_same, ← ivs_app, List.append_assoc]; rfl
    generalize upd H5 L (.lst (ivs (acc ++ [((ans.length : Nat) : Int)]) ++ ivs ans)) = H6 at *
    refine ⟨o2, acc ++ ((ans.length : Nat) : Int) :: ans, _, _, rfl, (kp.trans (kp4.mono (by simp))).trans (kp6.mono (by simp)), hL6, ?_, by rw [hrun2]; simp⟩
    cases o2 with
    | none =>
      have hh4 : H4 h = some (.ins T.C_Holder hx (hF .non)) := hH4
      exact kp6 _ _ hh4 (by simp; exact hhL)
    | some t =>
      obtain ⟨A, q1, q2, q3, q4⟩ := hH4
      exact ⟨A, kp6 _ _ q1 (by simp; exact hhL), q2.keep kp6 (noTup1 hLa4) (fun y hy m => q4 y m (List.mem_singleton.mp hy)), q3, q4⟩
  · rintro σ H' ⟨o, acc, v3, v4, rfl, kp, hLa, hH, hrun⟩
    rw [hul, List.drop_length] at hrun
    have e : PyVapcmb.answers ns = acc := by rw [hrun]; show acc ++ [] = acc; simp
    refine ⟨_, rfl, ?_⟩
    rw [e] at hq
    refine hq L H' ?_ hLa
    exact Keep.same ((sm1.trans sm2).trans sm3) kp (fun y hy => by
      simp only [List.mem_cons, List.not_mem_nil, or_false] at hy
      rcases hy with rfl | rfl
      · exact hh0
      · exact hL0)
end
end Shp
end
section
set_option maxRecDepth 100000
set_option maxHeartbeats 4000000
namespace Shp
open PySem PySem.Spec PyProof.Rows L2
theorem exm_own {K : PySem.W.Frag} {S : Addr} (h1 : PySem.W.subIn K (.ref S) (.type "BaseException") = some true) (h2 : PySem.W.isClsIn K S = true) (h3 : PySem.W.typeIn K (.ref S) = some (.type "type")) (h4 : PySem.W.subIn K (.ref S) (.ref S) = some true) :
    PySem.W.exmOne K (.ref S) (.ref S) = some true := by
  have h5 : (PySem.W.clsIn K S).isSome = true := h2
  unfold PySem.W.exmOne PySem.W.kitCls
  simp [h1, h3, h4, h5]
theorem vE_is {K : PySem.W.Frag} : PySem.W.findCls K (.type "Exception") (.type "type") "__init__" = some (.val (.builtin "Exception.__init__")) := by kernel_rfl
/-- the faults' class as the top has written it -/
theorem fault_mk {K : PySem.W.Frag} {C f nsA : Addr} {nm qn : Str} {bas sbc : List Value} {snm : List Str} {ab : Bool} {cll : Option Bool} {ddc od an : Option Addr} {e0 e1 e2 e3 e5 : Option Value} {sl : Array (Option Value)} {oc kV dc pm cd ct : Value}
    (xL : K.lookup C = some (excClassObj nm qn C nsA bas exTail true snm sbc ab cll ddc e0 e1 e2 e3 e5 "Exception.__new__"))
    (xs : PySem.W.findIn K (.ref C) "__setattr__" = some (some (.builtin "object.__setattr__"))) (xb : PySem.W.subIn K (.ref C) (.type "BaseException") = some true) (xt : PySem.W.typeIn K (.ref C) = some (.type "type")) (xk : PySem.W.keepIn K (.ref C) = true)
    (xi : PySem.W.findIn K (.ref C) "__init__" = some (some (.ref f))) (xf : PySem.W.typeIn K (.ref f) = some (.type "function"))
    (xl : K.lookup f = some ⟨oc, od, .func (PySem.W.fnOf "__init__" "Fault.__init__" (defArgs s_Fault___init__) (defBody s_Fault___init__) (defScope s_Fault___init__) .none kV dc pm an cd ct), sl⟩) (xc : PySem.W.codeIn K cd "Fault.__init__" = true) (xq : PySem.W.keepIn K (.ref f) = true)
    (xC : PySem.W.findIn K (.ref C) "code" = some none) (xP : PySem.W.findIn K (.ref C) "place" = some none)
    (xga : PySem.W.findIn K (.ref C) "__getattribute__" = some (some (.builtin "BaseException.__getattribute__"))) (xgg : PySem.W.findIn K (.ref C) "__getattr__" = some none) (xh : PySem.W.hasDictIn K C = true)
    (xn : PySem.W.isClsIn K C = true) (xx : PySem.W.subIn K (.ref C) (.ref C) = some true) : Nonempty (FaultT K C) := by
  have F := fun_mk (st := s_Fault___init__) xl xc xq
  have b := F.binds (ps := P_Fault___init__) fun _ _ _ _ _ _ us hl => match us, hl with | [_, _, _], _ => rfl
  exact ⟨{ f := f, fd := _, own := ⟨⟨nm, qn, nsA, bas, snm, sbc, ab, cll, ddc, e0, e1, e2, e3, e5, ⟨xL⟩⟩, xs, xb, xt, xk⟩, iC := xi, tI := xf, F := F, b := b, vE := vE_is, nC := xC, nP := xP, xf := ⟨xga, xgg, xb, xh⟩, te := exm_own xb xn xt xx }⟩
end Shp
end
section
set_option maxRecDepth 100000
set_option maxHeartbeats 40000000
namespace Shp
open PySem PySem.Spec PyProof.Rows L2
theorem top_mk {K : PySem.W.Frag} {h : Heap} {mg : Str → Option Value} (X : K.In h) (G : h.Ns mainGlobals mg)
    {C_Fault : Addr}
    {f1 : Addr} {od1 an1 : Option Addr} {sl1 : Array (Option Value)} {oc1 kV1 dc1 pm1 cd1 ct1 : Value}
    {nsA : Addr} {nm qn : Str} {bas sbc : List Value} {snm : List Str} {ab : Bool} {cll : Option Bool} {ddc : Option Addr} {e0 e1 e2 e3 e5 : Option Value}
    {C_Nodes : Addr}
    {f2 : Addr} {od2 an2 : Option Addr} {sl2 : Array (Option Value)} {oc2 kV2 dc2 pm2 cd2 ct2 : Value}
    {f3 : Addr} {od3 an3 : Option Addr} {sl3 : Array (Option Value)} {oc3 kV3 dc3 pm3 cd3 ct3 : Value}
    {f4 : Addr} {od4 an4 : Option Addr} {sl4 : Array (Option Value)} {oc4 kV4 dc4 pm4 cd4 ct4 : Value}
    {f5 : Addr} {od5 an5 : Option Addr} {sl5 : Array (Option Value)} {oc5 kV5 dc5 pm5 cd5 ct5 : Value}
    {f6 : Addr} {od6 an6 : Option Addr} {sl6 : Array (Option Value)} {oc6 kV6 dc6 pm6 cd6 ct6 : Value}
    {f7 : Addr} {od7 an7 : Option Addr} {sl7 : Array (Option Value)} {oc7 kV7 dc7 pm7 cd7 ct7 : Value}
    {f8 : Addr} {od8 an8 : Option Addr} {sl8 : Array (Option Value)} {oc8 kV8 dc8 pm8 cd8 ct8 : Value}
    {f9 : Addr} {od9 an9 : Option Addr} {sl9 : Array (Option Value)} {oc9 kV9 dc9 pm9 cd9 ct9 : Value}
    {C_Text : Addr}
    {f10 : Addr} {od10 an10 : Option Addr} {sl10 : Array (Option Value)} {oc10 kV10 dc10 pm10 cd10 ct10 : Value}
    {f11 : Addr} {od11 an11 : Option Addr} {sl11 : Array (Option Value)} {oc11 kV11 dc11 pm11 cd11 ct11 : Value}
    {f12 : Addr} {od12 an12 : Option Addr} {sl12 : Array (Option Value)} {oc12 kV12 dc12 pm12 cd12 ct12 : Value}
    {f13 : Addr} {od13 an13 : Option Addr} {sl13 : Array (Option Value)} {oc13 kV13 dc13 pm13 cd13 ct13 : Value}
    {f14 : Addr} {od14 an14 : Option Addr} {sl14 : Array (Option Value)} {oc14 kV14 dc14 pm14 cd14 ct14 : Value}
    {f15 : Addr} {od15 an15 : Option Addr} {sl15 : Array (Option Value)} {oc15 kV15 dc15 pm15 cd15 ct15 : Value}
    {f16 : Addr} {od16 an16 : Option Addr} {sl16 : Array (Option Value)} {oc16 kV16 dc16 pm16 cd16 ct16 : Value}
    {C_NeededRows : Addr}
    {f17 : Addr} {od17 an17 : Option Addr} {sl17 : Array (Option Value)} {oc17 kV17 dc17 pm17 cd17 ct17 : Value}
    {f18 : Addr} {od18 an18 : Option Addr} {sl18 : Array (Option Value)} {oc18 kV18 dc18 pm18 cd18 ct18 : Value}
    {f19 : Addr} {od19 an19 : Option Addr} {sl19 : Array (Option Value)} {oc19 kV19 dc19 pm19 cd19 ct19 : Value}
    {f20 : Addr} {od20 an20 : Option Addr} {sl20 : Array (Option Value)} {oc20 kV20 dc20 pm20 cd20 ct20 : Value}
    {f21 : Addr} {od21 an21 : Option Addr} {sl21 : Array (Option Value)} {oc21 kV21 dc21 pm21 cd21 ct21 : Value}
    {C_Reader : Addr}
    {f22 : Addr} {od22 an22 : Option Addr} {sl22 : Array (Option Value)} {oc22 kV22 dc22 pm22 cd22 ct22 : Value}
    {f23 : Addr} {od23 an23 : Option Addr} {sl23 : Array (Option Value)} {oc23 kV23 dc23 pm23 cd23 ct23 : Value}
    {f24 : Addr} {od24 an24 : Option Addr} {sl24 : Array (Option Value)} {oc24 kV24 dc24 pm24 cd24 ct24 : Value}
    {f25 : Addr} {od25 an25 : Option Addr} {sl25 : Array (Option Value)} {oc25 kV25 dc25 pm25 cd25 ct25 : Value}
    {f26 : Addr} {od26 an26 : Option Addr} {sl26 : Array (Option Value)} {oc26 kV26 dc26 pm26 cd26 ct26 : Value}
    {f27 : Addr} {od27 an27 : Option Addr} {sl27 : Array (Option Value)} {oc27 kV27 dc27 pm27 cd27 ct27 : Value}
    {C_Holder : Addr}
    {f28 : Addr} {od28 an28 : Option Addr} {sl28 : Array (Option Value)} {oc28 kV28 dc28 pm28 cd28 ct28 : Value}
    {f29 : Addr} {od29 an29 : Option Addr} {sl29 : Array (Option Value)} {oc29 kV29 dc29 pm29 cd29 ct29 : Value}
    {f30 : Addr} {od30 an30 : Option Addr} {sl30 : Array (Option Value)} {oc30 kV30 dc30 pm30 cd30 ct30 : Value}
    {f31 : Addr} {od31 an31 : Option Addr} {sl31 : Array (Option Value)} {oc31 kV31 dc31 pm31 cd31 ct31 : Value}
    {f32 : Addr} {od32 an32 : Option Addr} {sl32 : Array (Option Value)} {oc32 kV32 dc32 pm32 cd32 ct32 : Value}
    {f33 : Addr} {od33 an33 : Option Addr} {sl33 : Array (Option Value)} {oc33 kV33 dc33 pm33 cd33 ct33 : Value}
    {f34 : Addr} {od34 an34 : Option Addr} {sl34 : Array (Option Value)} {oc34 kV34 dc34 pm34 cd34 ct34 : Value}
    {f35 : Addr} {od35 an35 : Option Addr} {sl35 : Array (Option Value)} {oc35 kV35 dc35 pm35 cd35 ct35 : Value}
    {f36 : Addr} {od36 an36 : Option Addr} {sl36 : Array (Option Value)} {oc36 kV36 dc36 pm36 cd36 ct36 : Value}
    {f37 : Addr} {od37 an37 : Option Addr} {sl37 : Array (Option Value)} {oc37 kV37 dc37 pm37 cd37 ct37 : Value}
    {f38 : Addr} {od38 an38 : Option Addr} {sl38 : Array (Option Value)} {oc38 kV38 dc38 pm38 cd38 ct38 : Value}
    {f39 : Addr} {od39 an39 : Option Addr} {sl39 : Array (Option Value)} {oc39 kV39 dc39 pm39 cd39 ct39 : Value}
    {f40 : Addr} {od40 an40 : Option Addr} {sl40 : Array (Option Value)} {oc40 kV40 dc40 pm40 cd40 ct40 : Value}
    {f41 : Addr} {od41 an41 : Option Addr} {sl41 : Array (Option Value)} {oc41 kV41 dc41 pm41 cd41 ct41 : Value}
    {f42 : Addr} {od42 an42 : Option Addr} {sl42 : Array (Option Value)} {oc42 kV42 dc42 pm42 cd42 ct42 : Value}
    {f43 : Addr} {od43 an43 : Option Addr} {sl43 : Array (Option Value)} {oc43 kV43 dc43 pm43 cd43 ct43 : Value}
    {f44 : Addr} {od44 an44 : Option Addr} {sl44 : Array (Option Value)} {oc44 kV44 dc44 pm44 cd44 ct44 : Value}
    {f45 : Addr} {od45 an45 : Option Addr} {sl45 : Array (Option Value)} {oc45 kV45 dc45 pm45 cd45 ct45 : Value}
    {f46 : Addr} {od46 an46 : Option Addr} {sl46 : Array (Option Value)} {oc46 kV46 dc46 pm46 cd46 ct46 : Value}
    {f47 : Addr} {od47 an47 : Option Addr} {sl47 : Array (Option Value)} {oc47 kV47 dc47 pm47 cd47 ct47 : Value}
    {f48 : Addr} {od48 an48 : Option Addr} {sl48 : Array (Option Value)} {oc48 kV48 dc48 pm48 cd48 ct48 : Value}
    {f49 : Addr} {od49 an49 : Option Addr} {sl49 : Array (Option Value)} {oc49 kV49 dc49 pm49 cd49 ct49 : Value}
    {f50 : Addr} {od50 an50 : Option Addr} {sl50 : Array (Option Value)} {oc50 kV50 dc50 pm50 cd50 ct50 : Value}
    {f51 : Addr} {od51 an51 : Option Addr} {sl51 : Array (Option Value)} {oc51 kV51 dc51 pm51 cd51 ct51 : Value}
    {f52 : Addr} {od52 an52 : Option Addr} {sl52 : Array (Option Value)} {oc52 kV52 dc52 pm52 cd52 ct52 : Value}
    {f53 : Addr} {od53 an53 : Option Addr} {sl53 : Array (Option Value)} {oc53 kV53 dc53 pm53 cd53 ct53 : Value}
    {f54 : Addr} {od54 an54 : Option Addr} {sl54 : Array (Option Value)} {oc54 kV54 dc54 pm54 cd54 ct54 : Value}
    {f55 : Addr} {od55 an55 : Option Addr} {sl55 : Array (Option Value)} {oc55 kV55 dc55 pm55 cd55 ct55 : Value}
    {f56 : Addr} {od56 an56 : Option Addr} {sl56 : Array (Option Value)} {oc56 kV56 dc56 pm56 cd56 ct56 : Value}
    {f57 : Addr} {od57 an57 : Option Addr} {sl57 : Array (Option Value)} {oc57 kV57 dc57 pm57 cd57 ct57 : Value}
    {f58 : Addr} {od58 an58 : Option Addr} {sl58 : Array (Option Value)} {oc58 kV58 dc58 pm58 cd58 ct58 : Value}
    {f59 : Addr} {od59 an59 : Option Addr} {sl59 : Array (Option Value)} {oc59 kV59 dc59 pm59 cd59 ct59 : Value}
    {f60 : Addr} {od60 an60 : Option Addr} {sl60 : Array (Option Value)} {oc60 kV60 dc60 pm60 cd60 ct60 : Value}
    {f61 : Addr} {od61 an61 : Option Addr} {sl61 : Array (Option Value)} {oc61 kV61 dc61 pm61 cd61 ct61 : Value}
    {f62 : Addr} {od62 an62 : Option Addr} {sl62 : Array (Option Value)} {oc62 kV62 dc62 pm62 cd62 ct62 : Value}
    {f63 : Addr} {od63 an63 : Option Addr} {sl63 : Array (Option Value)} {oc63 kV63 dc63 pm63 cd63 ct63 : Value}
    {f64 : Addr} {od64 an64 : Option Addr} {sl64 : Array (Option Value)} {oc64 kV64 dc64 pm64 cd64 ct64 : Value}
    {f65 : Addr} {od65 an65 : Option Addr} {sl65 : Array (Option Value)} {oc65 kV65 dc65 pm65 cd65 ct65 : Value}
    {f66 : Addr} {od66 an66 : Option Addr} {sl66 : Array (Option Value)} {oc66 kV66 dc66 pm66 cd66 ct66 : Value}
    {f67 : Addr} {od67 an67 : Option Addr} {sl67 : Array (Option Value)} {oc67 kV67 dc67 pm67 cd67 ct67 : Value}
    {f68 : Addr} {od68 an68 : Option Addr} {sl68 : Array (Option Value)} {oc68 kV68 dc68 pm68 cd68 ct68 : Value}
    {f69 : Addr} {od69 an69 : Option Addr} {sl69 : Array (Option Value)} {oc69 kV69 dc69 pm69 cd69 ct69 : Value}
    {f70 : Addr} {od70 an70 : Option Addr} {sl70 : Array (Option Value)} {oc70 kV70 dc70 pm70 cd70 ct70 : Value}
    {f71 : Addr} {od71 an71 : Option Addr} {sl71 : Array (Option Value)} {oc71 kV71 dc71 pm71 cd71 ct71 : Value}
    {f72 : Addr} {od72 an72 : Option Addr} {sl72 : Array (Option Value)} {oc72 kV72 dc72 pm72 cd72 ct72 : Value}
    {f73 : Addr} {od73 an73 : Option Addr} {sl73 : Array (Option Value)} {oc73 kV73 dc73 pm73 cd73 ct73 : Value}
    {f74 : Addr} {od74 an74 : Option Addr} {sl74 : Array (Option Value)} {oc74 kV74 dc74 pm74 cd74 ct74 : Value}
    {f75 : Addr} {od75 an75 : Option Addr} {sl75 : Array (Option Value)} {oc75 kV75 dc75 pm75 cd75 ct75 : Value}
    {f76 : Addr} {od76 an76 : Option Addr} {sl76 : Array (Option Value)} {oc76 kV76 dc76 pm76 cd76 ct76 : Value}
    {f77 : Addr} {od77 an77 : Option Addr} {sl77 : Array (Option Value)} {oc77 kV77 dc77 pm77 cd77 ct77 : Value}
    {f78 : Addr} {od78 an78 : Option Addr} {sl78 : Array (Option Value)} {oc78 kV78 dc78 pm78 cd78 ct78 : Value}
    {f79 : Addr} {od79 an79 : Option Addr} {sl79 : Array (Option Value)} {oc79 kV79 dc79 pm79 cd79 ct79 : Value}
    {f80 : Addr} {od80 an80 : Option Addr} {sl80 : Array (Option Value)} {oc80 kV80 dc80 pm80 cd80 ct80 : Value}
    {f81 : Addr} {od81 an81 : Option Addr} {sl81 : Array (Option Value)} {oc81 kV81 dc81 pm81 cd81 ct81 : Value}
    {f82 : Addr} {od82 an82 : Option Addr} {sl82 : Array (Option Value)} {oc82 kV82 dc82 pm82 cd82 ct82 : Value}
    {f83 : Addr} {od83 an83 : Option Addr} {sl83 : Array (Option Value)} {oc83 kV83 dc83 pm83 cd83 ct83 : Value}
    {t_TEXT_TOO_LONG : Tok}
    {t_NO_TOKEN : Tok}
    {t_NOT_ALLOWED : Tok}
    {t_ONE_TOO_MANY : Tok}
    {t_NAME_TAKEN : Tok}
    {t_NAME_UNKNOWN : Tok}
    {t_TOO_MANY_SIGNS : Tok}
    {t_TOO_DEEP : Tok}
    {t_IMPLIES : Tok}
    {t_DENIES : Tok}
    {t_FIRST_UNKNOWN : Tok}
    {t_MOST_SIGNS_ON_THE_WAY : Tok}
    {t_MOST_SIGNS_DETACHED : Tok}
    {t_LETTERS : Tok}
    {t_DIGITS : Tok}
    {t_SIGNS : Tok}
    {t_BLANKS : Tok}
    {t_REMARK : Tok}
    {t_OTHER : Tok}
    {r_RESERVED : Addr} {od_RESERVED : Option Addr} {n_RESERVED : Nat} {sl_RESERVED : Array (Option Value)} {u_RESERVED_0 : Tok} {u_RESERVED_1 : Tok} {u_RESERVED_2 : Tok}
    {t_LONGEST_NAME : Tok}
    {t_GREATEST_NUMBER : Tok}
    {t_MOST_DIGITS : Tok}
    {t_END : Tok}
    {t_MOST_BYTES : Tok}
    {t_MOST_AXIOMS : Tok}
    {t_MOST_ROWS : Tok}
    {t_MOST_GOALS : Tok}
    {t_MOST_SIGNS : Tok}
    {t_MOST_WITHIN : Tok}
    {t_LOAD : Tok}
    {t_SHOWN : Tok}
    {t_PRUNE : Tok}
    {t_GENERAL : Tok}
    {t_SHORTEN : Tok}
    {t_SHORT : Tok}
    {t_ORDER : Tok}
    {t_LEAST : Tok}
    {r_SHAPES : Addr} {od_SHAPES : Option Addr} {n_SHAPES : Nat} {sl_SHAPES : Array (Option Value)} {w_0 : Addr} {ow_0 : Option Addr} {nw_0 : Nat} {sw_0 : Array (Option Value)} {uw_0 vw_0 : Tok} {w_1 : Addr} {ow_1 : Option Addr} {nw_1 : Nat} {sw_1 : Array (Option Value)} {uw_1 vw_1 : Tok} {w_2 : Addr} {ow_2 : Option Addr} {nw_2 : Nat} {sw_2 : Array (Option Value)} {uw_2 vw_2 : Tok} {w_3 : Addr} {ow_3 : Option Addr} {nw_3 : Nat} {sw_3 : Array (Option Value)} {uw_3 vw_3 : Tok} {w_4 : Addr} {ow_4 : Option Addr} {nw_4 : Nat} {sw_4 : Array (Option Value)} {uw_4 vw_4 : Tok} {w_5 : Addr} {ow_5 : Option Addr} {nw_5 : Nat} {sw_5 : Array (Option Value)} {uw_5 vw_5 : Tok} {w_6 : Addr} {ow_6 : Option Addr} {nw_6 : Nat} {sw_6 : Array (Option Value)} {uw_6 vw_6 : Tok} {w_7 : Addr} {ow_7 : Option Addr} {nw_7 : Nat} {sw_7 : Array (Option Value)} {uw_7 vw_7 : Tok} {w_8 : Addr} {ow_8 : Option Addr} {nw_8 : Nat} {sw_8 : Array (Option Value)} {uw_8 vw_8 : Tok}
    {t_MOST_ROWS_IN_ORDER : Tok}
    (aC_Fault : PySem.W.nsIn K mainGlobals "Fault" = some (some (.ref C_Fault)))
    (eI : PySem.W.findIn K (.ref C_Fault) "__init__" = some (some (.ref f1)))
    (l1 : K.lookup f1 = some ⟨oc1, od1, .func (PySem.W.fnOf "__init__" "Fault.__init__" (defArgs s_Fault___init__) (defBody s_Fault___init__) (defScope s_Fault___init__) .none kV1 dc1 pm1 an1 cd1 ct1), sl1⟩)
    (c1 : PySem.W.codeIn K cd1 "Fault.__init__" = true)
    (k1 : PySem.W.keepIn K (.ref f1) = true)
    (eT : PySem.W.typeIn K (.ref f1) = some (.type "function"))
    (eC : PySem.W.findIn K (.ref C_Fault) "code" = some none)
    (eP : PySem.W.findIn K (.ref C_Fault) "place" = some none)
    (xL : K.lookup C_Fault = some (excClassObj nm qn C_Fault nsA bas exTail true snm sbc ab cll ddc e0 e1 e2 e3 e5 "Exception.__new__"))
    (xs : PySem.W.findIn K (.ref C_Fault) "__setattr__" = some (some (.builtin "object.__setattr__")))
    (xb : PySem.W.subIn K (.ref C_Fault) (.type "BaseException") = some true)
    (xt : PySem.W.typeIn K (.ref C_Fault) = some (.type "type"))
    (xk : PySem.W.keepIn K (.ref C_Fault) = true)
    (xga : PySem.W.findIn K (.ref C_Fault) "__getattribute__" = some (some (.builtin "BaseException.__getattribute__")))
    (xgg : PySem.W.findIn K (.ref C_Fault) "__getattr__" = some none)
    (xh : PySem.W.hasDictIn K C_Fault = true)
    (xn : PySem.W.isClsIn K C_Fault = true)
    (xx : PySem.W.subIn K (.ref C_Fault) (.ref C_Fault) = some true)
    (aC_Nodes : PySem.W.nsIn K mainGlobals "Nodes" = some (some (.ref C_Nodes)))
    (pg_Nodes : PySem.W.plainGet K C_Nodes Str.empty = true)
    (hd_Nodes : PySem.W.hasDictIn K C_Nodes = true)
    (po_Nodes : PySem.W.plainOver K C_Nodes = true)
    (sa_Nodes : PySem.W.findIn K (.ref C_Nodes) "__setattr__" = some (some (.builtin "object.__setattr__")))
    (n_Nodes_signs : PySem.W.findIn K (.ref C_Nodes) "signs" = some none)
    (n_Nodes_parts : PySem.W.findIn K (.ref C_Nodes) "parts" = some none)
    (n_Nodes_joined : PySem.W.findIn K (.ref C_Nodes) "joined" = some none)
    (a2 : PySem.W.findIn K (.ref C_Nodes) "__init__" = some (some (.ref f2)))
    (i2 : PySem.W.isFn K (.ref f2) = true)
    (l2 : K.lookup f2 = some ⟨oc2, od2, .func (PySem.W.fnOf "__init__" "Nodes.__init__" (defArgs s_Nodes___init__) (defBody s_Nodes___init__) (defScope s_Nodes___init__) .none kV2 dc2 pm2 an2 cd2 ct2), sl2⟩)
    (c2 : PySem.W.codeIn K cd2 "Nodes.__init__" = true)
    (k2 : PySem.W.keepIn K (.ref f2) = true)
    (mk_Nodes : PySem.W.makesIn K C_Nodes = true)
    (kc_Nodes : PySem.W.keepIn K (.ref C_Nodes) = true)
    (a3 : PySem.W.findIn K (.ref C_Nodes) "add_node" = some (some (.ref f3)))
    (i3 : PySem.W.isFn K (.ref f3) = true)
    (l3 : K.lookup f3 = some ⟨oc3, od3, .func (PySem.W.fnOf "add_node" "Nodes.add_node" (defArgs s_Nodes_add_node) (defBody s_Nodes_add_node) (defScope s_Nodes_add_node) .none kV3 dc3 pm3 an3 cd3 ct3), sl3⟩)
    (c3 : PySem.W.codeIn K cd3 "Nodes.add_node" = true)
    (k3 : PySem.W.keepIn K (.ref f3) = true)
    (a4 : PySem.W.findIn K (.ref C_Nodes) "add_formula" = some (some (.ref f4)))
    (i4 : PySem.W.isFn K (.ref f4) = true)
    (l4 : K.lookup f4 = some ⟨oc4, od4, .func (PySem.W.fnOf "add_formula" "Nodes.add_formula" (defArgs s_Nodes_add_formula) (defBody s_Nodes_add_formula) (defScope s_Nodes_add_formula) .none kV4 dc4 pm4 an4 cd4 ct4), sl4⟩)
    (c4 : PySem.W.codeIn K cd4 "Nodes.add_formula" = true)
    (k4 : PySem.W.keepIn K (.ref f4) = true)
    (a5 : PySem.W.findIn K (.ref C_Nodes) "leader" = some (some (.ref f5)))
    (i5 : PySem.W.isFn K (.ref f5) = true)
    (l5 : K.lookup f5 = some ⟨oc5, od5, .func (PySem.W.fnOf "leader" "Nodes.leader" (defArgs s_Nodes_leader) (defBody s_Nodes_leader) (defScope s_Nodes_leader) .none kV5 dc5 pm5 an5 cd5 ct5), sl5⟩)
    (c5 : PySem.W.codeIn K cd5 "Nodes.leader" = true)
    (k5 : PySem.W.keepIn K (.ref f5) = true)
    (a6 : PySem.W.findIn K (.ref C_Nodes) "part_leaders" = some (some (.ref f6)))
    (i6 : PySem.W.isFn K (.ref f6) = true)
    (l6 : K.lookup f6 = some ⟨oc6, od6, .func (PySem.W.fnOf "part_leaders" "Nodes.part_leaders" (defArgs s_Nodes_part_leaders) (defBody s_Nodes_part_leaders) (defScope s_Nodes_part_leaders) .none kV6 dc6 pm6 an6 cd6 ct6), sl6⟩)
    (c6 : PySem.W.codeIn K cd6 "Nodes.part_leaders" = true)
    (k6 : PySem.W.keepIn K (.ref f6) = true)
    (a7 : PySem.W.findIn K (.ref C_Nodes) "make_same" = some (some (.ref f7)))
    (i7 : PySem.W.isFn K (.ref f7) = true)
    (l7 : K.lookup f7 = some ⟨oc7, od7, .func (PySem.W.fnOf "make_same" "Nodes.make_same" (defArgs s_Nodes_make_same) (defBody s_Nodes_make_same) (defScope s_Nodes_make_same) .none kV7 dc7 pm7 an7 cd7 ct7), sl7⟩)
    (c7 : PySem.W.codeIn K cd7 "Nodes.make_same" = true)
    (k7 : PySem.W.keepIn K (.ref f7) = true)
    (a8 : PySem.W.findIn K (.ref C_Nodes) "sign_count" = some (some (.ref f8)))
    (i8 : PySem.W.isFn K (.ref f8) = true)
    (l8 : K.lookup f8 = some ⟨oc8, od8, .func (PySem.W.fnOf "sign_count" "Nodes.sign_count" (defArgs s_Nodes_sign_count) (defBody s_Nodes_sign_count) (defScope s_Nodes_sign_count) .none kV8 dc8 pm8 an8 cd8 ct8), sl8⟩)
    (c8 : PySem.W.codeIn K cd8 "Nodes.sign_count" = true)
    (k8 : PySem.W.keepIn K (.ref f8) = true)
    (a9 : PySem.W.findIn K (.ref C_Nodes) "written" = some (some (.ref f9)))
    (i9 : PySem.W.isFn K (.ref f9) = true)
    (l9 : K.lookup f9 = some ⟨oc9, od9, .func (PySem.W.fnOf "written" "Nodes.written" (defArgs s_Nodes_written) (defBody s_Nodes_written) (defScope s_Nodes_written) .none kV9 dc9 pm9 an9 cd9 ct9), sl9⟩)
    (c9 : PySem.W.codeIn K cd9 "Nodes.written" = true)
    (k9 : PySem.W.keepIn K (.ref f9) = true)
    (aC_Text : PySem.W.nsIn K mainGlobals "Text" = some (some (.ref C_Text)))
    (pg_Text : PySem.W.plainGet K C_Text Str.empty = true)
    (hd_Text : PySem.W.hasDictIn K C_Text = true)
    (po_Text : PySem.W.plainOver K C_Text = true)
    (sa_Text : PySem.W.findIn K (.ref C_Text) "__setattr__" = some (some (.builtin "object.__setattr__")))
    (n_Text_names : PySem.W.findIn K (.ref C_Text) "names" = some none)
    (n_Text_sources : PySem.W.findIn K (.ref C_Text) "sources" = some none)
    (n_Text_formulas : PySem.W.findIn K (.ref C_Text) "formulas" = some none)
    (n_Text_goals : PySem.W.findIn K (.ref C_Text) "goals" = some none)
    (a10 : PySem.W.findIn K (.ref C_Text) "__init__" = some (some (.ref f10)))
    (i10 : PySem.W.isFn K (.ref f10) = true)
    (l10 : K.lookup f10 = some ⟨oc10, od10, .func (PySem.W.fnOf "__init__" "Text.__init__" (defArgs s_Text___init__) (defBody s_Text___init__) (defScope s_Text___init__) .none kV10 dc10 pm10 an10 cd10 ct10), sl10⟩)
    (c10 : PySem.W.codeIn K cd10 "Text.__init__" = true)
    (k10 : PySem.W.keepIn K (.ref f10) = true)
    (mk_Text : PySem.W.makesIn K C_Text = true)
    (kc_Text : PySem.W.keepIn K (.ref C_Text) = true)
    (a11 : PySem.W.findIn K (.ref C_Text) "add_item" = some (some (.ref f11)))
    (i11 : PySem.W.isFn K (.ref f11) = true)
    (l11 : K.lookup f11 = some ⟨oc11, od11, .func (PySem.W.fnOf "add_item" "Text.add_item" (defArgs s_Text_add_item) (defBody s_Text_add_item) (defScope s_Text_add_item) .none kV11 dc11 pm11 an11 cd11 ct11), sl11⟩)
    (c11 : PySem.W.codeIn K cd11 "Text.add_item" = true)
    (k11 : PySem.W.keepIn K (.ref f11) = true)
    (a12 : PySem.W.findIn K (.ref C_Text) "has_item" = some (some (.ref f12)))
    (i12 : PySem.W.isFn K (.ref f12) = true)
    (l12 : K.lookup f12 = some ⟨oc12, od12, .func (PySem.W.fnOf "has_item" "Text.has_item" (defArgs s_Text_has_item) (defBody s_Text_has_item) (defScope s_Text_has_item) .none kV12 dc12 pm12 an12 cd12 ct12), sl12⟩)
    (c12 : PySem.W.codeIn K cd12 "Text.has_item" = true)
    (k12 : PySem.W.keepIn K (.ref f12) = true)
    (a13 : PySem.W.findIn K (.ref C_Text) "has_items" = some (some (.ref f13)))
    (i13 : PySem.W.isFn K (.ref f13) = true)
    (l13 : K.lookup f13 = some ⟨oc13, od13, .func (PySem.W.fnOf "has_items" "Text.has_items" (defArgs s_Text_has_items) (defBody s_Text_has_items) (defScope s_Text_has_items) .none kV13 dc13 pm13 an13 cd13 ct13), sl13⟩)
    (c13 : PySem.W.codeIn K cd13 "Text.has_items" = true)
    (k13 : PySem.W.keepIn K (.ref f13) = true)
    (a14 : PySem.W.findIn K (.ref C_Text) "axiom_count" = some (some (.ref f14)))
    (i14 : PySem.W.isFn K (.ref f14) = true)
    (l14 : K.lookup f14 = some ⟨oc14, od14, .func (PySem.W.fnOf "axiom_count" "Text.axiom_count" (defArgs s_Text_axiom_count) (defBody s_Text_axiom_count) (defScope s_Text_axiom_count) .none kV14 dc14 pm14 an14 cd14 ct14), sl14⟩)
    (c14 : PySem.W.codeIn K cd14 "Text.axiom_count" = true)
    (k14 : PySem.W.keepIn K (.ref f14) = true)
    (a15 : PySem.W.findIn K (.ref C_Text) "row_count" = some (some (.ref f15)))
    (i15 : PySem.W.isFn K (.ref f15) = true)
    (l15 : K.lookup f15 = some ⟨oc15, od15, .func (PySem.W.fnOf "row_count" "Text.row_count" (defArgs s_Text_row_count) (defBody s_Text_row_count) (defScope s_Text_row_count) .none kV15 dc15 pm15 an15 cd15 ct15), sl15⟩)
    (c15 : PySem.W.codeIn K cd15 "Text.row_count" = true)
    (k15 : PySem.W.keepIn K (.ref f15) = true)
    (a16 : PySem.W.findIn K (.ref C_Text) "detached_from" = some (some (.ref f16)))
    (i16 : PySem.W.isFn K (.ref f16) = true)
    (l16 : K.lookup f16 = some ⟨oc16, od16, .func (PySem.W.fnOf "detached_from" "Text.detached_from" (defArgs s_Text_detached_from) (defBody s_Text_detached_from) (defScope s_Text_detached_from) .none kV16 dc16 pm16 an16 cd16 ct16), sl16⟩)
    (c16 : PySem.W.codeIn K cd16 "Text.detached_from" = true)
    (k16 : PySem.W.keepIn K (.ref f16) = true)
    (aC_NeededRows : PySem.W.nsIn K mainGlobals "NeededRows" = some (some (.ref C_NeededRows)))
    (pg_NeededRows : PySem.W.plainGet K C_NeededRows Str.empty = true)
    (hd_NeededRows : PySem.W.hasDictIn K C_NeededRows = true)
    (po_NeededRows : PySem.W.plainOver K C_NeededRows = true)
    (sa_NeededRows : PySem.W.findIn K (.ref C_NeededRows) "__setattr__" = some (some (.builtin "object.__setattr__")))
    (n_NeededRows_rows : PySem.W.findIn K (.ref C_NeededRows) "rows" = some none)
    (n_NeededRows_wished : PySem.W.findIn K (.ref C_NeededRows) "wished" = some none)
    (n_NeededRows_sources : PySem.W.findIn K (.ref C_NeededRows) "sources" = some none)
    (n_NeededRows_users : PySem.W.findIn K (.ref C_NeededRows) "users" = some none)
    (a17 : PySem.W.findIn K (.ref C_NeededRows) "__init__" = some (some (.ref f17)))
    (i17 : PySem.W.isFn K (.ref f17) = true)
    (l17 : K.lookup f17 = some ⟨oc17, od17, .func (PySem.W.fnOf "__init__" "NeededRows.__init__" (defArgs s_NeededRows___init__) (defBody s_NeededRows___init__) (defScope s_NeededRows___init__) .none kV17 dc17 pm17 an17 cd17 ct17), sl17⟩)
    (c17 : PySem.W.codeIn K cd17 "NeededRows.__init__" = true)
    (k17 : PySem.W.keepIn K (.ref f17) = true)
    (mk_NeededRows : PySem.W.makesIn K C_NeededRows = true)
    (kc_NeededRows : PySem.W.keepIn K (.ref C_NeededRows) = true)
    (a18 : PySem.W.findIn K (.ref C_NeededRows) "can_be_next" = some (some (.ref f18)))
    (i18 : PySem.W.isFn K (.ref f18) = true)
    (l18 : K.lookup f18 = some ⟨oc18, od18, .func (PySem.W.fnOf "can_be_next" "NeededRows.can_be_next" (defArgs s_NeededRows_can_be_next) (defBody s_NeededRows_can_be_next) (defScope s_NeededRows_can_be_next) .none kV18 dc18 pm18 an18 cd18 ct18), sl18⟩)
    (c18 : PySem.W.codeIn K cd18 "NeededRows.can_be_next" = true)
    (k18 : PySem.W.keepIn K (.ref f18) = true)
    (a19 : PySem.W.findIn K (.ref C_NeededRows) "next_bits" = some (some (.ref f19)))
    (i19 : PySem.W.isFn K (.ref f19) = true)
    (l19 : K.lookup f19 = some ⟨oc19, od19, .func (PySem.W.fnOf "next_bits" "NeededRows.next_bits" (defArgs s_NeededRows_next_bits) (defBody s_NeededRows_next_bits) (defScope s_NeededRows_next_bits) .none kV19 dc19 pm19 an19 cd19 ct19), sl19⟩)
    (c19 : PySem.W.codeIn K cd19 "NeededRows.next_bits" = true)
    (k19 : PySem.W.keepIn K (.ref f19) = true)
    (a20 : PySem.W.findIn K (.ref C_NeededRows) "is_held" = some (some (.ref f20)))
    (i20 : PySem.W.isFn K (.ref f20) = true)
    (l20 : K.lookup f20 = some ⟨oc20, od20, .func (PySem.W.fnOf "is_held" "NeededRows.is_held" (defArgs s_NeededRows_is_held) (defBody s_NeededRows_is_held) (defScope s_NeededRows_is_held) .none kV20 dc20 pm20 an20 cd20 ct20), sl20⟩)
    (c20 : PySem.W.codeIn K cd20 "NeededRows.is_held" = true)
    (k20 : PySem.W.keepIn K (.ref f20) = true)
    (a21 : PySem.W.findIn K (.ref C_NeededRows) "places_taken" = some (some (.ref f21)))
    (i21 : PySem.W.isFn K (.ref f21) = true)
    (l21 : K.lookup f21 = some ⟨oc21, od21, .func (PySem.W.fnOf "places_taken" "NeededRows.places_taken" (defArgs s_NeededRows_places_taken) (defBody s_NeededRows_places_taken) (defScope s_NeededRows_places_taken) .none kV21 dc21 pm21 an21 cd21 ct21), sl21⟩)
    (c21 : PySem.W.codeIn K cd21 "NeededRows.places_taken" = true)
    (k21 : PySem.W.keepIn K (.ref f21) = true)
    (aC_Reader : PySem.W.nsIn K mainGlobals "Reader" = some (some (.ref C_Reader)))
    (pg_Reader : PySem.W.plainGet K C_Reader Str.empty = true)
    (hd_Reader : PySem.W.hasDictIn K C_Reader = true)
    (po_Reader : PySem.W.plainOver K C_Reader = true)
    (sa_Reader : PySem.W.findIn K (.ref C_Reader) "__setattr__" = some (some (.builtin "object.__setattr__")))
    (n_Reader_tokens : PySem.W.findIn K (.ref C_Reader) "tokens" = some none)
    (n_Reader_at : PySem.W.findIn K (.ref C_Reader) "at" = some none)
    (a22 : PySem.W.findIn K (.ref C_Reader) "__init__" = some (some (.ref f22)))
    (i22 : PySem.W.isFn K (.ref f22) = true)
    (l22 : K.lookup f22 = some ⟨oc22, od22, .func (PySem.W.fnOf "__init__" "Reader.__init__" (defArgs s_Reader___init__) (defBody s_Reader___init__) (defScope s_Reader___init__) .none kV22 dc22 pm22 an22 cd22 ct22), sl22⟩)
    (c22 : PySem.W.codeIn K cd22 "Reader.__init__" = true)
    (k22 : PySem.W.keepIn K (.ref f22) = true)
    (mk_Reader : PySem.W.makesIn K C_Reader = true)
    (kc_Reader : PySem.W.keepIn K (.ref C_Reader) = true)
    (a23 : PySem.W.findIn K (.ref C_Reader) "word" = some (some (.ref f23)))
    (i23 : PySem.W.isFn K (.ref f23) = true)
    (l23 : K.lookup f23 = some ⟨oc23, od23, .func (PySem.W.fnOf "word" "Reader.word" (defArgs s_Reader_word) (defBody s_Reader_word) (defScope s_Reader_word) .none kV23 dc23 pm23 an23 cd23 ct23), sl23⟩)
    (c23 : PySem.W.codeIn K cd23 "Reader.word" = true)
    (k23 : PySem.W.keepIn K (.ref f23) = true)
    (a24 : PySem.W.findIn K (.ref C_Reader) "here" = some (some (.ref f24)))
    (i24 : PySem.W.isFn K (.ref f24) = true)
    (l24 : K.lookup f24 = some ⟨oc24, od24, .func (PySem.W.fnOf "here" "Reader.here" (defArgs s_Reader_here) (defBody s_Reader_here) (defScope s_Reader_here) .none kV24 dc24 pm24 an24 cd24 ct24), sl24⟩)
    (c24 : PySem.W.codeIn K cd24 "Reader.here" = true)
    (k24 : PySem.W.keepIn K (.ref f24) = true)
    (a25 : PySem.W.findIn K (.ref C_Reader) "take" = some (some (.ref f25)))
    (i25 : PySem.W.isFn K (.ref f25) = true)
    (l25 : K.lookup f25 = some ⟨oc25, od25, .func (PySem.W.fnOf "take" "Reader.take" (defArgs s_Reader_take) (defBody s_Reader_take) (defScope s_Reader_take) .none kV25 dc25 pm25 an25 cd25 ct25), sl25⟩)
    (c25 : PySem.W.codeIn K cd25 "Reader.take" = true)
    (k25 : PySem.W.keepIn K (.ref f25) = true)
    (a26 : PySem.W.findIn K (.ref C_Reader) "take_name" = some (some (.ref f26)))
    (i26 : PySem.W.isFn K (.ref f26) = true)
    (l26 : K.lookup f26 = some ⟨oc26, od26, .func (PySem.W.fnOf "take_name" "Reader.take_name" (defArgs s_Reader_take_name) (defBody s_Reader_take_name) (defScope s_Reader_take_name) .none kV26 dc26 pm26 an26 cd26 ct26), sl26⟩)
    (c26 : PySem.W.codeIn K cd26 "Reader.take_name" = true)
    (k26 : PySem.W.keepIn K (.ref f26) = true)
    (a27 : PySem.W.findIn K (.ref C_Reader) "take_nesting" = some (some (.ref f27)))
    (i27 : PySem.W.isFn K (.ref f27) = true)
    (l27 : K.lookup f27 = some ⟨oc27, od27, .func (PySem.W.fnOf "take_nesting" "Reader.take_nesting" (defArgs s_Reader_take_nesting) (defBody s_Reader_take_nesting) (defScope s_Reader_take_nesting) .none kV27 dc27 pm27 an27 cd27 ct27), sl27⟩)
    (c27 : PySem.W.codeIn K cd27 "Reader.take_nesting" = true)
    (k27 : PySem.W.keepIn K (.ref f27) = true)
    (aC_Holder : PySem.W.nsIn K mainGlobals "Holder" = some (some (.ref C_Holder)))
    (pg_Holder : PySem.W.plainGet K C_Holder Str.empty = true)
    (hd_Holder : PySem.W.hasDictIn K C_Holder = true)
    (po_Holder : PySem.W.plainOver K C_Holder = true)
    (sa_Holder : PySem.W.findIn K (.ref C_Holder) "__setattr__" = some (some (.builtin "object.__setattr__")))
    (n_Holder_text : PySem.W.findIn K (.ref C_Holder) "text" = some none)
    (a28 : PySem.W.findIn K (.ref C_Holder) "__init__" = some (some (.ref f28)))
    (i28 : PySem.W.isFn K (.ref f28) = true)
    (l28 : K.lookup f28 = some ⟨oc28, od28, .func (PySem.W.fnOf "__init__" "Holder.__init__" (defArgs s_Holder___init__) (defBody s_Holder___init__) (defScope s_Holder___init__) .none kV28 dc28 pm28 an28 cd28 ct28), sl28⟩)
    (c28 : PySem.W.codeIn K cd28 "Holder.__init__" = true)
    (k28 : PySem.W.keepIn K (.ref f28) = true)
    (mk_Holder : PySem.W.makesIn K C_Holder = true)
    (kc_Holder : PySem.W.keepIn K (.ref C_Holder) = true)
    (a29 : PySem.W.findIn K (.ref C_Holder) "load" = some (some (.ref f29)))
    (i29 : PySem.W.isFn K (.ref f29) = true)
    (l29 : K.lookup f29 = some ⟨oc29, od29, .func (PySem.W.fnOf "load" "Holder.load" (defArgs s_Holder_load) (defBody s_Holder_load) (defScope s_Holder_load) .none kV29 dc29 pm29 an29 cd29 ct29), sl29⟩)
    (c29 : PySem.W.codeIn K cd29 "Holder.load" = true)
    (k29 : PySem.W.keepIn K (.ref f29) = true)
    (a30 : PySem.W.findIn K (.ref C_Holder) "shown" = some (some (.ref f30)))
    (i30 : PySem.W.isFn K (.ref f30) = true)
    (l30 : K.lookup f30 = some ⟨oc30, od30, .func (PySem.W.fnOf "shown" "Holder.shown" (defArgs s_Holder_shown) (defBody s_Holder_shown) (defScope s_Holder_shown) .none kV30 dc30 pm30 an30 cd30 ct30), sl30⟩)
    (c30 : PySem.W.codeIn K cd30 "Holder.shown" = true)
    (k30 : PySem.W.keepIn K (.ref f30) = true)
    (a31 : PySem.W.findIn K (.ref C_Holder) "prune" = some (some (.ref f31)))
    (i31 : PySem.W.isFn K (.ref f31) = true)
    (l31 : K.lookup f31 = some ⟨oc31, od31, .func (PySem.W.fnOf "prune" "Holder.prune" (defArgs s_Holder_prune) (defBody s_Holder_prune) (defScope s_Holder_prune) .none kV31 dc31 pm31 an31 cd31 ct31), sl31⟩)
    (c31 : PySem.W.codeIn K cd31 "Holder.prune" = true)
    (k31 : PySem.W.keepIn K (.ref f31) = true)
    (a32 : PySem.W.findIn K (.ref C_Holder) "general" = some (some (.ref f32)))
    (i32 : PySem.W.isFn K (.ref f32) = true)
    (l32 : K.lookup f32 = some ⟨oc32, od32, .func (PySem.W.fnOf "general" "Holder.general" (defArgs s_Holder_general) (defBody s_Holder_general) (defScope s_Holder_general) .none kV32 dc32 pm32 an32 cd32 ct32), sl32⟩)
    (c32 : PySem.W.codeIn K cd32 "Holder.general" = true)
    (k32 : PySem.W.keepIn K (.ref f32) = true)
    (a33 : PySem.W.findIn K (.ref C_Holder) "shorten" = some (some (.ref f33)))
    (i33 : PySem.W.isFn K (.ref f33) = true)
    (l33 : K.lookup f33 = some ⟨oc33, od33, .func (PySem.W.fnOf "shorten" "Holder.shorten" (defArgs s_Holder_shorten) (defBody s_Holder_shorten) (defScope s_Holder_shorten) .none kV33 dc33 pm33 an33 cd33 ct33), sl33⟩)
    (c33 : PySem.W.codeIn K cd33 "Holder.shorten" = true)
    (k33 : PySem.W.keepIn K (.ref f33) = true)
    (a34 : PySem.W.findIn K (.ref C_Holder) "short" = some (some (.ref f34)))
    (i34 : PySem.W.isFn K (.ref f34) = true)
    (l34 : K.lookup f34 = some ⟨oc34, od34, .func (PySem.W.fnOf "short" "Holder.short" (defArgs s_Holder_short) (defBody s_Holder_short) (defScope s_Holder_short) .none kV34 dc34 pm34 an34 cd34 ct34), sl34⟩)
    (c34 : PySem.W.codeIn K cd34 "Holder.short" = true)
    (k34 : PySem.W.keepIn K (.ref f34) = true)
    (a35 : PySem.W.findIn K (.ref C_Holder) "order" = some (some (.ref f35)))
    (i35 : PySem.W.isFn K (.ref f35) = true)
    (l35 : K.lookup f35 = some ⟨oc35, od35, .func (PySem.W.fnOf "order" "Holder.order" (defArgs s_Holder_order) (defBody s_Holder_order) (defScope s_Holder_order) .none kV35 dc35 pm35 an35 cd35 ct35), sl35⟩)
    (c35 : PySem.W.codeIn K cd35 "Holder.order" = true)
    (k35 : PySem.W.keepIn K (.ref f35) = true)
    (a36 : PySem.W.findIn K (.ref C_Holder) "least" = some (some (.ref f36)))
    (i36 : PySem.W.isFn K (.ref f36) = true)
    (l36 : K.lookup f36 = some ⟨oc36, od36, .func (PySem.W.fnOf "least" "Holder.least" (defArgs s_Holder_least) (defBody s_Holder_least) (defScope s_Holder_least) .none kV36 dc36 pm36 an36 cd36 ct36), sl36⟩)
    (c36 : PySem.W.codeIn K cd36 "Holder.least" = true)
    (k36 : PySem.W.keepIn K (.ref f36) = true)
    (a37 : PySem.W.findIn K (.ref C_Holder) "totals" = some (some (.ref f37)))
    (i37 : PySem.W.isFn K (.ref f37) = true)
    (l37 : K.lookup f37 = some ⟨oc37, od37, .func (PySem.W.fnOf "totals" "Holder.totals" (defArgs s_Holder_totals) (defBody s_Holder_totals) (defScope s_Holder_totals) .none kV37 dc37 pm37 an37 cd37 ct37), sl37⟩)
    (c37 : PySem.W.codeIn K cd37 "Holder.totals" = true)
    (k37 : PySem.W.keepIn K (.ref f37) = true)
    (a38 : PySem.W.nsIn K mainGlobals "part_end" = some (some (.ref f38)))
    (l38 : K.lookup f38 = some ⟨oc38, od38, .func (PySem.W.fnOf "part_end" "part_end" (defArgs s_part_end) (defBody s_part_end) (defScope s_part_end) .none kV38 dc38 pm38 an38 cd38 ct38), sl38⟩)
    (c38 : PySem.W.codeIn K cd38 "part_end" = true)
    (k38 : PySem.W.keepIn K (.ref f38) = true)
    (a39 : PySem.W.nsIn K mainGlobals "is_instance" = some (some (.ref f39)))
    (l39 : K.lookup f39 = some ⟨oc39, od39, .func (PySem.W.fnOf "is_instance" "is_instance" (defArgs s_is_instance) (defBody s_is_instance) (defScope s_is_instance) .none kV39 dc39 pm39 an39 cd39 ct39), sl39⟩)
    (c39 : PySem.W.codeIn K cd39 "is_instance" = true)
    (k39 : PySem.W.keepIn K (.ref f39) = true)
    (a40 : PySem.W.nsIn K mainGlobals "bracketed" = some (some (.ref f40)))
    (l40 : K.lookup f40 = some ⟨oc40, od40, .func (PySem.W.fnOf "bracketed" "bracketed" (defArgs s_bracketed) (defBody s_bracketed) (defScope s_bracketed) .none kV40 dc40 pm40 an40 cd40 ct40), sl40⟩)
    (c40 : PySem.W.codeIn K cd40 "bracketed" = true)
    (k40 : PySem.W.keepIn K (.ref f40) = true)
    (a41 : PySem.W.nsIn K mainGlobals "formula_form" = some (some (.ref f41)))
    (l41 : K.lookup f41 = some ⟨oc41, od41, .func (PySem.W.fnOf "formula_form" "formula_form" (defArgs s_formula_form) (defBody s_formula_form) (defScope s_formula_form) .none kV41 dc41 pm41 an41 cd41 ct41), sl41⟩)
    (c41 : PySem.W.codeIn K cd41 "formula_form" = true)
    (k41 : PySem.W.keepIn K (.ref f41) = true)
    (a42 : PySem.W.nsIn K mainGlobals "detached" = some (some (.ref f42)))
    (l42 : K.lookup f42 = some ⟨oc42, od42, .func (PySem.W.fnOf "detached" "detached" (defArgs s_detached) (defBody s_detached) (defScope s_detached) .none kV42 dc42 pm42 an42 cd42 ct42), sl42⟩)
    (c42 : PySem.W.codeIn K cd42 "detached" = true)
    (k42 : PySem.W.keepIn K (.ref f42) = true)
    (a43 : PySem.W.nsIn K mainGlobals "first_with_instance" = some (some (.ref f43)))
    (l43 : K.lookup f43 = some ⟨oc43, od43, .func (PySem.W.fnOf "first_with_instance" "first_with_instance" (defArgs s_first_with_instance) (defBody s_first_with_instance) (defScope s_first_with_instance) .none kV43 dc43 pm43 an43 cd43 ct43), sl43⟩)
    (c43 : PySem.W.codeIn K cd43 "first_with_instance" = true)
    (k43 : PySem.W.keepIn K (.ref f43) = true)
    (a44 : PySem.W.nsIn K mainGlobals "targets" = some (some (.ref f44)))
    (l44 : K.lookup f44 = some ⟨oc44, od44, .func (PySem.W.fnOf "targets" "targets" (defArgs s_targets) (defBody s_targets) (defScope s_targets) .none kV44 dc44 pm44 an44 cd44 ct44), sl44⟩)
    (c44 : PySem.W.codeIn K cd44 "targets" = true)
    (k44 : PySem.W.keepIn K (.ref f44) = true)
    (a45 : PySem.W.nsIn K mainGlobals "needed_rows" = some (some (.ref f45)))
    (l45 : K.lookup f45 = some ⟨oc45, od45, .func (PySem.W.fnOf "needed_rows" "needed_rows" (defArgs s_needed_rows) (defBody s_needed_rows) (defScope s_needed_rows) .none kV45 dc45 pm45 an45 cd45 ct45), sl45⟩)
    (c45 : PySem.W.codeIn K cd45 "needed_rows" = true)
    (k45 : PySem.W.keepIn K (.ref f45) = true)
    (a46 : PySem.W.nsIn K mainGlobals "target_steps" = some (some (.ref f46)))
    (l46 : K.lookup f46 = some ⟨oc46, od46, .func (PySem.W.fnOf "target_steps" "target_steps" (defArgs s_target_steps) (defBody s_target_steps) (defScope s_target_steps) .none kV46 dc46 pm46 an46 cd46 ct46), sl46⟩)
    (c46 : PySem.W.codeIn K cd46 "target_steps" = true)
    (k46 : PySem.W.keepIn K (.ref f46) = true)
    (a47 : PySem.W.nsIn K mainGlobals "item_form" = some (some (.ref f47)))
    (l47 : K.lookup f47 = some ⟨oc47, od47, .func (PySem.W.fnOf "item_form" "item_form" (defArgs s_item_form) (defBody s_item_form) (defScope s_item_form) .none kV47 dc47 pm47 an47 cd47 ct47), sl47⟩)
    (c47 : PySem.W.codeIn K cd47 "item_form" = true)
    (k47 : PySem.W.keepIn K (.ref f47) = true)
    (a48 : PySem.W.nsIn K mainGlobals "goal_form" = some (some (.ref f48)))
    (l48 : K.lookup f48 = some ⟨oc48, od48, .func (PySem.W.fnOf "goal_form" "goal_form" (defArgs s_goal_form) (defBody s_goal_form) (defScope s_goal_form) .none kV48 dc48 pm48 an48 cd48 ct48), sl48⟩)
    (c48 : PySem.W.codeIn K cd48 "goal_form" = true)
    (k48 : PySem.W.keepIn K (.ref f48) = true)
    (a49 : PySem.W.nsIn K mainGlobals "one_form" = some (some (.ref f49)))
    (l49 : K.lookup f49 = some ⟨oc49, od49, .func (PySem.W.fnOf "one_form" "one_form" (defArgs s_one_form) (defBody s_one_form) (defScope s_one_form) .none kV49 dc49 pm49 an49 cd49 ct49), sl49⟩)
    (c49 : PySem.W.codeIn K cd49 "one_form" = true)
    (k49 : PySem.W.keepIn K (.ref f49) = true)
    (a50 : PySem.W.nsIn K mainGlobals "has_bit" = some (some (.ref f50)))
    (l50 : K.lookup f50 = some ⟨oc50, od50, .func (PySem.W.fnOf "has_bit" "has_bit" (defArgs s_has_bit) (defBody s_has_bit) (defScope s_has_bit) .none kV50 dc50 pm50 an50 cd50 ct50), sl50⟩)
    (c50 : PySem.W.codeIn K cd50 "has_bit" = true)
    (k50 : PySem.W.keepIn K (.ref f50) = true)
    (a51 : PySem.W.nsIn K mainGlobals "with_bit" = some (some (.ref f51)))
    (l51 : K.lookup f51 = some ⟨oc51, od51, .func (PySem.W.fnOf "with_bit" "with_bit" (defArgs s_with_bit) (defBody s_with_bit) (defScope s_with_bit) .none kV51 dc51 pm51 an51 cd51 ct51), sl51⟩)
    (c51 : PySem.W.codeIn K cd51 "with_bit" = true)
    (k51 : PySem.W.keepIn K (.ref f51) = true)
    (a52 : PySem.W.nsIn K mainGlobals "all_within" = some (some (.ref f52)))
    (l52 : K.lookup f52 = some ⟨oc52, od52, .func (PySem.W.fnOf "all_within" "all_within" (defArgs s_all_within) (defBody s_all_within) (defScope s_all_within) .none kV52 dc52 pm52 an52 cd52 ct52), sl52⟩)
    (c52 : PySem.W.codeIn K cd52 "all_within" = true)
    (k52 : PySem.W.keepIn K (.ref f52) = true)
    (a53 : PySem.W.nsIn K mainGlobals "bits_of" = some (some (.ref f53)))
    (l53 : K.lookup f53 = some ⟨oc53, od53, .func (PySem.W.fnOf "bits_of" "bits_of" (defArgs s_bits_of) (defBody s_bits_of) (defScope s_bits_of) .none kV53 dc53 pm53 an53 cd53 ct53), sl53⟩)
    (c53 : PySem.W.codeIn K cd53 "bits_of" = true)
    (k53 : PySem.W.keepIn K (.ref f53) = true)
    (a54 : PySem.W.nsIn K mainGlobals "rows_detached_from" = some (some (.ref f54)))
    (l54 : K.lookup f54 = some ⟨oc54, od54, .func (PySem.W.fnOf "rows_detached_from" "rows_detached_from" (defArgs s_rows_detached_from) (defBody s_rows_detached_from) (defScope s_rows_detached_from) .none kV54 dc54 pm54 an54 cd54 ct54), sl54⟩)
    (c54 : PySem.W.codeIn K cd54 "rows_detached_from" = true)
    (k54 : PySem.W.keepIn K (.ref f54) = true)
    (a55 : PySem.W.nsIn K mainGlobals "peak_of" = some (some (.ref f55)))
    (l55 : K.lookup f55 = some ⟨oc55, od55, .func (PySem.W.fnOf "peak_of" "peak_of" (defArgs s_peak_of) (defBody s_peak_of) (defScope s_peak_of) .none kV55 dc55 pm55 an55 cd55 ct55), sl55⟩)
    (c55 : PySem.W.codeIn K cd55 "peak_of" = true)
    (k55 : PySem.W.keepIn K (.ref f55) = true)
    (a56 : PySem.W.nsIn K mainGlobals "least_peaks" = some (some (.ref f56)))
    (l56 : K.lookup f56 = some ⟨oc56, od56, .func (PySem.W.fnOf "least_peaks" "least_peaks" (defArgs s_least_peaks) (defBody s_least_peaks) (defScope s_least_peaks) .none kV56 dc56 pm56 an56 cd56 ct56), sl56⟩)
    (c56 : PySem.W.codeIn K cd56 "least_peaks" = true)
    (k56 : PySem.W.keepIn K (.ref f56) = true)
    (a57 : PySem.W.nsIn K mainGlobals "first_order" = some (some (.ref f57)))
    (l57 : K.lookup f57 = some ⟨oc57, od57, .func (PySem.W.fnOf "first_order" "first_order" (defArgs s_first_order) (defBody s_first_order) (defScope s_first_order) .none kV57 dc57 pm57 an57 cd57 ct57), sl57⟩)
    (c57 : PySem.W.codeIn K cd57 "first_order" = true)
    (k57 : PySem.W.keepIn K (.ref f57) = true)
    (a58 : PySem.W.nsIn K mainGlobals "as_signs" = some (some (.ref f58)))
    (l58 : K.lookup f58 = some ⟨oc58, od58, .func (PySem.W.fnOf "as_signs" "as_signs" (defArgs s_as_signs) (defBody s_as_signs) (defScope s_as_signs) .none kV58 dc58 pm58 an58 cd58 ct58), sl58⟩)
    (c58 : PySem.W.codeIn K cd58 "as_signs" = true)
    (k58 : PySem.W.keepIn K (.ref f58) = true)
    (a59 : PySem.W.nsIn K mainGlobals "remark_end" = some (some (.ref f59)))
    (l59 : K.lookup f59 = some ⟨oc59, od59, .func (PySem.W.fnOf "remark_end" "remark_end" (defArgs s_remark_end) (defBody s_remark_end) (defScope s_remark_end) .none kV59 dc59 pm59 an59 cd59 ct59), sl59⟩)
    (c59 : PySem.W.codeIn K cd59 "remark_end" = true)
    (k59 : PySem.W.keepIn K (.ref f59) = true)
    (a60 : PySem.W.nsIn K mainGlobals "token_place" = some (some (.ref f60)))
    (l60 : K.lookup f60 = some ⟨oc60, od60, .func (PySem.W.fnOf "token_place" "token_place" (defArgs s_token_place) (defBody s_token_place) (defScope s_token_place) .none kV60 dc60 pm60 an60 cd60 ct60), sl60⟩)
    (c60 : PySem.W.codeIn K cd60 "token_place" = true)
    (k60 : PySem.W.keepIn K (.ref f60) = true)
    (a61 : PySem.W.nsIn K mainGlobals "token_end" = some (some (.ref f61)))
    (l61 : K.lookup f61 = some ⟨oc61, od61, .func (PySem.W.fnOf "token_end" "token_end" (defArgs s_token_end) (defBody s_token_end) (defScope s_token_end) .none kV61 dc61 pm61 an61 cd61 ct61), sl61⟩)
    (c61 : PySem.W.codeIn K cd61 "token_end" = true)
    (k61 : PySem.W.keepIn K (.ref f61) = true)
    (a62 : PySem.W.nsIn K mainGlobals "is_number" = some (some (.ref f62)))
    (l62 : K.lookup f62 = some ⟨oc62, od62, .func (PySem.W.fnOf "is_number" "is_number" (defArgs s_is_number) (defBody s_is_number) (defScope s_is_number) .none kV62 dc62 pm62 an62 cd62 ct62), sl62⟩)
    (c62 : PySem.W.codeIn K cd62 "is_number" = true)
    (k62 : PySem.W.keepIn K (.ref f62) = true)
    (a63 : PySem.W.nsIn K mainGlobals "is_token" = some (some (.ref f63)))
    (l63 : K.lookup f63 = some ⟨oc63, od63, .func (PySem.W.fnOf "is_token" "is_token" (defArgs s_is_token) (defBody s_is_token) (defScope s_is_token) .none kV63 dc63 pm63 an63 cd63 ct63), sl63⟩)
    (c63 : PySem.W.codeIn K cd63 "is_token" = true)
    (k63 : PySem.W.keepIn K (.ref f63) = true)
    (a64 : PySem.W.nsIn K mainGlobals "is_name" = some (some (.ref f64)))
    (l64 : K.lookup f64 = some ⟨oc64, od64, .func (PySem.W.fnOf "is_name" "is_name" (defArgs s_is_name) (defBody s_is_name) (defScope s_is_name) .none kV64 dc64 pm64 an64 cd64 ct64), sl64⟩)
    (c64 : PySem.W.codeIn K cd64 "is_name" = true)
    (k64 : PySem.W.keepIn K (.ref f64) = true)
    (a65 : PySem.W.nsIn K mainGlobals "tokens_of" = some (some (.ref f65)))
    (l65 : K.lookup f65 = some ⟨oc65, od65, .func (PySem.W.fnOf "tokens_of" "tokens_of" (defArgs s_tokens_of) (defBody s_tokens_of) (defScope s_tokens_of) .none kV65 dc65 pm65 an65 cd65 ct65), sl65⟩)
    (c65 : PySem.W.codeIn K cd65 "tokens_of" = true)
    (k65 : PySem.W.keepIn K (.ref f65) = true)
    (a66 : PySem.W.nsIn K mainGlobals "read_part" = some (some (.ref f66)))
    (l66 : K.lookup f66 = some ⟨oc66, od66, .func (PySem.W.fnOf "read_part" "read_part" (defArgs s_read_part) (defBody s_read_part) (defScope s_read_part) .none kV66 dc66 pm66 an66 cd66 ct66), sl66⟩)
    (c66 : PySem.W.codeIn K cd66 "read_part" = true)
    (k66 : PySem.W.keepIn K (.ref f66) = true)
    (a67 : PySem.W.nsIn K mainGlobals "read_signs" = some (some (.ref f67)))
    (l67 : K.lookup f67 = some ⟨oc67, od67, .func (PySem.W.fnOf "read_signs" "read_signs" (defArgs s_read_signs) (defBody s_read_signs) (defScope s_read_signs) .none kV67 dc67 pm67 an67 cd67 ct67), sl67⟩)
    (c67 : PySem.W.codeIn K cd67 "read_signs" = true)
    (k67 : PySem.W.keepIn K (.ref f67) = true)
    (a68 : PySem.W.nsIn K mainGlobals "read_formula" = some (some (.ref f68)))
    (l68 : K.lookup f68 = some ⟨oc68, od68, .func (PySem.W.fnOf "read_formula" "read_formula" (defArgs s_read_formula) (defBody s_read_formula) (defScope s_read_formula) .none kV68 dc68 pm68 an68 cd68 ct68), sl68⟩)
    (c68 : PySem.W.codeIn K cd68 "read_formula" = true)
    (k68 : PySem.W.keepIn K (.ref f68) = true)
    (a69 : PySem.W.nsIn K mainGlobals "read_new_name" = some (some (.ref f69)))
    (l69 : K.lookup f69 = some ⟨oc69, od69, .func (PySem.W.fnOf "read_new_name" "read_new_name" (defArgs s_read_new_name) (defBody s_read_new_name) (defScope s_read_new_name) .none kV69 dc69 pm69 an69 cd69 ct69), sl69⟩)
    (c69 : PySem.W.codeIn K cd69 "read_new_name" = true)
    (k69 : PySem.W.keepIn K (.ref f69) = true)
    (a70 : PySem.W.nsIn K mainGlobals "read_item" = some (some (.ref f70)))
    (l70 : K.lookup f70 = some ⟨oc70, od70, .func (PySem.W.fnOf "read_item" "read_item" (defArgs s_read_item) (defBody s_read_item) (defScope s_read_item) .none kV70 dc70 pm70 an70 cd70 ct70), sl70⟩)
    (c70 : PySem.W.codeIn K cd70 "read_item" = true)
    (k70 : PySem.W.keepIn K (.ref f70) = true)
    (a71 : PySem.W.nsIn K mainGlobals "begins" = some (some (.ref f71)))
    (l71 : K.lookup f71 = some ⟨oc71, od71, .func (PySem.W.fnOf "begins" "begins" (defArgs s_begins) (defBody s_begins) (defScope s_begins) .none kV71 dc71 pm71 an71 cd71 ct71), sl71⟩)
    (c71 : PySem.W.codeIn K cd71 "begins" = true)
    (k71 : PySem.W.keepIn K (.ref f71) = true)
    (a72 : PySem.W.nsIn K mainGlobals "read_axioms" = some (some (.ref f72)))
    (l72 : K.lookup f72 = some ⟨oc72, od72, .func (PySem.W.fnOf "read_axioms" "read_axioms" (defArgs s_read_axioms) (defBody s_read_axioms) (defScope s_read_axioms) .none kV72 dc72 pm72 an72 cd72 ct72), sl72⟩)
    (c72 : PySem.W.codeIn K cd72 "read_axioms" = true)
    (k72 : PySem.W.keepIn K (.ref f72) = true)
    (a73 : PySem.W.nsIn K mainGlobals "read_rows" = some (some (.ref f73)))
    (l73 : K.lookup f73 = some ⟨oc73, od73, .func (PySem.W.fnOf "read_rows" "read_rows" (defArgs s_read_rows) (defBody s_read_rows) (defScope s_read_rows) .none kV73 dc73 pm73 an73 cd73 ct73), sl73⟩)
    (c73 : PySem.W.codeIn K cd73 "read_rows" = true)
    (k73 : PySem.W.keepIn K (.ref f73) = true)
    (a74 : PySem.W.nsIn K mainGlobals "read_goals" = some (some (.ref f74)))
    (l74 : K.lookup f74 = some ⟨oc74, od74, .func (PySem.W.fnOf "read_goals" "read_goals" (defArgs s_read_goals) (defBody s_read_goals) (defScope s_read_goals) .none kV74 dc74 pm74 an74 cd74 ct74), sl74⟩)
    (c74 : PySem.W.codeIn K cd74 "read_goals" = true)
    (k74 : PySem.W.keepIn K (.ref f74) = true)
    (a75 : PySem.W.nsIn K mainGlobals "read_text" = some (some (.ref f75)))
    (l75 : K.lookup f75 = some ⟨oc75, od75, .func (PySem.W.fnOf "read_text" "read_text" (defArgs s_read_text) (defBody s_read_text) (defScope s_read_text) .none kV75 dc75 pm75 an75 cd75 ct75), sl75⟩)
    (c75 : PySem.W.codeIn K cd75 "read_text" = true)
    (k75 : PySem.W.keepIn K (.ref f75) = true)
    (a76 : PySem.W.nsIn K mainGlobals "merge_row" = some (some (.ref f76)))
    (l76 : K.lookup f76 = some ⟨oc76, od76, .func (PySem.W.fnOf "merge_row" "merge_row" (defArgs s_merge_row) (defBody s_merge_row) (defScope s_merge_row) .none kV76 dc76 pm76 an76 cd76 ct76), sl76⟩)
    (c76 : PySem.W.codeIn K cd76 "merge_row" = true)
    (k76 : PySem.W.keepIn K (.ref f76) = true)
    (a77 : PySem.W.nsIn K mainGlobals "merged" = some (some (.ref f77)))
    (l77 : K.lookup f77 = some ⟨oc77, od77, .func (PySem.W.fnOf "merged" "merged" (defArgs s_merged) (defBody s_merged) (defScope s_merged) .none kV77 dc77 pm77 an77 cd77 ct77), sl77⟩)
    (c77 : PySem.W.codeIn K cd77 "merged" = true)
    (k77 : PySem.W.keepIn K (.ref f77) = true)
    (a78 : PySem.W.nsIn K mainGlobals "with_rows_alone" = some (some (.ref f78)))
    (l78 : K.lookup f78 = some ⟨oc78, od78, .func (PySem.W.fnOf "with_rows_alone" "with_rows_alone" (defArgs s_with_rows_alone) (defBody s_with_rows_alone) (defScope s_with_rows_alone) .none kV78 dc78 pm78 an78 cd78 ct78), sl78⟩)
    (c78 : PySem.W.codeIn K cd78 "with_rows_alone" = true)
    (k78 : PySem.W.keepIn K (.ref f78) = true)
    (a79 : PySem.W.nsIn K mainGlobals "shortened" = some (some (.ref f79)))
    (l79 : K.lookup f79 = some ⟨oc79, od79, .func (PySem.W.fnOf "shortened" "shortened" (defArgs s_shortened) (defBody s_shortened) (defScope s_shortened) .none kV79 dc79 pm79 an79 cd79 ct79), sl79⟩)
    (c79 : PySem.W.codeIn K cd79 "shortened" = true)
    (k79 : PySem.W.keepIn K (.ref f79) = true)
    (a80 : PySem.W.nsIn K mainGlobals "form_told" = some (some (.ref f80)))
    (l80 : K.lookup f80 = some ⟨oc80, od80, .func (PySem.W.fnOf "form_told" "form_told" (defArgs s_form_told) (defBody s_form_told) (defScope s_form_told) .none kV80 dc80 pm80 an80 cd80 ct80), sl80⟩)
    (c80 : PySem.W.codeIn K cd80 "form_told" = true)
    (k80 : PySem.W.keepIn K (.ref f80) = true)
    (a81 : PySem.W.nsIn K mainGlobals "parted" = some (some (.ref f81)))
    (l81 : K.lookup f81 = some ⟨oc81, od81, .func (PySem.W.fnOf "parted" "parted" (defArgs s_parted) (defBody s_parted) (defScope s_parted) .none kV81 dc81 pm81 an81 cd81 ct81), sl81⟩)
    (c81 : PySem.W.codeIn K cd81 "parted" = true)
    (k81 : PySem.W.keepIn K (.ref f81) = true)
    (a82 : PySem.W.nsIn K mainGlobals "answer_one" = some (some (.ref f82)))
    (l82 : K.lookup f82 = some ⟨oc82, od82, .func (PySem.W.fnOf "answer_one" "answer_one" (defArgs s_answer_one) (defBody s_answer_one) (defScope s_answer_one) .none kV82 dc82 pm82 an82 cd82 ct82), sl82⟩)
    (c82 : PySem.W.codeIn K cd82 "answer_one" = true)
    (k82 : PySem.W.keepIn K (.ref f82) = true)
    (a83 : PySem.W.nsIn K mainGlobals "answers" = some (some (.ref f83)))
    (l83 : K.lookup f83 = some ⟨oc83, od83, .func (PySem.W.fnOf "answers" "answers" (defArgs s_answers) (defBody s_answers) (defScope s_answers) .none kV83 dc83 pm83 an83 cd83 ct83), sl83⟩)
    (c83 : PySem.W.codeIn K cd83 "answers" = true)
    (k83 : PySem.W.keepIn K (.ref f83) = true)
    (a_TEXT_TOO_LONG : PySem.W.nsIn K mainGlobals "TEXT_TOO_LONG" = some (some (.int 1 t_TEXT_TOO_LONG)))
    (a_NO_TOKEN : PySem.W.nsIn K mainGlobals "NO_TOKEN" = some (some (.int 2 t_NO_TOKEN)))
    (a_NOT_ALLOWED : PySem.W.nsIn K mainGlobals "NOT_ALLOWED" = some (some (.int 3 t_NOT_ALLOWED)))
    (a_ONE_TOO_MANY : PySem.W.nsIn K mainGlobals "ONE_TOO_MANY" = some (some (.int 4 t_ONE_TOO_MANY)))
    (a_NAME_TAKEN : PySem.W.nsIn K mainGlobals "NAME_TAKEN" = some (some (.int 5 t_NAME_TAKEN)))
    (a_NAME_UNKNOWN : PySem.W.nsIn K mainGlobals "NAME_UNKNOWN" = some (some (.int 8 t_NAME_UNKNOWN)))
    (a_TOO_MANY_SIGNS : PySem.W.nsIn K mainGlobals "TOO_MANY_SIGNS" = some (some (.int 9 t_TOO_MANY_SIGNS)))
    (a_TOO_DEEP : PySem.W.nsIn K mainGlobals "TOO_DEEP" = some (some (.int 10 t_TOO_DEEP)))
    (a_IMPLIES : PySem.W.nsIn K mainGlobals "IMPLIES" = some (some (.int 0 t_IMPLIES)))
    (a_DENIES : PySem.W.nsIn K mainGlobals "DENIES" = some (some (.int 1 t_DENIES)))
    (a_FIRST_UNKNOWN : PySem.W.nsIn K mainGlobals "FIRST_UNKNOWN" = some (some (.int 2 t_FIRST_UNKNOWN)))
    (a_MOST_SIGNS_ON_THE_WAY : PySem.W.nsIn K mainGlobals "MOST_SIGNS_ON_THE_WAY" = some (some (.int 1000 t_MOST_SIGNS_ON_THE_WAY)))
    (a_MOST_SIGNS_DETACHED : PySem.W.nsIn K mainGlobals "MOST_SIGNS_DETACHED" = some (some (.int 60 t_MOST_SIGNS_DETACHED)))
    (a_LETTERS : PySem.W.nsIn K mainGlobals "LETTERS" = some (some (.str ("ABCDEFGHIJKLMNOPQRSTUVWXYZabcdefghijklmnopqrstuvwxyz" : Str) t_LETTERS)))
    (a_DIGITS : PySem.W.nsIn K mainGlobals "DIGITS" = some (some (.str ("0123456789" : Str) t_DIGITS)))
    (a_SIGNS : PySem.W.nsIn K mainGlobals "SIGNS" = some (some (.str ("(),:;>~" : Str) t_SIGNS)))
    (a_BLANKS : PySem.W.nsIn K mainGlobals "BLANKS" = some (some (.str (" \t\n" : Str) t_BLANKS)))
    (a_REMARK : PySem.W.nsIn K mainGlobals "REMARK" = some (some (.str ("#" : Str) t_REMARK)))
    (a_OTHER : PySem.W.nsIn K mainGlobals "OTHER" = some (some (.str ("?" : Str) t_OTHER)))
    (a_RESERVED : PySem.W.nsIn K mainGlobals "RESERVED" = some (some (.ref r_RESERVED)))
    (t_RESERVED : K.lookup r_RESERVED = some ⟨.type "tuple", od_RESERVED, .seq #[.str ("axiom" : Str) u_RESERVED_0, .str ("row" : Str) u_RESERVED_1, .str ("goal" : Str) u_RESERVED_2] n_RESERVED, sl_RESERVED⟩)
    (a_LONGEST_NAME : PySem.W.nsIn K mainGlobals "LONGEST_NAME" = some (some (.int 16 t_LONGEST_NAME)))
    (a_GREATEST_NUMBER : PySem.W.nsIn K mainGlobals "GREATEST_NUMBER" = some (some (.int 1000000000 t_GREATEST_NUMBER)))
    (a_MOST_DIGITS : PySem.W.nsIn K mainGlobals "MOST_DIGITS" = some (some (.int 10 t_MOST_DIGITS)))
    (a_END : PySem.W.nsIn K mainGlobals "END" = some (some (.str ("" : Str) t_END)))
    (a_MOST_BYTES : PySem.W.nsIn K mainGlobals "MOST_BYTES" = some (some (.int 4096 t_MOST_BYTES)))
    (a_MOST_AXIOMS : PySem.W.nsIn K mainGlobals "MOST_AXIOMS" = some (some (.int 6 t_MOST_AXIOMS)))
    (a_MOST_ROWS : PySem.W.nsIn K mainGlobals "MOST_ROWS" = some (some (.int 24 t_MOST_ROWS)))
    (a_MOST_GOALS : PySem.W.nsIn K mainGlobals "MOST_GOALS" = some (some (.int 4 t_MOST_GOALS)))
    (a_MOST_SIGNS : PySem.W.nsIn K mainGlobals "MOST_SIGNS" = some (some (.int 40 t_MOST_SIGNS)))
    (a_MOST_WITHIN : PySem.W.nsIn K mainGlobals "MOST_WITHIN" = some (some (.int 39 t_MOST_WITHIN)))
    (a_LOAD : PySem.W.nsIn K mainGlobals "LOAD" = some (some (.int 0 t_LOAD)))
    (a_SHOWN : PySem.W.nsIn K mainGlobals "SHOWN" = some (some (.int 1 t_SHOWN)))
    (a_PRUNE : PySem.W.nsIn K mainGlobals "PRUNE" = some (some (.int 2 t_PRUNE)))
    (a_GENERAL : PySem.W.nsIn K mainGlobals "GENERAL" = some (some (.int 3 t_GENERAL)))
    (a_SHORTEN : PySem.W.nsIn K mainGlobals "SHORTEN" = some (some (.int 4 t_SHORTEN)))
    (a_SHORT : PySem.W.nsIn K mainGlobals "SHORT" = some (some (.int 5 t_SHORT)))
    (a_ORDER : PySem.W.nsIn K mainGlobals "ORDER" = some (some (.int 6 t_ORDER)))
    (a_LEAST : PySem.W.nsIn K mainGlobals "LEAST" = some (some (.int 7 t_LEAST)))
    (a_SHAPES : PySem.W.nsIn K mainGlobals "SHAPES" = some (some (.ref r_SHAPES)))
    (t_SHAPES : K.lookup r_SHAPES = some ⟨.type "tuple", od_SHAPES, .seq #[.ref w_0, .ref w_1, .ref w_2, .ref w_3, .ref w_4, .ref w_5, .ref w_6, .ref w_7, .ref w_8] n_SHAPES, sl_SHAPES⟩)
    (tw_0 : K.lookup w_0 = some ⟨.type "tuple", ow_0, .seq #[.int 0 uw_0, .int 1 vw_0] nw_0, sw_0⟩)
    (tw_1 : K.lookup w_1 = some ⟨.type "tuple", ow_1, .seq #[.int 0 uw_1, .int 0 vw_1] nw_1, sw_1⟩)
    (tw_2 : K.lookup w_2 = some ⟨.type "tuple", ow_2, .seq #[.int 0 uw_2, .int 1 vw_2] nw_2, sw_2⟩)
    (tw_3 : K.lookup w_3 = some ⟨.type "tuple", ow_3, .seq #[.int 1 uw_3, .int 0 vw_3] nw_3, sw_3⟩)
    (tw_4 : K.lookup w_4 = some ⟨.type "tuple", ow_4, .seq #[.int 0 uw_4, .int 0 vw_4] nw_4, sw_4⟩)
    (tw_5 : K.lookup w_5 = some ⟨.type "tuple", ow_5, .seq #[.int 0 uw_5, .int 0 vw_5] nw_5, sw_5⟩)
    (tw_6 : K.lookup w_6 = some ⟨.type "tuple", ow_6, .seq #[.int 0 uw_6, .int 2 vw_6] nw_6, sw_6⟩)
    (tw_7 : K.lookup w_7 = some ⟨.type "tuple", ow_7, .seq #[.int 0 uw_7, .int 1 vw_7] nw_7, sw_7⟩)
    (tw_8 : K.lookup w_8 = some ⟨.type "tuple", ow_8, .seq #[.int 0 uw_8, .int 0 vw_8] nw_8, sw_8⟩)
    (a_MOST_ROWS_IN_ORDER : PySem.W.nsIn K mainGlobals "MOST_ROWS_IN_ORDER" = some (some (.int 8 t_MOST_ROWS_IN_ORDER)))
    (z_len : PySem.W.nsIn K mainGlobals "len" = some none)
    (z_list : PySem.W.nsIn K mainGlobals "list" = some none)
    (z_tuple : PySem.W.nsIn K mainGlobals "tuple" = some none)
    (z_int : PySem.W.nsIn K mainGlobals "int" = some none)
    (z_sum : PySem.W.nsIn K mainGlobals "sum" = some none)
    (z_all : PySem.W.nsIn K mainGlobals "all" = some none)
    (z_ord : PySem.W.nsIn K mainGlobals "ord" = some none)
    (z_sorted : PySem.W.nsIn K mainGlobals "sorted" = some none)
    (z_reversed : PySem.W.nsIn K mainGlobals "reversed" = some none)
    (z_enumerate : PySem.W.nsIn K mainGlobals "enumerate" = some none)
    (z_range : PySem.W.nsIn K mainGlobals "range" = some none)
    (z_zip : PySem.W.nsIn K mainGlobals "zip" = some none)
    (z_max : PySem.W.nsIn K mainGlobals "max" = some none)
    (z_min : PySem.W.nsIn K mainGlobals "min" = some none)
    (z_Exception : PySem.W.nsIn K mainGlobals "Exception" = some none) :
    ∃ T : Top K mg, Nonempty (FaultT K T.C_Fault) := by
  have F1 := fun_mk (st := s_Fault___init__) l1 c1 k1
  have b1 := F1.binds (ps := P_Fault___init__) fun _ _ _ _ _ _ us hl => match us, hl with | [_, _, _], _ => rfl
  have F2 := fun_mk (st := s_Nodes___init__) l2 c2 k2
  have b2 := F2.binds (ps := P_Nodes___init__) fun _ _ _ _ _ _ us hl => match us, hl with | [_], _ => rfl
  have F3 := fun_mk (st := s_Nodes_add_node) l3 c3 k3
  have b3 := F3.binds (ps := P_Nodes_add_node) fun _ _ _ _ _ _ us hl => match us, hl with | [_, _, _], _ => rfl
  have F4 := fun_mk (st := s_Nodes_add_formula) l4 c4 k4
  have b4 := F4.binds (ps := P_Nodes_add_formula) fun _ _ _ _ _ _ us hl => match us, hl with | [_, _], _ => rfl
  have F5 := fun_mk (st := s_Nodes_leader) l5 c5 k5
  have b5 := F5.binds (ps := P_Nodes_leader) fun _ _ _ _ _ _ us hl => match us, hl with | [_, _], _ => rfl
  have F6 := fun_mk (st := s_Nodes_part_leaders) l6 c6 k6
  have b6 := F6.binds (ps := P_Nodes_part_leaders) fun _ _ _ _ _ _ us hl => match us, hl with | [_, _], _ => rfl
  have F7 := fun_mk (st := s_Nodes_make_same) l7 c7 k7
  have b7 := F7.binds (ps := P_Nodes_make_same) fun _ _ _ _ _ _ us hl => match us, hl with | [_, _, _], _ => rfl
  have F8 := fun_mk (st := s_Nodes_sign_count) l8 c8 k8
  have b8 := F8.binds (ps := P_Nodes_sign_count) fun _ _ _ _ _ _ us hl => match us, hl with | [_, _], _ => rfl
  have F9 := fun_mk (st := s_Nodes_written) l9 c9 k9
  have b9 := F9.binds (ps := P_Nodes_written) fun _ _ _ _ _ _ us hl => match us, hl with | [_, _], _ => rfl
  have F10 := fun_mk (st := s_Text___init__) l10 c10 k10
  have b10 := F10.binds (ps := P_Text___init__) fun _ _ _ _ _ _ us hl => match us, hl with | [_], _ => rfl
  have F11 := fun_mk (st := s_Text_add_item) l11 c11 k11
  have b11 := F11.binds (ps := P_Text_add_item) fun _ _ _ _ _ _ us hl => match us, hl with | [_, _, _, _], _ => rfl
  have F12 := fun_mk (st := s_Text_has_item) l12 c12 k12
  have b12 := F12.binds (ps := P_Text_has_item) fun _ _ _ _ _ _ us hl => match us, hl with | [_, _], _ => rfl
  have F13 := fun_mk (st := s_Text_has_items) l13 c13 k13
  have b13 := F13.binds (ps := P_Text_has_items) fun _ _ _ _ _ _ us hl => match us, hl with | [_, _], _ => rfl
  have F14 := fun_mk (st := s_Text_axiom_count) l14 c14 k14
  have b14 := F14.binds (ps := P_Text_axiom_count) fun _ _ _ _ _ _ us hl => match us, hl with | [_], _ => rfl
  have F15 := fun_mk (st := s_Text_row_count) l15 c15 k15
  have b15 := F15.binds (ps := P_Text_row_count) fun _ _ _ _ _ _ us hl => match us, hl with | [_], _ => rfl
  have F16 := fun_mk (st := s_Text_detached_from) l16 c16 k16
  have b16 := F16.binds (ps := P_Text_detached_from) fun _ _ _ _ _ _ us hl => match us, hl with | [_, _], _ => rfl
  have F17 := fun_mk (st := s_NeededRows___init__) l17 c17 k17
  have b17 := F17.binds (ps := P_NeededRows___init__) fun _ _ _ _ _ _ us hl => match us, hl with | [_, _, _], _ => rfl
  have F18 := fun_mk (st := s_NeededRows_can_be_next) l18 c18 k18
  have b18 := F18.binds (ps := P_NeededRows_can_be_next) fun _ _ _ _ _ _ us hl => match us, hl with | [_, _, _], _ => rfl
  have F19 := fun_mk (st := s_NeededRows_next_bits) l19 c19 k19
  have b19 := F19.binds (ps := P_NeededRows_next_bits) fun _ _ _ _ _ _ us hl => match us, hl with | [_, _], _ => rfl
  have F20 := fun_mk (st := s_NeededRows_is_held) l20 c20 k20
  have b20 := F20.binds (ps := P_NeededRows_is_held) fun _ _ _ _ _ _ us hl => match us, hl with | [_, _, _], _ => rfl
  have F21 := fun_mk (st := s_NeededRows_places_taken) l21 c21 k21
  have b21 := F21.binds (ps := P_NeededRows_places_taken) fun _ _ _ _ _ _ us hl => match us, hl with | [_, _], _ => rfl
  have F22 := fun_mk (st := s_Reader___init__) l22 c22 k22
  have b22 := F22.binds (ps := P_Reader___init__) fun _ _ _ _ _ _ us hl => match us, hl with | [_, _], _ => rfl
  have F23 := fun_mk (st := s_Reader_word) l23 c23 k23
  have b23 := F23.binds (ps := P_Reader_word) fun _ _ _ _ _ _ us hl => match us, hl with | [_], _ => rfl
  have F24 := fun_mk (st := s_Reader_here) l24 c24 k24
  have b24 := F24.binds (ps := P_Reader_here) fun _ _ _ _ _ _ us hl => match us, hl with | [_], _ => rfl
  have F25 := fun_mk (st := s_Reader_take) l25 c25 k25
  have b25 := F25.binds (ps := P_Reader_take) fun _ _ _ _ _ _ us hl => match us, hl with | [_, _], _ => rfl
  have F26 := fun_mk (st := s_Reader_take_name) l26 c26 k26
  have b26 := F26.binds (ps := P_Reader_take_name) fun _ _ _ _ _ _ us hl => match us, hl with | [_], _ => rfl
  have F27 := fun_mk (st := s_Reader_take_nesting) l27 c27 k27
  have b27 := F27.binds (ps := P_Reader_take_nesting) fun _ _ _ _ _ _ us hl => match us, hl with | [_, _, _], _ => rfl
  have F28 := fun_mk (st := s_Holder___init__) l28 c28 k28
  have b28 := F28.binds (ps := P_Holder___init__) fun _ _ _ _ _ _ us hl => match us, hl with | [_], _ => rfl
  have F29 := fun_mk (st := s_Holder_load) l29 c29 k29
  have b29 := F29.binds (ps := P_Holder_load) fun _ _ _ _ _ _ us hl => match us, hl with | [_, _], _ => rfl
  have F30 := fun_mk (st := s_Holder_shown) l30 c30 k30
  have b30 := F30.binds (ps := P_Holder_shown) fun _ _ _ _ _ _ us hl => match us, hl with | [_], _ => rfl
  have F31 := fun_mk (st := s_Holder_prune) l31 c31 k31
  have b31 := F31.binds (ps := P_Holder_prune) fun _ _ _ _ _ _ us hl => match us, hl with | [_, _], _ => rfl
  have F32 := fun_mk (st := s_Holder_general) l32 c32 k32
  have b32 := F32.binds (ps := P_Holder_general) fun _ _ _ _ _ _ us hl => match us, hl with | [_, _], _ => rfl
  have F33 := fun_mk (st := s_Holder_shorten) l33 c33 k33
  have b33 := F33.binds (ps := P_Holder_shorten) fun _ _ _ _ _ _ us hl => match us, hl with | [_], _ => rfl
  have F34 := fun_mk (st := s_Holder_short) l34 c34 k34
  have b34 := F34.binds (ps := P_Holder_short) fun _ _ _ _ _ _ us hl => match us, hl with | [_], _ => rfl
  have F35 := fun_mk (st := s_Holder_order) l35 c35 k35
  have b35 := F35.binds (ps := P_Holder_order) fun _ _ _ _ _ _ us hl => match us, hl with | [_, _, _], _ => rfl
  have F36 := fun_mk (st := s_Holder_least) l36 c36 k36
  have b36 := F36.binds (ps := P_Holder_least) fun _ _ _ _ _ _ us hl => match us, hl with | [_, _], _ => rfl
  have F37 := fun_mk (st := s_Holder_totals) l37 c37 k37
  have b37 := F37.binds (ps := P_Holder_totals) fun _ _ _ _ _ _ us hl => match us, hl with | [_], _ => rfl
  have F38 := fun_mk (st := s_part_end) l38 c38 k38
  have b38 := F38.binds (ps := P_part_end) fun _ _ _ _ _ _ us hl => match us, hl with | [_, _], _ => rfl
  have F39 := fun_mk (st := s_is_instance) l39 c39 k39
  have b39 := F39.binds (ps := P_is_instance) fun _ _ _ _ _ _ us hl => match us, hl with | [_, _], _ => rfl
  have F40 := fun_mk (st := s_bracketed) l40 c40 k40
  have b40 := F40.binds (ps := P_bracketed) fun _ _ _ _ _ _ us hl => match us, hl with | [_], _ => rfl
  have F41 := fun_mk (st := s_formula_form) l41 c41 k41
  have b41 := F41.binds (ps := P_formula_form) fun _ _ _ _ _ _ us hl => match us, hl with | [_], _ => rfl
  have F42 := fun_mk (st := s_detached) l42 c42 k42
  have b42 := F42.binds (ps := P_detached) fun _ _ _ _ _ _ us hl => match us, hl with | [_, _], _ => rfl
  have F43 := fun_mk (st := s_first_with_instance) l43 c43 k43
  have b43 := F43.binds (ps := P_first_with_instance) fun _ _ _ _ _ _ us hl => match us, hl with | [_, _], _ => rfl
  have F44 := fun_mk (st := s_targets) l44 c44 k44
  have b44 := F44.binds (ps := P_targets) fun _ _ _ _ _ _ us hl => match us, hl with | [_], _ => rfl
  have F45 := fun_mk (st := s_needed_rows) l45 c45 k45
  have b45 := F45.binds (ps := P_needed_rows) fun _ _ _ _ _ _ us hl => match us, hl with | [_, _], _ => rfl
  have F46 := fun_mk (st := s_target_steps) l46 c46 k46
  have b46 := F46.binds (ps := P_target_steps) fun _ _ _ _ _ _ us hl => match us, hl with | [_], _ => rfl
  have F47 := fun_mk (st := s_item_form) l47 c47 k47
  have b47 := F47.binds (ps := P_item_form) fun _ _ _ _ _ _ us hl => match us, hl with | [_, _], _ => rfl
  have F48 := fun_mk (st := s_goal_form) l48 c48 k48
  have b48 := F48.binds (ps := P_goal_form) fun _ _ _ _ _ _ us hl => match us, hl with | [_], _ => rfl
  have F49 := fun_mk (st := s_one_form) l49 c49 k49
  have b49 := F49.binds (ps := P_one_form) fun _ _ _ _ _ _ us hl => match us, hl with | [_], _ => rfl
  have F50 := fun_mk (st := s_has_bit) l50 c50 k50
  have b50 := F50.binds (ps := P_has_bit) fun _ _ _ _ _ _ us hl => match us, hl with | [_, _], _ => rfl
  have F51 := fun_mk (st := s_with_bit) l51 c51 k51
  have b51 := F51.binds (ps := P_with_bit) fun _ _ _ _ _ _ us hl => match us, hl with | [_, _], _ => rfl
  have F52 := fun_mk (st := s_all_within) l52 c52 k52
  have b52 := F52.binds (ps := P_all_within) fun _ _ _ _ _ _ us hl => match us, hl with | [_, _], _ => rfl
  have F53 := fun_mk (st := s_bits_of) l53 c53 k53
  have b53 := F53.binds (ps := P_bits_of) fun _ _ _ _ _ _ us hl => match us, hl with | [_, _], _ => rfl
  have F54 := fun_mk (st := s_rows_detached_from) l54 c54 k54
  have b54 := F54.binds (ps := P_rows_detached_from) fun _ _ _ _ _ _ us hl => match us, hl with | [_, _, _], _ => rfl
  have F55 := fun_mk (st := s_peak_of) l55 c55 k55
  have b55 := F55.binds (ps := P_peak_of) fun _ _ _ _ _ _ us hl => match us, hl with | [_, _], _ => rfl
  have F56 := fun_mk (st := s_least_peaks) l56 c56 k56
  have b56 := F56.binds (ps := P_least_peaks) fun _ _ _ _ _ _ us hl => match us, hl with | [_], _ => rfl
  have F57 := fun_mk (st := s_first_order) l57 c57 k57
  have b57 := F57.binds (ps := P_first_order) fun _ _ _ _ _ _ us hl => match us, hl with | [_, _], _ => rfl
  have F58 := fun_mk (st := s_as_signs) l58 c58 k58
  have b58 := F58.binds (ps := P_as_signs) fun _ _ _ _ _ _ us hl => match us, hl with | [_], _ => rfl
  have F59 := fun_mk (st := s_remark_end) l59 c59 k59
  have b59 := F59.binds (ps := P_remark_end) fun _ _ _ _ _ _ us hl => match us, hl with | [_, _], _ => rfl
  have F60 := fun_mk (st := s_token_place) l60 c60 k60
  have b60 := F60.binds (ps := P_token_place) fun _ _ _ _ _ _ us hl => match us, hl with | [_, _], _ => rfl
  have F61 := fun_mk (st := s_token_end) l61 c61 k61
  have b61 := F61.binds (ps := P_token_end) fun _ _ _ _ _ _ us hl => match us, hl with | [_, _], _ => rfl
  have F62 := fun_mk (st := s_is_number) l62 c62 k62
  have b62 := F62.binds (ps := P_is_number) fun _ _ _ _ _ _ us hl => match us, hl with | [_], _ => rfl
  have F63 := fun_mk (st := s_is_token) l63 c63 k63
  have b63 := F63.binds (ps := P_is_token) fun _ _ _ _ _ _ us hl => match us, hl with | [_], _ => rfl
  have F64 := fun_mk (st := s_is_name) l64 c64 k64
  have b64 := F64.binds (ps := P_is_name) fun _ _ _ _ _ _ us hl => match us, hl with | [_], _ => rfl
  have F65 := fun_mk (st := s_tokens_of) l65 c65 k65
  have b65 := F65.binds (ps := P_tokens_of) fun _ _ _ _ _ _ us hl => match us, hl with | [_], _ => rfl
  have F66 := fun_mk (st := s_read_part) l66 c66 k66
  have b66 := F66.binds (ps := P_read_part) fun _ _ _ _ _ _ us hl => match us, hl with | [_, _, _], _ => rfl
  have F67 := fun_mk (st := s_read_signs) l67 c67 k67
  have b67 := F67.binds (ps := P_read_signs) fun _ _ _ _ _ _ us hl => match us, hl with | [_, _, _], _ => rfl
  have F68 := fun_mk (st := s_read_formula) l68 c68 k68
  have b68 := F68.binds (ps := P_read_formula) fun _ _ _ _ _ _ us hl => match us, hl with | [_], _ => rfl
  have F69 := fun_mk (st := s_read_new_name) l69 c69 k69
  have b69 := F69.binds (ps := P_read_new_name) fun _ _ _ _ _ _ us hl => match us, hl with | [_, _], _ => rfl
  have F70 := fun_mk (st := s_read_item) l70 c70 k70
  have b70 := F70.binds (ps := P_read_item) fun _ _ _ _ _ _ us hl => match us, hl with | [_, _], _ => rfl
  have F71 := fun_mk (st := s_begins) l71 c71 k71
  have b71 := F71.binds (ps := P_begins) fun _ _ _ _ _ _ us hl => match us, hl with | [_, _, _, _], _ => rfl
  have F72 := fun_mk (st := s_read_axioms) l72 c72 k72
  have b72 := F72.binds (ps := P_read_axioms) fun _ _ _ _ _ _ us hl => match us, hl with | [_, _], _ => rfl
  have F73 := fun_mk (st := s_read_rows) l73 c73 k73
  have b73 := F73.binds (ps := P_read_rows) fun _ _ _ _ _ _ us hl => match us, hl with | [_, _], _ => rfl
  have F74 := fun_mk (st := s_read_goals) l74 c74 k74
  have b74 := F74.binds (ps := P_read_goals) fun _ _ _ _ _ _ us hl => match us, hl with | [_, _], _ => rfl
  have F75 := fun_mk (st := s_read_text) l75 c75 k75
  have b75 := F75.binds (ps := P_read_text) fun _ _ _ _ _ _ us hl => match us, hl with | [_], _ => rfl
  have F76 := fun_mk (st := s_merge_row) l76 c76 k76
  have b76 := F76.binds (ps := P_merge_row) fun _ _ _ _ _ _ us hl => match us, hl with | [_, _, _, _], _ => rfl
  have F77 := fun_mk (st := s_merged) l77 c77 k77
  have b77 := F77.binds (ps := P_merged) fun _ _ _ _ _ _ us hl => match us, hl with | [_], _ => rfl
  have F78 := fun_mk (st := s_with_rows_alone) l78 c78 k78
  have b78 := F78.binds (ps := P_with_rows_alone) fun _ _ _ _ _ _ us hl => match us, hl with | [_, _], _ => rfl
  have F79 := fun_mk (st := s_shortened) l79 c79 k79
  have b79 := F79.binds (ps := P_shortened) fun _ _ _ _ _ _ us hl => match us, hl with | [_], _ => rfl
  have F80 := fun_mk (st := s_form_told) l80 c80 k80
  have b80 := F80.binds (ps := P_form_told) fun _ _ _ _ _ _ us hl => match us, hl with | [_], _ => rfl
  have F81 := fun_mk (st := s_parted) l81 c81 k81
  have b81 := F81.binds (ps := P_parted) fun _ _ _ _ _ _ us hl => match us, hl with | [_], _ => rfl
  have F82 := fun_mk (st := s_answer_one) l82 c82 k82
  have b82 := F82.binds (ps := P_answer_one) fun _ _ _ _ _ _ us hl => match us, hl with | [_, _, _], _ => rfl
  have F83 := fun_mk (st := s_answers) l83 c83 k83
  have b83 := F83.binds (ps := P_answers) fun _ _ _ _ _ _ us hl => match us, hl with | [_], _ => rfl
  exact ⟨{
    C_Fault := C_Fault
    mg_Fault := PySem.W.mg_of X G aC_Fault
    C_Nodes := C_Nodes
    mg_Nodes := PySem.W.mg_of X G aC_Nodes
    cl_Nodes := ⟨pg_Nodes, hd_Nodes, po_Nodes, sa_Nodes⟩
    n_Nodes_signs := n_Nodes_signs
    n_Nodes_parts := n_Nodes_parts
    n_Nodes_joined := n_Nodes_joined
    m_Nodes___init__ := ⟨_, _, F2, ⟨mk_Nodes, a2, i2, kc_Nodes⟩, b2⟩
    m_Nodes_add_node := ⟨_, _, F3, ⟨a3, i3, k3⟩, b3⟩
    m_Nodes_add_formula := ⟨_, _, F4, ⟨a4, i4, k4⟩, b4⟩
    m_Nodes_leader := ⟨_, _, F5, ⟨a5, i5, k5⟩, b5⟩
    m_Nodes_part_leaders := ⟨_, _, F6, ⟨a6, i6, k6⟩, b6⟩
    m_Nodes_make_same := ⟨_, _, F7, ⟨a7, i7, k7⟩, b7⟩
    m_Nodes_sign_count := ⟨_, _, F8, ⟨a8, i8, k8⟩, b8⟩
    m_Nodes_written := ⟨_, _, F9, ⟨a9, i9, k9⟩, b9⟩
    C_Text := C_Text
    mg_Text := PySem.W.mg_of X G aC_Text
    cl_Text := ⟨pg_Text, hd_Text, po_Text, sa_Text⟩
    n_Text_names := n_Text_names
    n_Text_sources := n_Text_sources
    n_Text_formulas := n_Text_formulas
    n_Text_goals := n_Text_goals
    m_Text___init__ := ⟨_, _, F10, ⟨mk_Text, a10, i10, kc_Text⟩, b10⟩
    m_Text_add_item := ⟨_, _, F11, ⟨a11, i11, k11⟩, b11⟩
    m_Text_has_item := ⟨_, _, F12, ⟨a12, i12, k12⟩, b12⟩
    m_Text_has_items := ⟨_, _, F13, ⟨a13, i13, k13⟩, b13⟩
    m_Text_axiom_count := ⟨_, _, F14, ⟨a14, i14, k14⟩, b14⟩
    m_Text_row_count := ⟨_, _, F15, ⟨a15, i15, k15⟩, b15⟩
    m_Text_detached_from := ⟨_, _, F16, ⟨a16, i16, k16⟩, b16⟩
    C_NeededRows := C_NeededRows
    mg_NeededRows := PySem.W.mg_of X G aC_NeededRows
    cl_NeededRows := ⟨pg_NeededRows, hd_NeededRows, po_NeededRows, sa_NeededRows⟩
    n_NeededRows_rows := n_NeededRows_rows
    n_NeededRows_wished := n_NeededRows_wished
    n_NeededRows_sources := n_NeededRows_sources
    n_NeededRows_users := n_NeededRows_users
    m_NeededRows___init__ := ⟨_, _, F17, ⟨mk_NeededRows, a17, i17, kc_NeededRows⟩, b17⟩
    m_NeededRows_can_be_next := ⟨_, _, F18, ⟨a18, i18, k18⟩, b18⟩
    m_NeededRows_next_bits := ⟨_, _, F19, ⟨a19, i19, k19⟩, b19⟩
    m_NeededRows_is_held := ⟨_, _, F20, ⟨a20, i20, k20⟩, b20⟩
    m_NeededRows_places_taken := ⟨_, _, F21, ⟨a21, i21, k21⟩, b21⟩
    C_Reader := C_Reader
    mg_Reader := PySem.W.mg_of X G aC_Reader
    cl_Reader := ⟨pg_Reader, hd_Reader, po_Reader, sa_Reader⟩
    n_Reader_tokens := n_Reader_tokens
    n_Reader_at := n_Reader_at
    m_Reader___init__ := ⟨_, _, F22, ⟨mk_Reader, a22, i22, kc_Reader⟩, b22⟩
    m_Reader_word := ⟨_, _, F23, ⟨a23, i23, k23⟩, b23⟩
    m_Reader_here := ⟨_, _, F24, ⟨a24, i24, k24⟩, b24⟩
    m_Reader_take := ⟨_, _, F25, ⟨a25, i25, k25⟩, b25⟩
    m_Reader_take_name := ⟨_, _, F26, ⟨a26, i26, k26⟩, b26⟩
    m_Reader_take_nesting := ⟨_, _, F27, ⟨a27, i27, k27⟩, b27⟩
    C_Holder := C_Holder
    mg_Holder := PySem.W.mg_of X G aC_Holder
    cl_Holder := ⟨pg_Holder, hd_Holder, po_Holder, sa_Holder⟩
    n_Holder_text := n_Holder_text
    m_Holder___init__ := ⟨_, _, F28, ⟨mk_Holder, a28, i28, kc_Holder⟩, b28⟩
    m_Holder_load := ⟨_, _, F29, ⟨a29, i29, k29⟩, b29⟩
    m_Holder_shown := ⟨_, _, F30, ⟨a30, i30, k30⟩, b30⟩
    m_Holder_prune := ⟨_, _, F31, ⟨a31, i31, k31⟩, b31⟩
    m_Holder_general := ⟨_, _, F32, ⟨a32, i32, k32⟩, b32⟩
    m_Holder_shorten := ⟨_, _, F33, ⟨a33, i33, k33⟩, b33⟩
    m_Holder_short := ⟨_, _, F34, ⟨a34, i34, k34⟩, b34⟩
    m_Holder_order := ⟨_, _, F35, ⟨a35, i35, k35⟩, b35⟩
    m_Holder_least := ⟨_, _, F36, ⟨a36, i36, k36⟩, b36⟩
    m_Holder_totals := ⟨_, _, F37, ⟨a37, i37, k37⟩, b37⟩
    d_part_end := ⟨_, _, F38, PySem.W.mg_of X G a38, b38⟩
    d_is_instance := ⟨_, _, F39, PySem.W.mg_of X G a39, b39⟩
    d_bracketed := ⟨_, _, F40, PySem.W.mg_of X G a40, b40⟩
    d_formula_form := ⟨_, _, F41, PySem.W.mg_of X G a41, b41⟩
    d_detached := ⟨_, _, F42, PySem.W.mg_of X G a42, b42⟩
    d_first_with_instance := ⟨_, _, F43, PySem.W.mg_of X G a43, b43⟩
    d_targets := ⟨_, _, F44, PySem.W.mg_of X G a44, b44⟩
    d_needed_rows := ⟨_, _, F45, PySem.W.mg_of X G a45, b45⟩
    d_target_steps := ⟨_, _, F46, PySem.W.mg_of X G a46, b46⟩
    d_item_form := ⟨_, _, F47, PySem.W.mg_of X G a47, b47⟩
    d_goal_form := ⟨_, _, F48, PySem.W.mg_of X G a48, b48⟩
    d_one_form := ⟨_, _, F49, PySem.W.mg_of X G a49, b49⟩
    d_has_bit := ⟨_, _, F50, PySem.W.mg_of X G a50, b50⟩
    d_with_bit := ⟨_, _, F51, PySem.W.mg_of X G a51, b51⟩
    d_all_within := ⟨_, _, F52, PySem.W.mg_of X G a52, b52⟩
    d_bits_of := ⟨_, _, F53, PySem.W.mg_of X G a53, b53⟩
    d_rows_detached_from := ⟨_, _, F54, PySem.W.mg_of X G a54, b54⟩
    d_peak_of := ⟨_, _, F55, PySem.W.mg_of X G a55, b55⟩
    d_least_peaks := ⟨_, _, F56, PySem.W.mg_of X G a56, b56⟩
    d_first_order := ⟨_, _, F57, PySem.W.mg_of X G a57, b57⟩
    d_as_signs := ⟨_, _, F58, PySem.W.mg_of X G a58, b58⟩
    d_remark_end := ⟨_, _, F59, PySem.W.mg_of X G a59, b59⟩
    d_token_place := ⟨_, _, F60, PySem.W.mg_of X G a60, b60⟩
    d_token_end := ⟨_, _, F61, PySem.W.mg_of X G a61, b61⟩
    d_is_number := ⟨_, _, F62, PySem.W.mg_of X G a62, b62⟩
    d_is_token := ⟨_, _, F63, PySem.W.mg_of X G a63, b63⟩
    d_is_name := ⟨_, _, F64, PySem.W.mg_of X G a64, b64⟩
    d_tokens_of := ⟨_, _, F65, PySem.W.mg_of X G a65, b65⟩
    d_read_part := ⟨_, _, F66, PySem.W.mg_of X G a66, b66⟩
    d_read_signs := ⟨_, _, F67, PySem.W.mg_of X G a67, b67⟩
    d_read_formula := ⟨_, _, F68, PySem.W.mg_of X G a68, b68⟩
    d_read_new_name := ⟨_, _, F69, PySem.W.mg_of X G a69, b69⟩
    d_read_item := ⟨_, _, F70, PySem.W.mg_of X G a70, b70⟩
    d_begins := ⟨_, _, F71, PySem.W.mg_of X G a71, b71⟩
    d_read_axioms := ⟨_, _, F72, PySem.W.mg_of X G a72, b72⟩
    d_read_rows := ⟨_, _, F73, PySem.W.mg_of X G a73, b73⟩
    d_read_goals := ⟨_, _, F74, PySem.W.mg_of X G a74, b74⟩
    d_read_text := ⟨_, _, F75, PySem.W.mg_of X G a75, b75⟩
    d_merge_row := ⟨_, _, F76, PySem.W.mg_of X G a76, b76⟩
    d_merged := ⟨_, _, F77, PySem.W.mg_of X G a77, b77⟩
    d_with_rows_alone := ⟨_, _, F78, PySem.W.mg_of X G a78, b78⟩
    d_shortened := ⟨_, _, F79, PySem.W.mg_of X G a79, b79⟩
    d_form_told := ⟨_, _, F80, PySem.W.mg_of X G a80, b80⟩
    d_parted := ⟨_, _, F81, PySem.W.mg_of X G a81, b81⟩
    d_answer_one := ⟨_, _, F82, PySem.W.mg_of X G a82, b82⟩
    d_answers := ⟨_, _, F83, PySem.W.mg_of X G a83, b83⟩
    c_TEXT_TOO_LONG := ⟨_, PySem.W.mg_of X G a_TEXT_TOO_LONG⟩
    c_NO_TOKEN := ⟨_, PySem.W.mg_of X G a_NO_TOKEN⟩
    c_NOT_ALLOWED := ⟨_, PySem.W.mg_of X G a_NOT_ALLOWED⟩
    c_ONE_TOO_MANY := ⟨_, PySem.W.mg_of X G a_ONE_TOO_MANY⟩
    c_NAME_TAKEN := ⟨_, PySem.W.mg_of X G a_NAME_TAKEN⟩
    c_NAME_UNKNOWN := ⟨_, PySem.W.mg_of X G a_NAME_UNKNOWN⟩
    c_TOO_MANY_SIGNS := ⟨_, PySem.W.mg_of X G a_TOO_MANY_SIGNS⟩
    c_TOO_DEEP := ⟨_, PySem.W.mg_of X G a_TOO_DEEP⟩
    c_IMPLIES := ⟨_, PySem.W.mg_of X G a_IMPLIES⟩
    c_DENIES := ⟨_, PySem.W.mg_of X G a_DENIES⟩
    c_FIRST_UNKNOWN := ⟨_, PySem.W.mg_of X G a_FIRST_UNKNOWN⟩
    c_MOST_SIGNS_ON_THE_WAY := ⟨_, PySem.W.mg_of X G a_MOST_SIGNS_ON_THE_WAY⟩
    c_MOST_SIGNS_DETACHED := ⟨_, PySem.W.mg_of X G a_MOST_SIGNS_DETACHED⟩
    c_LETTERS := ⟨_, PySem.W.mg_of X G a_LETTERS⟩
    c_DIGITS := ⟨_, PySem.W.mg_of X G a_DIGITS⟩
    c_SIGNS := ⟨_, PySem.W.mg_of X G a_SIGNS⟩
    c_BLANKS := ⟨_, PySem.W.mg_of X G a_BLANKS⟩
    c_REMARK := ⟨_, PySem.W.mg_of X G a_REMARK⟩
    c_OTHER := ⟨_, PySem.W.mg_of X G a_OTHER⟩
    c_RESERVED := ⟨r_RESERVED, PySem.W.mg_of X G a_RESERVED, fun H => .inr ⟨_, _, _, t_RESERVED, rfl, rfl, (show 3 ≤ sizeLine by decide), (.cons relS (.cons relS (.cons relS .nil)))⟩⟩
    c_LONGEST_NAME := ⟨_, PySem.W.mg_of X G a_LONGEST_NAME⟩
    c_GREATEST_NUMBER := ⟨_, PySem.W.mg_of X G a_GREATEST_NUMBER⟩
    c_MOST_DIGITS := ⟨_, PySem.W.mg_of X G a_MOST_DIGITS⟩
    c_END := ⟨_, PySem.W.mg_of X G a_END⟩
    c_MOST_BYTES := ⟨_, PySem.W.mg_of X G a_MOST_BYTES⟩
    c_MOST_AXIOMS := ⟨_, PySem.W.mg_of X G a_MOST_AXIOMS⟩
    c_MOST_ROWS := ⟨_, PySem.W.mg_of X G a_MOST_ROWS⟩
    c_MOST_GOALS := ⟨_, PySem.W.mg_of X G a_MOST_GOALS⟩
    c_MOST_SIGNS := ⟨_, PySem.W.mg_of X G a_MOST_SIGNS⟩
    c_MOST_WITHIN := ⟨_, PySem.W.mg_of X G a_MOST_WITHIN⟩
    c_LOAD := ⟨_, PySem.W.mg_of X G a_LOAD⟩
    c_SHOWN := ⟨_, PySem.W.mg_of X G a_SHOWN⟩
    c_PRUNE := ⟨_, PySem.W.mg_of X G a_PRUNE⟩
    c_GENERAL := ⟨_, PySem.W.mg_of X G a_GENERAL⟩
    c_SHORTEN := ⟨_, PySem.W.mg_of X G a_SHORTEN⟩
    c_SHORT := ⟨_, PySem.W.mg_of X G a_SHORT⟩
    c_ORDER := ⟨_, PySem.W.mg_of X G a_ORDER⟩
    c_LEAST := ⟨_, PySem.W.mg_of X G a_LEAST⟩
    c_SHAPES := ⟨r_SHAPES, PySem.W.mg_of X G a_SHAPES, [w_0, w_1, w_2, w_3, w_4, w_5, w_6, w_7, w_8], fun H => .inr ⟨_, _, _, t_SHAPES, rfl, rfl, (show 9 ≤ sizeLine by decide), (.cons rfl (.cons rfl (.cons rfl (.cons rfl (.cons rfl (.cons rfl (.cons rfl (.cons rfl (.cons rfl .nil)))))))))⟩, (.cons (fun H => .inr ⟨_, _, _, tw_0, rfl, rfl, (show 2 ≤ sizeLine by decide), (.cons relI (.cons relI .nil))⟩) (.cons (fun H => .inr ⟨_, _, _, tw_1, rfl, rfl, (show 2 ≤ sizeLine by decide), (.cons relI (.cons relI .nil))⟩) (.cons (fun H => .inr ⟨_, _, _, tw_2, rfl, rfl, (show 2 ≤ sizeLine by decide), (.cons relI (.cons relI .nil))⟩) (.cons (fun H => .inr ⟨_, _, _, tw_3, rfl, rfl, (show 2 ≤ sizeLine by decide), (.cons relI (.cons relI .nil))⟩) (.cons (fun H => .inr ⟨_, _, _, tw_4, rfl, rfl, (show 2 ≤ sizeLine by decide), (.cons relI (.cons relI .nil))⟩) (.cons (fun H => .inr ⟨_, _, _, tw_5, rfl, rfl, (show 2 ≤ sizeLine by decide), (.cons relI (.cons relI .nil))⟩) (.cons (fun H => .inr ⟨_, _, _, tw_6, rfl, rfl, (show 2 ≤ sizeLine by decide), (.cons relI (.cons relI .nil))⟩) (.cons (fun H => .inr ⟨_, _, _, tw_7, rfl, rfl, (show 2 ≤ sizeLine by decide), (.cons relI (.cons relI .nil))⟩) (.cons (fun H => .inr ⟨_, _, _, tw_8, rfl, rfl, (show 2 ≤ sizeLine by decide), (.cons relI (.cons relI .nil))⟩) .nil)))))))))⟩
    c_MOST_ROWS_IN_ORDER := ⟨_, PySem.W.mg_of X G a_MOST_ROWS_IN_ORDER⟩
    b_len := PySem.W.mg_none_of X G z_len
    b_list := PySem.W.mg_none_of X G z_list
    b_tuple := PySem.W.mg_none_of X G z_tuple
    b_int := PySem.W.mg_none_of X G z_int
    b_sum := PySem.W.mg_none_of X G z_sum
    b_all := PySem.W.mg_none_of X G z_all
    b_ord := PySem.W.mg_none_of X G z_ord
    b_sorted := PySem.W.mg_none_of X G z_sorted
    b_reversed := PySem.W.mg_none_of X G z_reversed
    b_enumerate := PySem.W.mg_none_of X G z_enumerate
    b_range := PySem.W.mg_none_of X G z_range
    b_zip := PySem.W.mg_none_of X G z_zip
    b_max := PySem.W.mg_none_of X G z_max
    b_min := PySem.W.mg_none_of X G z_min
    b_Exception := PySem.W.mg_none_of X G z_Exception }, fault_mk xL xs xb xt xk eI eT l1 c1 k1 eC eP xga xgg xh xn xx⟩
end Shp
end
section
set_option maxRecDepth 100000
set_option maxHeartbeats 4000000
namespace Shp
open PySem PySem.Spec PyProof.Rows L2
def spAns (K : PySem.W.Frag) : Sp := fun vs H Q _ => ∃ (l : Addr) (ns : List Int),
  vs = [.ref l] ∧ SqL K H l (ivs ns) ∧ ns.length ≤ 16000 ∧ PyVapcmb.answers_asked ns = true ∧ ∀ (D : Addr) (H' : Hp), Same H H' → H' D = some (.lst (ivs (PyVapcmb.answers ns))) → Q (.ref D) H'
theorem top_fin {P : Program} {w : World} {K : PySem.W.Frag} {mg : Str → Option Value} {fa : Addr} (T : Top K mg) (TF : FaultT K T.C_Fault) (hmg : mg "answers" = some (.ref fa)) :
    ∃ fd : FuncData, (∀ (s : Shared) (us : List Value), us.length = (["calls"] : List Str).length → BindsTo s fd ⟨us, []⟩ ((["calls"] : List Str).zip us)) ∧ ∀ base : Heap, K.In base → base.Ns mainGlobals mg → FnOk P w K mg base CX0 93 fa fd ["calls"] (spAns K) := by
  have e := hmg.symm.trans T.d_answers.mg
  cases e
  have G : ∀ base : Heap, FnOk P w K mg base CX0 93 T.d_answers.f T.d_answers.fd ["calls"] (spAns K) := fun base => ok_answers T TF
  obtain ⟨oc, od, kV, doc, pm, an, cdv, ct, osl, ef, lk, hcd⟩ := T.d_answers.F.ex
  refine ⟨T.d_answers.fd, ?_, fun base _ _ => G base⟩
  rw [ef]
  exact fun s us hu => match us, hu with | [_], _ => .of_eq rfl
theorem ans_req (K : PySem.W.Frag) (H : Hp) (xs : List V) (a : PySem.W.Codec.denoteAll PySem.Challenge.rw_shortproofs_s01_answers.args) (hwi : PySem.W.Codec.withinAll PySem.Challenge.rw_shortproofs_s01_answers.args a = true)
    (hask : PySem.W.Codec.app PySem.Challenge.rw_shortproofs_s01_answers.args PySem.Challenge.rw_shortproofs_s01_answers.asked a = true) (hx : DwAll K H xs (PySem.W.Codec.encAll PySem.Challenge.rw_shortproofs_s01_answers.args a)) :
    spAns K xs H (fun v H' => Dw K H' v (PySem.Challenge.rw_shortproofs_s01_answers.ret.enc (PySem.W.Codec.app PySem.Challenge.rw_shortproofs_s01_answers.args PySem.Challenge.rw_shortproofs_s01_answers.f a))) fun _ _ _ => False := by
  cases hx with
  | cons h1 h2 =>
    cases h2
    cases h1 with
    | lst hs ha =>
      have e := L2.ints_dw a.1 _ ha
      subst e
      have q : ((PySem.W.Codec.inLen 0 16000 a.1 && a.1.all (PySem.W.Codec.inInt (-1000000000000000000) 1000000000000000000)) && true) = true := hwi
      rw [Bool.and_eq_true, Bool.and_eq_true] at q
      exact ⟨_, a.1, rfl, hs, (PySem.W.Codec.inNat_iff.mp q.1.1).2, hask, fun D H' sm hD => .lst (SqL.of hD) (L2.dw_ints _)⟩
end Shp
end
open PySem PySem.W PyProof.Rows
set_option maxRecDepth 100000 in
set_option maxHeartbeats 8000000 in
theorem PySem.Challenge.cw_shortproofs_s01_answers_holds : PySem.Challenge.rw_shortproofs_s01_answers.Holds := by
  w_on; k_headS; (case hw => exact ⟨[.list [.int 1]], by decide +kernel, by decide +kernel⟩)
  k_fillS
  refine L2.walk_specK (r := PySem.Challenge.rw_shortproofs_s01_answers) (k := 93) (CX := L2.CX0) (ps := ["calls"]) (sp := Shp.spAns) (by decide +kernel) rfl rfl ⟨rfl, by decide, by decide⟩ (fun w h Y => PySem.W.kIn_of Y) ?F ?S (fun _ _ _ _ z => z)
  case F =>
    intro w mg fa h Y KX G hmg
    refine' Exists.elim (Shp.top_mk KX G ?aC_Fault ?eI ?l1 ?c1 ?k1 ?eT ?eC ?eP ?xL ?xs ?xb ?xt ?xk ?xga ?xgg ?xh ?xn ?xx ?aC_Nodes ?pg_Nodes ?hd_Nodes ?po_Nodes ?sa_Nodes ?n_Nodes_signs ?n_Nodes_parts ?n_Nodes_joined ?a2 ?i2 ?l2 ?c2 ?k2 ?mk_Nodes ?kc_Nodes ?a3 ?i3 ?l3 ?c3 ?k3 ?a4 ?i4 ?l4 ?c4 ?k4 ?a5 ?i5 ?l5 ?c5 ?k5 ?a6 ?i6 ?l6 ?c6 ?k6 ?a7 ?i7 ?l7 ?c7 ?k7 ?a8 ?i8 ?l8 ?c8 ?k8 ?a9 ?i9 ?l9 ?c9 ?k9 ?aC_Text ?pg_Text ?hd_Text ?po_Text ?sa_Text ?n_Text_names ?n_Text_sources ?n_Text_formulas ?n_Text_goals ?a10 ?i10 ?l10 ?c10 ?k10 ?mk_Text ?kc_Text ?a11 ?i11 ?l11 ?c11 ?k11 ?a12 ?i12 ?l12 ?c12 ?k12 ?a13 ?i13 ?l13 ?c13 ?k13 ?a14 ?i14 ?l14 ?c14 ?k14 ?a15 ?i15 ?l15 ?c15 ?k15 ?a16 ?i16 ?l16 ?c16 ?k16 ?aC_NeededRows ?pg_NeededRows ?hd_NeededRows ?po_NeededRows ?sa_NeededRows ?n_NeededRows_rows ?n_NeededRows_wished ?n_NeededRows_sources ?n_NeededRows_users ?a17 ?i17 ?l17 ?c17 ?k17 ?mk_NeededRows ?kc_NeededRows ?a18 ?i18 ?l18 ?c18 ?k18 ?a19 ?i19 ?l19 ?c19 ?k19 ?a20 ?i20 ?l20 ?c20 ?k20 ?a21 ?i21 ?l21 ?c21 ?k21 ?aC_Reader ?pg_Reader ?hd_Reader ?po_Reader ?sa_Reader ?n_Reader_tokens ?n_Reader_at ?a22 ?i22 ?l22 ?c22 ?k22 ?mk_Reader ?kc_Reader ?a23 ?i23 ?l23 ?c23 ?k23 ?a24 ?i24 ?l24 ?c24 ?k24 ?a25 ?i25 ?l25 ?c25 ?k25 ?a26 ?i26 ?l26 ?c26 ?k26 ?a27 ?i27 ?l27 ?c27 ?k27 ?aC_Holder ?pg_Holder ?hd_Holder ?po_Holder ?sa_Holder ?n_Holder_text ?a28 ?i28 ?l28 ?c28 ?k28 ?mk_Holder ?kc_Holder ?a29 ?i29 ?l29 ?c29 ?k29 ?a30 ?i30 ?l30 ?c30 ?k30 ?a31 ?i31 ?l31 ?c31 ?k31 ?a32 ?i32 ?l32 ?c32 ?k32 ?a33 ?i33 ?l33 ?c33 ?k33 ?a34 ?i34 ?l34 ?c34 ?k34 ?a35 ?i35 ?l35 ?c35 ?k35 ?a36 ?i36 ?l36 ?c36 ?k36 ?a37 ?i37 ?l37 ?c37 ?k37 ?a38 ?l38 ?c38 ?k38 ?a39 ?l39 ?c39 ?k39 ?a40 ?l40 ?c40 ?k40 ?a41 ?l41 ?c41 ?k41 ?a42 ?l42 ?c42 ?k42 ?a43 ?l43 ?c43 ?k43 ?a44 ?l44 ?c44 ?k44 ?a45 ?l45 ?c45 ?k45 ?a46 ?l46 ?c46 ?k46 ?a47 ?l47 ?c47 ?k47 ?a48 ?l48 ?c48 ?k48 ?a49 ?l49 ?c49 ?k49 ?a50 ?l50 ?c50 ?k50 ?a51 ?l51 ?c51 ?k51 ?a52 ?l52 ?c52 ?k52 ?a53 ?l53 ?c53 ?k53 ?a54 ?l54 ?c54 ?k54 ?a55 ?l55 ?c55 ?k55 ?a56 ?l56 ?c56 ?k56 ?a57 ?l57 ?c57 ?k57 ?a58 ?l58 ?c58 ?k58 ?a59 ?l59 ?c59 ?k59 ?a60 ?l60 ?c60 ?k60 ?a61 ?l61 ?c61 ?k61 ?a62 ?l62 ?c62 ?k62 ?a63 ?l63 ?c63 ?k63 ?a64 ?l64 ?c64 ?k64 ?a65 ?l65 ?c65 ?k65 ?a66 ?l66 ?c66 ?k66 ?a67 ?l67 ?c67 ?k67 ?a68 ?l68 ?c68 ?k68 ?a69 ?l69 ?c69 ?k69 ?a70 ?l70 ?c70 ?k70 ?a71 ?l71 ?c71 ?k71 ?a72 ?l72 ?c72 ?k72 ?a73 ?l73 ?c73 ?k73 ?a74 ?l74 ?c74 ?k74 ?a75 ?l75 ?c75 ?k75 ?a76 ?l76 ?c76 ?k76 ?a77 ?l77 ?c77 ?k77 ?a78 ?l78 ?c78 ?k78 ?a79 ?l79 ?c79 ?k79 ?a80 ?l80 ?c80 ?k80 ?a81 ?l81 ?c81 ?k81 ?a82 ?l82 ?c82 ?k82 ?a83 ?l83 ?c83 ?k83 ?a_TEXT_TOO_LONG ?a_NO_TOKEN ?a_NOT_ALLOWED ?a_ONE_TOO_MANY ?a_NAME_TAKEN ?a_NAME_UNKNOWN ?a_TOO_MANY_SIGNS ?a_TOO_DEEP ?a_IMPLIES ?a_DENIES ?a_FIRST_UNKNOWN ?a_MOST_SIGNS_ON_THE_WAY ?a_MOST_SIGNS_DETACHED ?a_LETTERS ?a_DIGITS ?a_SIGNS ?a_BLANKS ?a_REMARK ?a_OTHER ?a_RESERVED ?t_RESERVED ?a_LONGEST_NAME ?a_GREATEST_NUMBER ?a_MOST_DIGITS ?a_END ?a_MOST_BYTES ?a_MOST_AXIOMS ?a_MOST_ROWS ?a_MOST_GOALS ?a_MOST_SIGNS ?a_MOST_WITHIN ?a_LOAD ?a_SHOWN ?a_PRUNE ?a_GENERAL ?a_SHORTEN ?a_SHORT ?a_ORDER ?a_LEAST ?a_SHAPES ?t_SHAPES ?tw_0 ?tw_1 ?tw_2 ?tw_3 ?tw_4 ?tw_5 ?tw_6 ?tw_7 ?tw_8 ?a_MOST_ROWS_IN_ORDER ?z_len ?z_list ?z_tuple ?z_int ?z_sum ?z_all ?z_ord ?z_sorted ?z_reversed ?z_enumerate ?z_range ?z_zip ?z_max ?z_min ?z_Exception) ?fin
    (case aC_Fault => k_is)
    (case eI => k_is)
    (case l1 => k_is)
    (case c1 => k_is)
    (case k1 => k_is)
    (case eT => k_is)
    (case eC => k_is)
    (case eP => k_is)
    (case xL => k_is)
    (case xs => k_is)
    (case xb => k_is)
    (case xt => k_is)
    (case xk => k_is)
    (case xga => k_is)
    (case xgg => k_is)
    (case xh => k_is)
    (case xn => k_is)
    (case xx => first | rfl | k_is)
    (case aC_Nodes => k_is)
    (case pg_Nodes => k_is)
    (case hd_Nodes => k_is)
    (case po_Nodes => k_is)
    (case sa_Nodes => k_is)
    (case n_Nodes_signs => k_is)
    (case n_Nodes_parts => k_is)
    (case n_Nodes_joined => k_is)
    (case a2 => k_is)
    (case i2 => k_is)
    (case l2 => k_is)
    (case c2 => k_is)
    (case k2 => k_is)
    (case mk_Nodes => k_is)
    (case kc_Nodes => k_is)
    (case a3 => k_is)
    (case i3 => k_is)
    (case l3 => k_is)
    (case c3 => k_is)
    (case k3 => k_is)
    (case a4 => k_is)
    (case i4 => k_is)
    (case l4 => k_is)
    (case c4 => k_is)
    (case k4 => k_is)
    (case a5 => k_is)
    (case i5 => k_is)
    (case l5 => k_is)
    (case c5 => k_is)
    (case k5 => k_is)
    (case a6 => k_is)
    (case i6 => k_is)
    (case l6 => k_is)
    (case c6 => k_is)
    (case k6 => k_is)
    (case a7 => k_is)
    (case i7 => k_is)
    (case l7 => k_is)
    (case c7 => k_is)
    (case k7 => k_is)
    (case a8 => k_is)
    (case i8 => k_is)
    (case l8 => k_is)
    (case c8 => k_is)
    (case k8 => k_is)
    (case a9 => k_is)
    (case i9 => k_is)
    (case l9 => k_is)
    (case c9 => k_is)
    (case k9 => k_is)
    (case aC_Text => k_is)
    (case pg_Text => k_is)
    (case hd_Text => k_is)
    (case po_Text => k_is)
    (case sa_Text => k_is)
    (case n_Text_names => k_is)
    (case n_Text_sources => k_is)
    (case n_Text_formulas => k_is)
    (case n_Text_goals => k_is)
    (case a10 => k_is)
    (case i10 => k_is)
    (case l10 => k_is)
    (case c10 => k_is)
    (case k10 => k_is)
    (case mk_Text => k_is)
    (case kc_Text => k_is)
    (case a11 => k_is)
    (case i11 => k_is)
    (case l11 => k_is)
    (case c11 => k_is)
    (case k11 => k_is)
    (case a12 => k_is)
    (case i12 => k_is)
    (case l12 => k_is)
    (case c12 => k_is)
    (case k12 => k_is)
    (case a13 => k_is)
    (case i13 => k_is)
    (case l13 => k_is)
    (case c13 => k_is)
    (case k13 => k_is)
    (case a14 => k_is)
    (case i14 => k_is)
    (case l14 => k_is)
    (case c14 => k_is)
    (case k14 => k_is)
    (case a15 => k_is)
    (case i15 => k_is)
    (case l15 => k_is)
    (case c15 => k_is)
    (case k15 => k_is)
    (case a16 => k_is)
    (case i16 => k_is)
    (case l16 => k_is)
    (case c16 => k_is)
    (case k16 => k_is)
    (case aC_NeededRows => k_is)
    (case pg_NeededRows => k_is)
    (case hd_NeededRows => k_is)
    (case po_NeededRows => k_is)
    (case sa_NeededRows => k_is)
    (case n_NeededRows_rows => k_is)
    (case n_NeededRows_wished => k_is)
    (case n_NeededRows_sources => k_is)
    (case n_NeededRows_users => k_is)
    (case a17 => k_is)
    (case i17 => k_is)
    (case l17 => k_is)
    (case c17 => k_is)
    (case k17 => k_is)
    (case mk_NeededRows => k_is)
    (case kc_NeededRows => k_is)
    (case a18 => k_is)
    (case i18 => k_is)
    (case l18 => k_is)
    (case c18 => k_is)
    (case k18 => k_is)
    (case a19 => k_is)
    (case i19 => k_is)
    (case l19 => k_is)
    (case c19 => k_is)
    (case k19 => k_is)
    (case a20 => k_is)
    (case i20 => k_is)
    (case l20 => k_is)
    (case c20 => k_is)
    (case k20 => k_is)
    (case a21 => k_is)
    (case i21 => k_is)
    (case l21 => k_is)
    (case c21 => k_is)
    (case k21 => k_is)
    (case aC_Reader => k_is)
    (case pg_Reader => k_is)
    (case hd_Reader => k_is)
    (case po_Reader => k_is)
    (case sa_Reader => k_is)
    (case n_Reader_tokens => k_is)
    (case n_Reader_at => k_is)
    (case a22 => k_is)
    (case i22 => k_is)
    (case l22 => k_is)
    (case c22 => k_is)
    (case k22 => k_is)
    (case mk_Reader => k_is)
    (case kc_Reader => k_is)
    (case a23 => k_is)
    (case i23 => k_is)
    (case l23 => k_is)
    (case c23 => k_is)
    (case k23 => k_is)
    (case a24 => k_is)
    (case i24 => k_is)
    (case l24 => k_is)
    (case c24 => k_is)
    (case k24 => k_is)
    (case a25 => k_is)
    (case i25 => k_is)
    (case l25 => k_is)
    (case c25 => k_is)
    (case k25 => k_is)
    (case a26 => k_is)
    (case i26 => k_is)
    (case l26 => k_is)
    (case c26 => k_is)
    (case k26 => k_is)
    (case a27 => k_is)
    (case i27 => k_is)
    (case l27 => k_is)
    (case c27 => k_is)
    (case k27 => k_is)
    (case aC_Holder => k_is)
    (case pg_Holder => k_is)
    (case hd_Holder => k_is)
    (case po_Holder => k_is)
    (case sa_Holder => k_is)
    (case n_Holder_text => k_is)
    (case a28 => k_is)
    (case i28 => k_is)
    (case l28 => k_is)
    (case c28 => k_is)
    (case k28 => k_is)
    (case mk_Holder => k_is)
    (case kc_Holder => k_is)
    (case a29 => k_is)
    (case i29 => k_is)
    (case l29 => k_is)
    (case c29 => k_is)
    (case k29 => k_is)
    (case a30 => k_is)
    (case i30 => k_is)
    (case l30 => k_is)
    (case c30 => k_is)
    (case k30 => k_is)
    (case a31 => k_is)
    (case i31 => k_is)
    (case l31 => k_is)
    (case c31 => k_is)
    (case k31 => k_is)
    (case a32 => k_is)
    (case i32 => k_is)
    (case l32 => k_is)
    (case c32 => k_is)
    (case k32 => k_is)
    (case a33 => k_is)
    (case i33 => k_is)
    (case l33 => k_is)
    (case c33 => k_is)
    (case k33 => k_is)
    (case a34 => k_is)
    (case i34 => k_is)
    (case l34 => k_is)
    (case c34 => k_is)
    (case k34 => k_is)
    (case a35 => k_is)
    (case i35 => k_is)
    (case l35 => k_is)
    (case c35 => k_is)
    (case k35 => k_is)
    (case a36 => k_is)
    (case i36 => k_is)
    (case l36 => k_is)
    (case c36 => k_is)
    (case k36 => k_is)
    (case a37 => k_is)
    (case i37 => k_is)
    (case l37 => k_is)
    (case c37 => k_is)
    (case k37 => k_is)
    (case a38 => k_is)
    (case l38 => k_is)
    (case c38 => k_is)
    (case k38 => k_is)
    (case a39 => k_is)
    (case l39 => k_is)
    (case c39 => k_is)
    (case k39 => k_is)
    (case a40 => k_is)
    (case l40 => k_is)
    (case c40 => k_is)
    (case k40 => k_is)
    (case a41 => k_is)
    (case l41 => k_is)
    (case c41 => k_is)
    (case k41 => k_is)
    (case a42 => k_is)
    (case l42 => k_is)
    (case c42 => k_is)
    (case k42 => k_is)
    (case a43 => k_is)
    (case l43 => k_is)
    (case c43 => k_is)
    (case k43 => k_is)
    (case a44 => k_is)
    (case l44 => k_is)
    (case c44 => k_is)
    (case k44 => k_is)
    (case a45 => k_is)
    (case l45 => k_is)
    (case c45 => k_is)
    (case k45 => k_is)
    (case a46 => k_is)
    (case l46 => k_is)
    (case c46 => k_is)
    (case k46 => k_is)
    (case a47 => k_is)
    (case l47 => k_is)
    (case c47 => k_is)
    (case k47 => k_is)
    (case a48 => k_is)
    (case l48 => k_is)
    (case c48 => k_is)
    (case k48 => k_is)
    (case a49 => k_is)
    (case l49 => k_is)
    (case c49 => k_is)
    (case k49 => k_is)
    (case a50 => k_is)
    (case l50 => k_is)
    (case c50 => k_is)
    (case k50 => k_is)
    (case a51 => k_is)
    (case l51 => k_is)
    (case c51 => k_is)
    (case k51 => k_is)
    (case a52 => k_is)
    (case l52 => k_is)
    (case c52 => k_is)
    (case k52 => k_is)
    (case a53 => k_is)
    (case l53 => k_is)
    (case c53 => k_is)
    (case k53 => k_is)
    (case a54 => k_is)
    (case l54 => k_is)
    (case c54 => k_is)
    (case k54 => k_is)
    (case a55 => k_is)
    (case l55 => k_is)
    (case c55 => k_is)
    (case k55 => k_is)
    (case a56 => k_is)
    (case l56 => k_is)
    (case c56 => k_is)
    (case k56 => k_is)
    (case a57 => k_is)
    (case l57 => k_is)
    (case c57 => k_is)
    (case k57 => k_is)
    (case a58 => k_is)
    (case l58 => k_is)
    (case c58 => k_is)
    (case k58 => k_is)
    (case a59 => k_is)
    (case l59 => k_is)
    (case c59 => k_is)
    (case k59 => k_is)
    (case a60 => k_is)
    (case l60 => k_is)
    (case c60 => k_is)
    (case k60 => k_is)
    (case a61 => k_is)
    (case l61 => k_is)
    (case c61 => k_is)
    (case k61 => k_is)
    (case a62 => k_is)
    (case l62 => k_is)
    (case c62 => k_is)
    (case k62 => k_is)
    (case a63 => k_is)
    (case l63 => k_is)
    (case c63 => k_is)
    (case k63 => k_is)
    (case a64 => k_is)
    (case l64 => k_is)
    (case c64 => k_is)
    (case k64 => k_is)
    (case a65 => k_is)
    (case l65 => k_is)
    (case c65 => k_is)
    (case k65 => k_is)
    (case a66 => k_is)
    (case l66 => k_is)
    (case c66 => k_is)
    (case k66 => k_is)
    (case a67 => k_is)
    (case l67 => k_is)
    (case c67 => k_is)
    (case k67 => k_is)
    (case a68 => k_is)
    (case l68 => k_is)
    (case c68 => k_is)
    (case k68 => k_is)
    (case a69 => k_is)
    (case l69 => k_is)
    (case c69 => k_is)
    (case k69 => k_is)
    (case a70 => k_is)
    (case l70 => k_is)
    (case c70 => k_is)
    (case k70 => k_is)
    (case a71 => k_is)
    (case l71 => k_is)
    (case c71 => k_is)
    (case k71 => k_is)
    (case a72 => k_is)
    (case l72 => k_is)
    (case c72 => k_is)
    (case k72 => k_is)
    (case a73 => k_is)
    (case l73 => k_is)
    (case c73 => k_is)
    (case k73 => k_is)
    (case a74 => k_is)
    (case l74 => k_is)
    (case c74 => k_is)
    (case k74 => k_is)
    (case a75 => k_is)
    (case l75 => k_is)
    (case c75 => k_is)
    (case k75 => k_is)
    (case a76 => k_is)
    (case l76 => k_is)
    (case c76 => k_is)
    (case k76 => k_is)
    (case a77 => k_is)
    (case l77 => k_is)
    (case c77 => k_is)
    (case k77 => k_is)
    (case a78 => k_is)
    (case l78 => k_is)
    (case c78 => k_is)
    (case k78 => k_is)
    (case a79 => k_is)
    (case l79 => k_is)
    (case c79 => k_is)
    (case k79 => k_is)
    (case a80 => k_is)
    (case l80 => k_is)
    (case c80 => k_is)
    (case k80 => k_is)
    (case a81 => k_is)
    (case l81 => k_is)
    (case c81 => k_is)
    (case k81 => k_is)
    (case a82 => k_is)
    (case l82 => k_is)
    (case c82 => k_is)
    (case k82 => k_is)
    (case a83 => k_is)
    (case l83 => k_is)
    (case c83 => k_is)
    (case k83 => k_is)
    (case a_TEXT_TOO_LONG => k_is)
    (case a_NO_TOKEN => k_is)
    (case a_NOT_ALLOWED => k_is)
    (case a_ONE_TOO_MANY => k_is)
    (case a_NAME_TAKEN => k_is)
    (case a_NAME_UNKNOWN => k_is)
    (case a_TOO_MANY_SIGNS => k_is)
    (case a_TOO_DEEP => k_is)
    (case a_IMPLIES => k_is)
    (case a_DENIES => k_is)
    (case a_FIRST_UNKNOWN => k_is)
    (case a_MOST_SIGNS_ON_THE_WAY => k_is)
    (case a_MOST_SIGNS_DETACHED => k_is)
    (case a_LETTERS => k_is)
    (case a_DIGITS => k_is)
    (case a_SIGNS => k_is)
    (case a_BLANKS => k_is)
    (case a_REMARK => k_is)
    (case a_OTHER => k_is)
    (case a_RESERVED => k_is)
    (case t_RESERVED => k_is)
    (case a_LONGEST_NAME => k_is)
    (case a_GREATEST_NUMBER => k_is)
    (case a_MOST_DIGITS => k_is)
    (case a_END => k_is)
    (case a_MOST_BYTES => k_is)
    (case a_MOST_AXIOMS => k_is)
    (case a_MOST_ROWS => k_is)
    (case a_MOST_GOALS => k_is)
    (case a_MOST_SIGNS => k_is)
    (case a_MOST_WITHIN => k_is)
    (case a_LOAD => k_is)
    (case a_SHOWN => k_is)
    (case a_PRUNE => k_is)
    (case a_GENERAL => k_is)
    (case a_SHORTEN => k_is)
    (case a_SHORT => k_is)
    (case a_ORDER => k_is)
    (case a_LEAST => k_is)
    (case a_SHAPES => k_is)
    (case t_SHAPES => k_is)
    (case tw_0 => k_is)
    (case tw_1 => k_is)
    (case tw_2 => k_is)
    (case tw_3 => k_is)
    (case tw_4 => k_is)
    (case tw_5 => k_is)
    (case tw_6 => k_is)
    (case tw_7 => k_is)
    (case tw_8 => k_is)
    (case a_MOST_ROWS_IN_ORDER => k_is)
    (case z_len => k_is)
    (case z_list => k_is)
    (case z_tuple => k_is)
    (case z_int => k_is)
    (case z_sum => k_is)
    (case z_all => k_is)
    (case z_ord => k_is)
    (case z_sorted => k_is)
    (case z_reversed => k_is)
    (case z_enumerate => k_is)
    (case z_range => k_is)
    (case z_zip => k_is)
    (case z_max => k_is)
    (case z_min => k_is)
    (case z_Exception => k_is)
    (case fin => exact fun T hT => hT.elim fun TF => Shp.top_fin T TF hmg)
  case S => exact fun K H xs a _ hwi hask hx => Shp.ans_req K H xs a hwi hask hx
#print axioms PySem.Challenge.cw_shortproofs_s01_answers_holds
