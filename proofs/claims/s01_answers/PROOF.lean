import PyProof.Rows.All
import Wide.All
import OpenK.AllK
import Wide.FinOn
import KE.KStateDown
import KE.OsHead
import KE.HD4
import KE.KNestM
import HandS.NestedK
import HandS.ForMost
import HandS.ForSpec
import HandS.Defaults
import HandS.HeadHook1
import HandS.HeadHook2
import HandS.ExcInit
import HandS.ExcField
import HandS.EndTab
import HandS.FStr
import HandS.CallSlots
import HandS.Flow
import HandS.Walk
import HandS.RaiseMore
import KE.KMinKey
import HandS.SortKw
import HandS.ReplaceList
import HandS.Replace
import PyProof.StrReplace2
import KE.GoesEnumKw
import HandS.Comp
import HandS.Text
import KE.KIntText
import HandS.CallLocal
import PySem.Challenge.RW_linescriptsyard_s01_answers
set_option Elab.async false
set_option linter.all false
set_option maxRecDepth 100000
set_option maxHeartbeats 4000000
/-! The text by its places, and what the top leaves, by names. -/
namespace Ls
open PySem PySem.Spec PyProof.Rows L2
def top (i : Nat) : Stmt := PySem.Challenge.pw_linescriptsyard_s01_answers.main.body.getD i (.Pass ⟨0, 0, 0, 0⟩)

abbrev s_lines_in_common : Stmt := top 1
abbrev s_how_far : Stmt := top 2
abbrev s_letter_of : Stmt := top 10
abbrev s_read_text : Stmt := top 11
abbrev s_bytes_of : Stmt := top 12
abbrev s_told_text : Stmt := top 13
abbrev s_told_address : Stmt := top 17
abbrev s_told_deed : Stmt := top 18
abbrev s_told_command : Stmt := top 19
abbrev s_one_form : Stmt := top 20
abbrev s_told_script : Stmt := top 21
abbrev s_may_be_letters : Stmt := top 26
abbrev s_lines_of : Stmt := top 27
abbrev s_letters_of : Stmt := top 28
abbrev s_addresses_of : Stmt := top 29
abbrev s_swaps_of : Stmt := top 30
abbrev s_deeds_of : Stmt := top 31
abbrev s_commands_of : Stmt := top 32
abbrev s_single_scripts_of : Stmt := top 33
abbrev s_plain_address_holds : Stmt := top 45
abbrev s_address_holds : Stmt := top 46
abbrev s_of_a_line : Stmt := top 47
abbrev s_do_letters_deed : Stmt := top 48
abbrev s_do_deed : Stmt := top 49
abbrev s_do_script : Stmt := top 50
abbrev s_lines_that_come : Stmt := top 51
abbrev s_result_of : Stmt := top 52
abbrev s_fits : Stmt := top 55
abbrev s_fits_all : Stmt := top 56
abbrev s_all_fitting : Stmt := top 57
abbrev s_far_from : Stmt := top 58
abbrev s_far_from_all : Stmt := top 59
abbrev s_nearest_of : Stmt := top 60
abbrev s_is_useful : Stmt := top 64
abbrev s_useful_commands : Stmt := top 65
abbrev s_form_size : Stmt := top 66
abbrev s_least_fitting : Stmt := top 67
abbrev s_pairs_of : Stmt := top 68
abbrev s_found_script : Stmt := top 69
abbrev s_remark_end : Stmt := top 80
abbrev s_token_start : Stmt := top 81
abbrev s_signs_at : Stmt := top 82
abbrev s_is_word : Stmt := top 83
abbrev s_is_number : Stmt := top 84
abbrev s_token_at : Stmt := top 85
abbrev s_tokens_of : Stmt := top 86
abbrev s_read_told : Stmt := top 94
abbrev s_read_letters : Stmt := top 95
abbrev s_read_letters_or_none : Stmt := top 96
abbrev s_read_bounded : Stmt := top 97
abbrev s_read_plain_address : Stmt := top 98
abbrev s_read_address : Stmt := top 99
abbrev s_read_deed : Stmt := top 100
abbrev s_read_command : Stmt := top 101
abbrev s_read_script : Stmt := top 102
abbrev s_read_example_text : Stmt := top 114
abbrev s_answer_example : Stmt := top 115
abbrev s_answer_drop : Stmt := top 116
abbrev s_answer_shown : Stmt := top 117
abbrev s_answer_family : Stmt := top 118
abbrev s_answer_find : Stmt := top 119
abbrev s_answer_all : Stmt := top 120
abbrev s_answer_check : Stmt := top 121
abbrev s_answer_nearest : Stmt := top 122
abbrev s_answer_far : Stmt := top 123
abbrev s_answers : Stmt := top 125
abbrev s_Command___init__ : Stmt := inClass (top 16) 0
abbrev s_Fault___init__ : Stmt := inClass (top 40) 0
abbrev s_Line___init__ : Stmt := inClass (top 44) 0
abbrev s_Token___init__ : Stmt := inClass (top 79) 0
abbrev s_TokenReader___init__ : Stmt := inClass (top 93) 0
abbrev s_TokenReader_coming : Stmt := inClass (top 93) 1
abbrev s_TokenReader_read_token : Stmt := inClass (top 93) 2
abbrev s_CallReader___init__ : Stmt := inClass (top 104) 0
abbrev s_CallReader_has_more : Stmt := inClass (top 104) 1
abbrev s_CallReader_read_number : Stmt := inClass (top 104) 2
abbrev s_CallReader_read_row : Stmt := inClass (top 104) 3
abbrev s_Example___init__ : Stmt := inClass (top 113) 0
def d_lines_in_common : He.DefD := ⟨("lines_in_common", none), "lines_in_common", "lines_in_common", defArgs s_lines_in_common, defBody s_lines_in_common, defScope s_lines_in_common, [], []⟩
def d_how_far : He.DefD := ⟨("how_far", none), "how_far", "how_far", defArgs s_how_far, defBody s_how_far, defScope s_how_far, [], []⟩
def d_letter_of : He.DefD := ⟨("letter_of", none), "letter_of", "letter_of", defArgs s_letter_of, defBody s_letter_of, defScope s_letter_of, [], []⟩
def d_read_text : He.DefD := ⟨("read_text", none), "read_text", "read_text", defArgs s_read_text, defBody s_read_text, defScope s_read_text, [], []⟩
def d_bytes_of : He.DefD := ⟨("bytes_of", none), "bytes_of", "bytes_of", defArgs s_bytes_of, defBody s_bytes_of, defScope s_bytes_of, [], []⟩
def d_told_text : He.DefD := ⟨("told_text", none), "told_text", "told_text", defArgs s_told_text, defBody s_told_text, defScope s_told_text, [], []⟩
def d_told_address : He.DefD := ⟨("told_address", none), "told_address", "told_address", defArgs s_told_address, defBody s_told_address, defScope s_told_address, [], []⟩
def d_told_deed : He.DefD := ⟨("told_deed", none), "told_deed", "told_deed", defArgs s_told_deed, defBody s_told_deed, defScope s_told_deed, [], []⟩
def d_told_command : He.DefD := ⟨("told_command", none), "told_command", "told_command", defArgs s_told_command, defBody s_told_command, defScope s_told_command, [], []⟩
def d_one_form : He.DefD := ⟨("one_form", none), "one_form", "one_form", defArgs s_one_form, defBody s_one_form, defScope s_one_form, [], []⟩
def d_told_script : He.DefD := ⟨("told_script", none), "told_script", "told_script", defArgs s_told_script, defBody s_told_script, defScope s_told_script, [], []⟩
def d_may_be_letters : He.DefD := ⟨("may_be_letters", none), "may_be_letters", "may_be_letters", defArgs s_may_be_letters, defBody s_may_be_letters, defScope s_may_be_letters, [], []⟩
def d_lines_of : He.DefD := ⟨("lines_of", none), "lines_of", "lines_of", defArgs s_lines_of, defBody s_lines_of, defScope s_lines_of, [], []⟩
def d_letters_of : He.DefD := ⟨("letters_of", none), "letters_of", "letters_of", defArgs s_letters_of, defBody s_letters_of, defScope s_letters_of, [], []⟩
def d_addresses_of : He.DefD := ⟨("addresses_of", none), "addresses_of", "addresses_of", defArgs s_addresses_of, defBody s_addresses_of, defScope s_addresses_of, [], []⟩
def d_swaps_of : He.DefD := ⟨("swaps_of", none), "swaps_of", "swaps_of", defArgs s_swaps_of, defBody s_swaps_of, defScope s_swaps_of, [], []⟩
def d_deeds_of : He.DefD := ⟨("deeds_of", none), "deeds_of", "deeds_of", defArgs s_deeds_of, defBody s_deeds_of, defScope s_deeds_of, [], []⟩
def d_commands_of : He.DefD := ⟨("commands_of", none), "commands_of", "commands_of", defArgs s_commands_of, defBody s_commands_of, defScope s_commands_of, [], []⟩
def d_single_scripts_of : He.DefD := ⟨("single_scripts_of", none), "single_scripts_of", "single_scripts_of", defArgs s_single_scripts_of, defBody s_single_scripts_of, defScope s_single_scripts_of, [], []⟩
def d_plain_address_holds : He.DefD := ⟨("plain_address_holds", none), "plain_address_holds", "plain_address_holds", defArgs s_plain_address_holds, defBody s_plain_address_holds, defScope s_plain_address_holds, [], []⟩
def d_address_holds : He.DefD := ⟨("address_holds", none), "address_holds", "address_holds", defArgs s_address_holds, defBody s_address_holds, defScope s_address_holds, [], []⟩
def d_of_a_line : He.DefD := ⟨("of_a_line", none), "of_a_line", "of_a_line", defArgs s_of_a_line, defBody s_of_a_line, defScope s_of_a_line, [], []⟩
def d_do_letters_deed : He.DefD := ⟨("do_letters_deed", none), "do_letters_deed", "do_letters_deed", defArgs s_do_letters_deed, defBody s_do_letters_deed, defScope s_do_letters_deed, [], []⟩
def d_do_deed : He.DefD := ⟨("do_deed", none), "do_deed", "do_deed", defArgs s_do_deed, defBody s_do_deed, defScope s_do_deed, [], []⟩
def d_do_script : He.DefD := ⟨("do_script", none), "do_script", "do_script", defArgs s_do_script, defBody s_do_script, defScope s_do_script, [], []⟩
def d_lines_that_come : He.DefD := ⟨("lines_that_come", none), "lines_that_come", "lines_that_come", defArgs s_lines_that_come, defBody s_lines_that_come, defScope s_lines_that_come, [], []⟩
def d_result_of : He.DefD := ⟨("result_of", none), "result_of", "result_of", defArgs s_result_of, defBody s_result_of, defScope s_result_of, [], []⟩
def d_fits : He.DefD := ⟨("fits", none), "fits", "fits", defArgs s_fits, defBody s_fits, defScope s_fits, [], []⟩
def d_fits_all : He.DefD := ⟨("fits_all", none), "fits_all", "fits_all", defArgs s_fits_all, defBody s_fits_all, defScope s_fits_all, [], []⟩
def d_all_fitting : He.DefD := ⟨("all_fitting", none), "all_fitting", "all_fitting", defArgs s_all_fitting, defBody s_all_fitting, defScope s_all_fitting, [], []⟩
def d_far_from : He.DefD := ⟨("far_from", none), "far_from", "far_from", defArgs s_far_from, defBody s_far_from, defScope s_far_from, [], []⟩
def d_far_from_all : He.DefD := ⟨("far_from_all", none), "far_from_all", "far_from_all", defArgs s_far_from_all, defBody s_far_from_all, defScope s_far_from_all, [], []⟩
def d_nearest_of : He.DefD := ⟨("nearest_of", none), "nearest_of", "nearest_of", defArgs s_nearest_of, defBody s_nearest_of, defScope s_nearest_of, [], []⟩
def d_is_useful : He.DefD := ⟨("is_useful", none), "is_useful", "is_useful", defArgs s_is_useful, defBody s_is_useful, defScope s_is_useful, [], []⟩
def d_useful_commands : He.DefD := ⟨("useful_commands", none), "useful_commands", "useful_commands", defArgs s_useful_commands, defBody s_useful_commands, defScope s_useful_commands, [], []⟩
def d_form_size : He.DefD := ⟨("form_size", none), "form_size", "form_size", defArgs s_form_size, defBody s_form_size, defScope s_form_size, [], []⟩
def d_least_fitting : He.DefD := ⟨("least_fitting", none), "least_fitting", "least_fitting", defArgs s_least_fitting, defBody s_least_fitting, defScope s_least_fitting, [], []⟩
def d_pairs_of : He.DefD := ⟨("pairs_of", none), "pairs_of", "pairs_of", defArgs s_pairs_of, defBody s_pairs_of, defScope s_pairs_of, [], []⟩
def d_found_script : He.DefD := ⟨("found_script", none), "found_script", "found_script", defArgs s_found_script, defBody s_found_script, defScope s_found_script, [], []⟩
def d_remark_end : He.DefD := ⟨("remark_end", none), "remark_end", "remark_end", defArgs s_remark_end, defBody s_remark_end, defScope s_remark_end, [], []⟩
def d_token_start : He.DefD := ⟨("token_start", none), "token_start", "token_start", defArgs s_token_start, defBody s_token_start, defScope s_token_start, [], []⟩
def d_signs_at : He.DefD := ⟨("signs_at", none), "signs_at", "signs_at", defArgs s_signs_at, defBody s_signs_at, defScope s_signs_at, [], []⟩
def d_is_word : He.DefD := ⟨("is_word", none), "is_word", "is_word", defArgs s_is_word, defBody s_is_word, defScope s_is_word, [], []⟩
def d_is_number : He.DefD := ⟨("is_number", none), "is_number", "is_number", defArgs s_is_number, defBody s_is_number, defScope s_is_number, [], []⟩
def d_token_at : He.DefD := ⟨("token_at", none), "token_at", "token_at", defArgs s_token_at, defBody s_token_at, defScope s_token_at, [], []⟩
def d_tokens_of : He.DefD := ⟨("tokens_of", none), "tokens_of", "tokens_of", defArgs s_tokens_of, defBody s_tokens_of, defScope s_tokens_of, [], []⟩
def d_read_told : He.DefD := ⟨("read_told", none), "read_told", "read_told", defArgs s_read_told, defBody s_read_told, defScope s_read_told, [], []⟩
def d_read_letters : He.DefD := ⟨("read_letters", none), "read_letters", "read_letters", defArgs s_read_letters, defBody s_read_letters, defScope s_read_letters, [], []⟩
def d_read_letters_or_none : He.DefD := ⟨("read_letters_or_none", none), "read_letters_or_none", "read_letters_or_none", defArgs s_read_letters_or_none, defBody s_read_letters_or_none, defScope s_read_letters_or_none, [], []⟩
def d_read_bounded : He.DefD := ⟨("read_bounded", none), "read_bounded", "read_bounded", defArgs s_read_bounded, defBody s_read_bounded, defScope s_read_bounded, [], []⟩
def d_read_plain_address : He.DefD := ⟨("read_plain_address", none), "read_plain_address", "read_plain_address", defArgs s_read_plain_address, defBody s_read_plain_address, defScope s_read_plain_address, [], []⟩
def d_read_address : He.DefD := ⟨("read_address", none), "read_address", "read_address", defArgs s_read_address, defBody s_read_address, defScope s_read_address, [], []⟩
def d_read_deed : He.DefD := ⟨("read_deed", none), "read_deed", "read_deed", defArgs s_read_deed, defBody s_read_deed, defScope s_read_deed, [], []⟩
def d_read_command : He.DefD := ⟨("read_command", none), "read_command", "read_command", defArgs s_read_command, defBody s_read_command, defScope s_read_command, [], []⟩
def d_read_script : He.DefD := ⟨("read_script", none), "read_script", "read_script", defArgs s_read_script, defBody s_read_script, defScope s_read_script, [], []⟩
def d_read_example_text : He.DefD := ⟨("read_example_text", none), "read_example_text", "read_example_text", defArgs s_read_example_text, defBody s_read_example_text, defScope s_read_example_text, [], []⟩
def d_answer_example : He.DefD := ⟨("answer_example", none), "answer_example", "answer_example", defArgs s_answer_example, defBody s_answer_example, defScope s_answer_example, [], []⟩
def d_answer_drop : He.DefD := ⟨("answer_drop", none), "answer_drop", "answer_drop", defArgs s_answer_drop, defBody s_answer_drop, defScope s_answer_drop, [], []⟩
def d_answer_shown : He.DefD := ⟨("answer_shown", none), "answer_shown", "answer_shown", defArgs s_answer_shown, defBody s_answer_shown, defScope s_answer_shown, [], []⟩
def d_answer_family : He.DefD := ⟨("answer_family", none), "answer_family", "answer_family", defArgs s_answer_family, defBody s_answer_family, defScope s_answer_family, [], []⟩
def d_answer_find : He.DefD := ⟨("answer_find", none), "answer_find", "answer_find", defArgs s_answer_find, defBody s_answer_find, defScope s_answer_find, [], []⟩
def d_answer_all : He.DefD := ⟨("answer_all", none), "answer_all", "answer_all", defArgs s_answer_all, defBody s_answer_all, defScope s_answer_all, [], []⟩
def d_answer_check : He.DefD := ⟨("answer_check", none), "answer_check", "answer_check", defArgs s_answer_check, defBody s_answer_check, defScope s_answer_check, [], []⟩
def d_answer_nearest : He.DefD := ⟨("answer_nearest", none), "answer_nearest", "answer_nearest", defArgs s_answer_nearest, defBody s_answer_nearest, defScope s_answer_nearest, [], []⟩
def d_answer_far : He.DefD := ⟨("answer_far", none), "answer_far", "answer_far", defArgs s_answer_far, defBody s_answer_far, defScope s_answer_far, [], []⟩
def d_answers : He.DefD := ⟨("answers", none), "answers", "answers", defArgs s_answers, defBody s_answers, defScope s_answers, [], []⟩
def d_Command___init__ : He.DefD := ⟨("Command", some "__init__"), "__init__", "Command.__init__", defArgs s_Command___init__, defBody s_Command___init__, defScope s_Command___init__, [], []⟩
def d_Fault___init__ : He.DefD := ⟨("Fault", some "__init__"), "__init__", "Fault.__init__", defArgs s_Fault___init__, defBody s_Fault___init__, defScope s_Fault___init__, [], []⟩
def d_Line___init__ : He.DefD := ⟨("Line", some "__init__"), "__init__", "Line.__init__", defArgs s_Line___init__, defBody s_Line___init__, defScope s_Line___init__, [], []⟩
def d_Token___init__ : He.DefD := ⟨("Token", some "__init__"), "__init__", "Token.__init__", defArgs s_Token___init__, defBody s_Token___init__, defScope s_Token___init__, [], []⟩
def d_TokenReader___init__ : He.DefD := ⟨("TokenReader", some "__init__"), "__init__", "TokenReader.__init__", defArgs s_TokenReader___init__, defBody s_TokenReader___init__, defScope s_TokenReader___init__, [], []⟩
def d_TokenReader_coming : He.DefD := ⟨("TokenReader", some "coming"), "coming", "TokenReader.coming", defArgs s_TokenReader_coming, defBody s_TokenReader_coming, defScope s_TokenReader_coming, [], []⟩
def d_TokenReader_read_token : He.DefD := ⟨("TokenReader", some "read_token"), "read_token", "TokenReader.read_token", defArgs s_TokenReader_read_token, defBody s_TokenReader_read_token, defScope s_TokenReader_read_token, [], []⟩
def d_CallReader___init__ : He.DefD := ⟨("CallReader", some "__init__"), "__init__", "CallReader.__init__", defArgs s_CallReader___init__, defBody s_CallReader___init__, defScope s_CallReader___init__, [], []⟩
def d_CallReader_has_more : He.DefD := ⟨("CallReader", some "has_more"), "has_more", "CallReader.has_more", defArgs s_CallReader_has_more, defBody s_CallReader_has_more, defScope s_CallReader_has_more, [], []⟩
def d_CallReader_read_number : He.DefD := ⟨("CallReader", some "read_number"), "read_number", "CallReader.read_number", defArgs s_CallReader_read_number, defBody s_CallReader_read_number, defScope s_CallReader_read_number, [], []⟩
def d_CallReader_read_row : He.DefD := ⟨("CallReader", some "read_row"), "read_row", "CallReader.read_row", defArgs s_CallReader_read_row, defBody s_CallReader_read_row, defScope s_CallReader_read_row, [], []⟩
def d_Example___init__ : He.DefD := ⟨("Example", some "__init__"), "__init__", "Example.__init__", defArgs s_Example___init__, defBody s_Example___init__, defScope s_Example___init__, [], []⟩
def fns : List He.DefD := [d_lines_in_common, d_how_far, d_letter_of, d_read_text, d_bytes_of, d_told_text, d_told_address, d_told_deed, d_told_command, d_one_form, d_told_script, d_may_be_letters, d_lines_of, d_letters_of, d_addresses_of, d_swaps_of, d_deeds_of, d_commands_of, d_single_scripts_of, d_plain_address_holds, d_address_holds, d_of_a_line, d_do_letters_deed, d_do_deed, d_do_script, d_lines_that_come, d_result_of, d_fits, d_fits_all, d_all_fitting, d_far_from, d_far_from_all, d_nearest_of, d_is_useful, d_useful_commands, d_form_size, d_least_fitting, d_pairs_of, d_found_script, d_remark_end, d_token_start, d_signs_at, d_is_word, d_is_number, d_token_at, d_tokens_of, d_read_told, d_read_letters, d_read_letters_or_none, d_read_bounded, d_read_plain_address, d_read_address, d_read_deed, d_read_command, d_read_script, d_read_example_text, d_answer_example, d_answer_drop, d_answer_shown, d_answer_family, d_answer_find, d_answer_all, d_answer_check, d_answer_nearest, d_answer_far, d_answers, d_Command___init__, d_Fault___init__, d_Line___init__, d_Token___init__, d_TokenReader___init__, d_TokenReader_coming, d_TokenReader_read_token, d_CallReader___init__, d_CallReader_has_more, d_CallReader_read_number, d_CallReader_read_row, d_Example___init__]
def fa0 : List He.Fa := [.glo "lines_in_common", .glo "how_far", .glo "letter_of", .glo "read_text", .glo "bytes_of", .glo "told_text", .glo "told_address", .glo "told_deed", .glo "told_command", .glo "one_form", .glo "told_script", .glo "may_be_letters", .glo "lines_of", .glo "letters_of", .glo "addresses_of", .glo "swaps_of", .glo "deeds_of", .glo "commands_of", .glo "single_scripts_of", .glo "plain_address_holds"]
def fa1 : List He.Fa := [.glo "address_holds", .glo "of_a_line", .glo "do_letters_deed", .glo "do_deed", .glo "do_script", .glo "lines_that_come", .glo "result_of", .glo "fits", .glo "fits_all", .glo "all_fitting", .glo "far_from", .glo "far_from_all", .glo "nearest_of", .glo "is_useful", .glo "useful_commands", .glo "form_size", .glo "least_fitting", .glo "pairs_of", .glo "found_script", .glo "remark_end"]
def fa2 : List He.Fa := [.glo "token_start", .glo "signs_at", .glo "is_word", .glo "is_number", .glo "token_at", .glo "tokens_of", .glo "read_told", .glo "read_letters", .glo "read_letters_or_none", .glo "read_bounded", .glo "read_plain_address", .glo "read_address", .glo "read_deed", .glo "read_command", .glo "read_script", .glo "read_example_text", .glo "answer_example", .glo "answer_drop", .glo "answer_shown", .glo "answer_family"]
def fa3 : List He.Fa := [.glo "answer_find", .glo "answer_all", .glo "answer_check", .glo "answer_nearest", .glo "answer_far", .glo "answers", .glo "NotAText", .exm "NotAText" "NotAText" true, .glo "Command", .cls "Command", .mkr "Command", .noat "Command" "address", .noat "Command" "deed", .glo "Fault", .exm "Fault" "Fault" true, .glo "TooMuch", .exm "TooMuch" "TooMuch" true, .glo "Line", .cls "Line", .mkr "Line"]
def fa4 : List He.Fa := [.noat "Line" "letters", .noat "Line" "held", .noat "Line" "number", .noat "Line" "is_last", .noat "Line" "comes", .noat "Line" "is_over", .noat "Line" "left_out", .noat "Line" "ahead", .noat "Line" "behind", .glo "NothingFound", .exm "NothingFound" "NothingFound" true, .glo "Token", .cls "Token", .mkr "Token", .noat "Token" "told", .noat "Token" "place", .glo "TokenReader", .cls "TokenReader", .mkr "TokenReader", .meth "TokenReader" "coming"]
def fa5 : List He.Fa := [.meth "TokenReader" "read_token", .noat "TokenReader" "tokens", .noat "TokenReader" "place", .glo "CallReader", .cls "CallReader", .mkr "CallReader", .meth "CallReader" "has_more", .meth "CallReader" "read_number", .meth "CallReader" "read_row", .noat "CallReader" "numbers", .noat "CallReader" "place", .glo "Example", .cls "Example", .mkr "Example", .noat "Example" "before", .noat "Example" "after", .str "ALPHABET" "abcdefghijklmnopqrstuvwxyz", .int "FIRST_LETTER" (97), .int "LINE_END" (10), .int "LETTERS_AT_MOST_texts" (16)]
def fa6 : List He.Fa := [.int "LINES_AT_MOST_texts" (24), .glo "OWN_WORDS", .int "WORD_LETTERS_AT_MOST_family" (8), .int "LINES_AT_MOST_family" (12), .int "LETTERS_AT_MOST_family" (6), .int "TOO_LONG" (1), .int "NO_TOKEN" (2), .int "NOT_ALLOWED" (3), .int "TOO_MANY" (4), .int "OUT_OF_BOUNDS" (7), .int "RESULT_LINES_AT_MOST" (60), .int "TOO_MUCH_FAR" (1000), .int "USEFUL_AT_MOST" (40), .str "DIGITS" "0123456789", .int "FIRST_DIGIT" (48), .int "SEMICOLON" (59), .int "REMARK_START" (35), .int "REMARK_END" (10), .glo "BLANKS", .int "WORD_LETTERS_AT_MOST_tokens" (8)]
def fa7 : List He.Fa := [.int "GREATEST_NUMBER" (1000000000), .int "BYTES_AT_MOST" (4096), .int "COMMANDS_AT_MOST" (16), .int "NOTS_AT_MOST" (3), .int "GREATEST_LINE" (99), .int "GREATEST_SKIP" (9), .int "EXAMPLES_AT_MOST" (4), .int "EXAMPLE_LINES_AT_MOST" (6), .int "FITTING_TOLD_AT_MOST" (10), .int "NO_SUCH_EXAMPLE" (-2), .int "NOT_A_TEXT" (-4), .int "NO_ROOM" (-7), .int "NOTHING_FOUND" (-8), .glo "CALLS", .free "enumerate", .free "int", .free "len", .free "max", .free "min", .free "ord"]
def fa8 : List He.Fa := [.free "range", .free "str", .free "sum", .free "zip"]
def fas : List He.Fa := fa0 ++ fa1 ++ fa2 ++ fa3 ++ fa4 ++ fa5 ++ fa6 ++ fa7 ++ fa8
def tup_OWN_WORDS : List He.Dv := [.str "if", .str "all", .str "line", .str "from", .str "to", .str "last", .str "has", .str "is", .str "not", .str "delete", .str "before", .str "after", .str "change", .str "swap", .str "first", .str "keep", .str "bring", .str "trade", .str "skip", .str "stop", .str "none"]
def tup_BLANKS : List He.Dv := [.int 32, .int 9, .int 10]
def tup_CALLS : List He.Dv := [.glo "answer_example", .glo "answer_drop", .glo "answer_shown", .glo "answer_family", .glo "answer_find", .glo "answer_all", .glo "answer_check", .glo "answer_nearest", .glo "answer_far"]
def excB (K : PySem.W.Frag) (x : Str) (tail : List Value) (nw : String) : Bool := PySem.W.excIn K (He.ga K x) tail nw && (PySem.W.keepIn K (.ref (He.ga K x)) && (decide (PySem.W.subIn K (.ref (He.ga K x)) (.type "BaseException") = some true) && decide (PySem.W.typeIn K (.ref (He.ga K x)) = some (.type "type"))))
def oexcB (K : PySem.W.Frag) (C : Addr) (nw : String) : Bool := match K.lookup C with
  | some o => (match o.cls, o.data with
    | .type t, .cls cd => (match cd.mro, o.slots.toList with
      | .ref C' :: bm, [_, _, _, _, some (.builtin n), _] => t == "type" && (C' == C && (n == nw && (!cd.hasDel && (cd.hasDict && PySem.HandSPX.refsVE bm))))
      | _, _ => false)
    | _, _ => false)
  | none => false
def oexB (K : PySem.W.Frag) (x : Str) (fs : List Str) : Bool := oexcB K (He.ga K x) "ValueError.__new__" && (decide (PySem.W.findIn K (.ref (He.ga K x)) "__setattr__" = some (some (.builtin "object.__setattr__"))) &&
  (decide (PySem.W.subIn K (.ref (He.ga K x)) (.type "BaseException") = some true) && (decide (PySem.W.typeIn K (.ref (He.ga K x)) = some (.type "type")) && (PySem.W.keepIn K (.ref (He.ga K x)) &&
  (xfB K (He.ga K x) && (decide (PySem.W.findIn K (.ref (He.ga K x)) "__init__" = some (some (.ref (He.ma K (He.ga K x) "__init__")))) && (decide (PySem.W.typeIn K (.ref (He.ma K (He.ga K x) "__init__")) = some (.type "function")) &&
  fs.all fun f => decide (PySem.W.findIn K (.ref (He.ga K x)) f = some none))))))))
def bkB (K : PySem.W.Frag) : Bool := PySem.W.nsOkIn K PySem.cStatics && decide (PySem.W.nsIn K PySem.cStatics PySem.sharingNotToldKey = some none)
def more (K : PySem.W.Frag) : Bool := bkB K && (He.tupB K "OWN_WORDS" tup_OWN_WORDS && (He.tupB K "BLANKS" tup_BLANKS && (He.tupB K "CALLS" tup_CALLS && (excB K "NotAText" [.type "ValueError", .type "Exception", .type "BaseException", .type "object"] "ValueError.__new__" && (excB K "TooMuch" [.type "ValueError", .type "Exception", .type "BaseException", .type "object"] "ValueError.__new__" && (excB K "NothingFound" [.type "LookupError", .type "Exception", .type "BaseException", .type "object"] "LookupError.__new__" && (oexB K "Fault" ["code", "place"])))))))

/-! ### the Hook -/
abbrev AlM : Type := He.AlD × (Bool × Bool)
/-- the code object of the def that makes a function, and its table (the table is no part of K: it changes) -/
def cdAd (K : PySem.W.Frag) : Addr := match K.lookup (He.ga K "nearest_of") with
  | some ⟨_, _, .func fd, _⟩ => (match fd.code with
    | .ref c => c
    | _ => 0)
  | _ => 0
def tbAd (K : PySem.W.Frag) : Addr := match K.lookup (cdAd K) with
  | some ⟨_, _, Data.fields vs, _⟩ => (match (vs[11]? : Option Value) with
    | some (Value.ref P) => P
    | _ => 0)
  | _ => 0
def emptyTab : Option Obj → Bool
  | some ⟨.none, none, .fields vs, sl⟩ => vs.isEmpty && sl.isEmpty
  | _ => false
theorem emptyTab_ok {o : Option Obj} (h : emptyTab o = true) : o = some { cls := .none, data := .fields #[] } := by
  unfold emptyTab at h
  split at h
  · obtain ⟨h1, h2⟩ := He.ba h
    rw [Array.isEmpty_iff.mp h1, Array.isEmpty_iff.mp h2]
  · cases h
def nearB (K : PySem.W.Frag) : Bool := PySem.W.codeHdIn K (cdAd K) (tbAd K) && (K.lookup (tbAd K)).isNone
def ad0 : List Addr := [3, 6, 4, 21, 28, 38, 48, 55, 60, 65, 66, 83, 92, 97, 104, 109, 116, 123, 130, 135, 140, 145, 150, 155, 160, 177, 190, 210, 221, 228, 235, 242, 249, 256, 263, 270, 277, 284, 289, 296]
def ad1 : List Addr := [301, 308, 318, 328, 333, 340, 347, 352, 359, 360, 377, 388, 395, 402, 409, 416, 423, 430, 461, 472, 479, 486, 493, 500, 507, 514, 521, 528, 566, 587, 598, 605, 612, 619, 626, 633, 640, 645, 652, 659]
def ad2 : List Addr := [660, 667, 0, 20, 27, 37, 47, 54, 59, 64, 82, 91, 96, 103, 108, 115, 122, 129, 134, 139, 144, 149, 154, 159, 176, 189, 209, 220, 227, 234, 241, 248, 255, 262, 269, 276, 283, 288, 295, 300]
def ad3 : List Addr := [307, 317, 327, 332, 339, 346, 351, 358, 376, 387, 394, 401, 408, 415, 422, 429, 460, 471, 478, 485, 492, 499, 506, 513, 520, 527, 565, 586, 597, 604, 611, 618, 625, 632, 639, 644, 651, 658, 666, 15]
def ad4 : List Addr := [16, 17, 18, 19, 22, 23, 24, 25, 26, 36, 39, 42, 43, 44, 45, 46, 49, 50, 51, 52, 53, 56, 57, 58, 61, 62, 63, 80, 81, 84, 85, 88, 89, 90, 93, 94, 95, 98, 99, 100]
def ad5 : List Addr := [101, 102, 105, 106, 107, 110, 111, 112, 113, 114, 117, 118, 119, 120, 121, 124, 125, 126, 127, 128, 131, 132, 133, 136, 137, 138, 141, 142, 143, 146, 147, 148, 151, 152, 153, 156, 157, 158, 174, 175]
def ad6 : List Addr := [178, 188, 191, 207, 208, 211, 212, 215, 216, 217, 218, 219, 222, 223, 224, 225, 226, 229, 230, 231, 232, 233, 236, 237, 238, 239, 240, 243, 244, 245, 246, 247, 250, 251, 252, 253, 254, 257, 258, 259]
def ad7 : List Addr := [260, 261, 264, 265, 266, 267, 268, 271, 272, 273, 274, 275, 278, 279, 280, 281, 282, 285, 286, 287, 290, 291, 292, 293, 294, 297, 298, 299, 302, 304, 305, 306, 316, 319, 322, 323, 324, 325, 326, 329]
def ad8 : List Addr := [330, 331, 334, 335, 336, 337, 338, 341, 342, 343, 344, 345, 348, 349, 350, 353, 354, 355, 356, 357, 374, 375, 378, 379, 382, 383, 384, 385, 386, 389, 390, 391, 392, 393, 396, 397, 398, 399, 400, 403]
def ad9 : List Addr := [404, 405, 406, 407, 410, 411, 412, 413, 414, 417, 418, 419, 420, 421, 424, 425, 426, 427, 428, 444, 451, 458, 459, 462, 463, 466, 467, 468, 469, 470, 473, 474, 475, 476, 477, 480, 481, 482, 483, 484]
def ad10 : List Addr := [487, 488, 489, 490, 491, 494, 495, 496, 497, 498, 501, 502, 503, 504, 505, 508, 509, 510, 511, 512, 515, 516, 517, 518, 519, 522, 523, 524, 525, 526, 542, 549, 556, 563, 564, 567, 568, 584, 585, 588]
def ad11 : List Addr := [589, 592, 593, 594, 595, 596, 599, 600, 601, 602, 603, 606, 607, 608, 609, 610, 613, 614, 615, 616, 617, 620, 621, 622, 623, 624, 627, 628, 629, 630, 631, 634, 635, 636, 637, 638, 641, 642, 643, 646]
def ad12 : List Addr := [647, 648, 649, 650, 653, 654, 655, 656, 657, 661, 662, 663, 664, 665, 79, 173, 206, 373, 443, 450, 457, 541, 548, 555, 562, 583, 74, 75, 76, 77, 78, 168, 169, 170, 171, 172, 201, 202, 203, 204]
def ad13 : List Addr := [205, 368, 369, 370, 371, 372, 438, 439, 440, 441, 442, 445, 446, 447, 448, 449, 452, 453, 454, 455, 456, 536, 537, 538, 539, 540, 543, 544, 545, 546, 547, 550, 551, 552, 553, 554, 557, 558, 559, 560]
def ad14 : List Addr := [561, 578, 579, 580, 581, 582, 2]
def adrs0 : List Addr := ad0 ++ ad1 ++ ad2 ++ ad3 ++ ad4 ++ ad5 ++ ad6 ++ ad7 ++ ad8 ++ ad9 ++ ad10 ++ ad11 ++ ad12 ++ ad13 ++ ad14
def fr (g : Addr → Option Obj) : PySem.W.Frag := He.frG g adrs0
def obsM (n : Nat) (g : Addr → Option Obj) : AlM := (He.obsD fas fns (fr g), (more (fr g), nearB (fr g) && emptyTab (g (tbAd (fr g)))))
structure Says (K : PySem.W.Frag) : Prop where
  d : He.SaysD fas fns K
  m : more K = true
  nr : nearB K = true
def hk (n : Nat) : PySem.W.Hook where
  α := AlM
  obs := fun s => obsM n s.heap.get?
  val := fun _ => (He.valD fns, (true, true))
  says := fun _ h => ∃ K : PySem.W.Frag, K.In h ∧ Says K ∧ h.get? (tbAd K) = some { cls := .none, data := .fields #[] }
  of := fun _ s e => by
    have e3 : (nearB (fr s.heap.get?) && emptyTab (s.heap.get? (tbAd (fr s.heap.get?)))) = true := congrArg (fun z : AlM => z.2.2) e
    exact ⟨_, He.frG_in, ⟨congrArg (fun z : AlM => z.1) e, congrArg (fun z : AlM => z.2.1) e, (He.ba e3).1⟩, emptyTab_ok (He.ba e3).2⟩
  keeps := fun _ _ _ ⟨K, hK, c, t⟩ k => ⟨K, PySem.W.Frag.In.keeps hK k, c, k _ _ t⟩
theorem obsM_eq {n : Nat} {g : Addr → Option Obj} {s : Shared} (h : ∀ a, g a = s.heap.get? a) : obsM n g = (hk n).obs s := by
  have e : g = s.heap.get? := funext h
  rw [e] <;> rfl
abbrev NN : Nat := 5
def ob (s : PySem.W.SharedT) : AlM := obsM NN (HeadRun.getT s)
theorem ob_eq (s : PySem.W.SharedT) : ob s = (hk NN).obs s.abs := obsM_eq (HeadRun.getT_eq s)

abbrev R : PySem.W.OpenSpec := PySem.Challenge.rw_linescriptsyard_s01_answers
abbrev qv : Program := PySem.W.view R.prog [125]
def lo0 : List Str := ["lines_in_common", "how_far", "ALPHABET", "FIRST_LETTER", "LINE_END", "LETTERS_AT_MOST_texts", "LINES_AT_MOST_texts", "NotAText", "letter_of", "read_text", "bytes_of", "told_text", "OWN_WORDS", "Command", "told_address", "told_deed", "told_command", "one_form", "told_script", "WORD_LETTERS_AT_MOST_family", "LINES_AT_MOST_family", "LETTERS_AT_MOST_family", "may_be_letters", "lines_of", "letters_of", "addresses_of", "swaps_of", "deeds_of", "commands_of", "single_scripts_of"]
def lo1 : List Str := ["TOO_LONG", "NO_TOKEN", "NOT_ALLOWED", "TOO_MANY", "OUT_OF_BOUNDS", "Fault", "RESULT_LINES_AT_MOST", "TooMuch", "Line", "plain_address_holds", "address_holds", "of_a_line", "do_letters_deed", "do_deed", "do_script", "lines_that_come", "result_of", "TOO_MUCH_FAR", "fits", "fits_all", "all_fitting", "far_from", "far_from_all", "nearest_of", "USEFUL_AT_MOST", "NothingFound", "is_useful", "useful_commands", "form_size", "least_fitting"]
def lo2 : List Str := ["pairs_of", "found_script", "DIGITS", "FIRST_DIGIT", "SEMICOLON", "REMARK_START", "REMARK_END", "BLANKS", "WORD_LETTERS_AT_MOST_tokens", "GREATEST_NUMBER", "Token", "remark_end", "token_start", "signs_at", "is_word", "is_number", "token_at", "tokens_of", "BYTES_AT_MOST", "COMMANDS_AT_MOST", "NOTS_AT_MOST", "GREATEST_LINE", "GREATEST_SKIP", "TokenReader", "read_told", "read_letters", "read_letters_or_none", "read_bounded", "read_plain_address", "read_address"]
def lo3 : List Str := ["read_deed", "read_command", "read_script", "CallReader", "EXAMPLES_AT_MOST", "EXAMPLE_LINES_AT_MOST", "FITTING_TOLD_AT_MOST", "NO_SUCH_EXAMPLE", "NOT_A_TEXT", "NO_ROOM", "NOTHING_FOUND", "Example", "read_example_text", "answer_example", "answer_drop", "answer_shown", "answer_family", "answer_find", "answer_all", "answer_check", "answer_nearest", "answer_far", "CALLS"]
def loose : List Str := lo0 ++ lo1 ++ lo2 ++ lo3
/-! ### the facts, by name -/
structure Txt (K : PySem.W.Frag) (mg : Str → Option Value) : Prop where
  g_lines_in_common : mg "lines_in_common" = some (.ref (He.ga K "lines_in_common"))
  g_how_far : mg "how_far" = some (.ref (He.ga K "how_far"))
  g_letter_of : mg "letter_of" = some (.ref (He.ga K "letter_of"))
  g_read_text : mg "read_text" = some (.ref (He.ga K "read_text"))
  g_bytes_of : mg "bytes_of" = some (.ref (He.ga K "bytes_of"))
  g_told_text : mg "told_text" = some (.ref (He.ga K "told_text"))
  g_told_address : mg "told_address" = some (.ref (He.ga K "told_address"))
  g_told_deed : mg "told_deed" = some (.ref (He.ga K "told_deed"))
  g_told_command : mg "told_command" = some (.ref (He.ga K "told_command"))
  g_one_form : mg "one_form" = some (.ref (He.ga K "one_form"))
  g_told_script : mg "told_script" = some (.ref (He.ga K "told_script"))
  g_may_be_letters : mg "may_be_letters" = some (.ref (He.ga K "may_be_letters"))
  g_lines_of : mg "lines_of" = some (.ref (He.ga K "lines_of"))
  g_letters_of : mg "letters_of" = some (.ref (He.ga K "letters_of"))
  g_addresses_of : mg "addresses_of" = some (.ref (He.ga K "addresses_of"))
  g_swaps_of : mg "swaps_of" = some (.ref (He.ga K "swaps_of"))
  g_deeds_of : mg "deeds_of" = some (.ref (He.ga K "deeds_of"))
  g_commands_of : mg "commands_of" = some (.ref (He.ga K "commands_of"))
  g_single_scripts_of : mg "single_scripts_of" = some (.ref (He.ga K "single_scripts_of"))
  g_plain_address_holds : mg "plain_address_holds" = some (.ref (He.ga K "plain_address_holds"))
  g_address_holds : mg "address_holds" = some (.ref (He.ga K "address_holds"))
  g_of_a_line : mg "of_a_line" = some (.ref (He.ga K "of_a_line"))
  g_do_letters_deed : mg "do_letters_deed" = some (.ref (He.ga K "do_letters_deed"))
  g_do_deed : mg "do_deed" = some (.ref (He.ga K "do_deed"))
  g_do_script : mg "do_script" = some (.ref (He.ga K "do_script"))
  g_lines_that_come : mg "lines_that_come" = some (.ref (He.ga K "lines_that_come"))
  g_result_of : mg "result_of" = some (.ref (He.ga K "result_of"))
  g_fits : mg "fits" = some (.ref (He.ga K "fits"))
  g_fits_all : mg "fits_all" = some (.ref (He.ga K "fits_all"))
  g_all_fitting : mg "all_fitting" = some (.ref (He.ga K "all_fitting"))
  g_far_from : mg "far_from" = some (.ref (He.ga K "far_from"))
  g_far_from_all : mg "far_from_all" = some (.ref (He.ga K "far_from_all"))
  g_nearest_of : mg "nearest_of" = some (.ref (He.ga K "nearest_of"))
  g_is_useful : mg "is_useful" = some (.ref (He.ga K "is_useful"))
  g_useful_commands : mg "useful_commands" = some (.ref (He.ga K "useful_commands"))
  g_form_size : mg "form_size" = some (.ref (He.ga K "form_size"))
  g_least_fitting : mg "least_fitting" = some (.ref (He.ga K "least_fitting"))
  g_pairs_of : mg "pairs_of" = some (.ref (He.ga K "pairs_of"))
  g_found_script : mg "found_script" = some (.ref (He.ga K "found_script"))
  g_remark_end : mg "remark_end" = some (.ref (He.ga K "remark_end"))
  g_token_start : mg "token_start" = some (.ref (He.ga K "token_start"))
  g_signs_at : mg "signs_at" = some (.ref (He.ga K "signs_at"))
  g_is_word : mg "is_word" = some (.ref (He.ga K "is_word"))
  g_is_number : mg "is_number" = some (.ref (He.ga K "is_number"))
  g_token_at : mg "token_at" = some (.ref (He.ga K "token_at"))
  g_tokens_of : mg "tokens_of" = some (.ref (He.ga K "tokens_of"))
  g_read_told : mg "read_told" = some (.ref (He.ga K "read_told"))
  g_read_letters : mg "read_letters" = some (.ref (He.ga K "read_letters"))
  g_read_letters_or_none : mg "read_letters_or_none" = some (.ref (He.ga K "read_letters_or_none"))
  g_read_bounded : mg "read_bounded" = some (.ref (He.ga K "read_bounded"))
  g_read_plain_address : mg "read_plain_address" = some (.ref (He.ga K "read_plain_address"))
  g_read_address : mg "read_address" = some (.ref (He.ga K "read_address"))
  g_read_deed : mg "read_deed" = some (.ref (He.ga K "read_deed"))
  g_read_command : mg "read_command" = some (.ref (He.ga K "read_command"))
  g_read_script : mg "read_script" = some (.ref (He.ga K "read_script"))
  g_read_example_text : mg "read_example_text" = some (.ref (He.ga K "read_example_text"))
  g_answer_example : mg "answer_example" = some (.ref (He.ga K "answer_example"))
  g_answer_drop : mg "answer_drop" = some (.ref (He.ga K "answer_drop"))
  g_answer_shown : mg "answer_shown" = some (.ref (He.ga K "answer_shown"))
  g_answer_family : mg "answer_family" = some (.ref (He.ga K "answer_family"))
  g_answer_find : mg "answer_find" = some (.ref (He.ga K "answer_find"))
  g_answer_all : mg "answer_all" = some (.ref (He.ga K "answer_all"))
  g_answer_check : mg "answer_check" = some (.ref (He.ga K "answer_check"))
  g_answer_nearest : mg "answer_nearest" = some (.ref (He.ga K "answer_nearest"))
  g_answer_far : mg "answer_far" = some (.ref (He.ga K "answer_far"))
  g_answers : mg "answers" = some (.ref (He.ga K "answers"))
  g_NotAText : mg "NotAText" = some (.ref (He.ga K "NotAText"))
  e_NotAText : PySem.W.exmOne K (.ref (He.ga K "NotAText")) (.ref (He.ga K "NotAText")) = some true
  g_Command : mg "Command" = some (.ref (He.ga K "Command"))
  c_Command : Cls K (He.ga K "Command")
  m_Command : Mk K (He.ga K "Command") (He.ma K (He.ga K "Command") "__init__")
  n_Command_address : NoAttr K (He.ga K "Command") "address"
  n_Command_deed : NoAttr K (He.ga K "Command") "deed"
  g_Fault : mg "Fault" = some (.ref (He.ga K "Fault"))
  e_Fault : PySem.W.exmOne K (.ref (He.ga K "Fault")) (.ref (He.ga K "Fault")) = some true
  g_TooMuch : mg "TooMuch" = some (.ref (He.ga K "TooMuch"))
  e_TooMuch : PySem.W.exmOne K (.ref (He.ga K "TooMuch")) (.ref (He.ga K "TooMuch")) = some true
  g_Line : mg "Line" = some (.ref (He.ga K "Line"))
  c_Line : Cls K (He.ga K "Line")
  m_Line : Mk K (He.ga K "Line") (He.ma K (He.ga K "Line") "__init__")
  n_Line_letters : NoAttr K (He.ga K "Line") "letters"
  n_Line_held : NoAttr K (He.ga K "Line") "held"
  n_Line_number : NoAttr K (He.ga K "Line") "number"
  n_Line_is_last : NoAttr K (He.ga K "Line") "is_last"
  n_Line_comes : NoAttr K (He.ga K "Line") "comes"
  n_Line_is_over : NoAttr K (He.ga K "Line") "is_over"
  n_Line_left_out : NoAttr K (He.ga K "Line") "left_out"
  n_Line_ahead : NoAttr K (He.ga K "Line") "ahead"
  n_Line_behind : NoAttr K (He.ga K "Line") "behind"
  g_NothingFound : mg "NothingFound" = some (.ref (He.ga K "NothingFound"))
  e_NothingFound : PySem.W.exmOne K (.ref (He.ga K "NothingFound")) (.ref (He.ga K "NothingFound")) = some true
  g_Token : mg "Token" = some (.ref (He.ga K "Token"))
  c_Token : Cls K (He.ga K "Token")
  m_Token : Mk K (He.ga K "Token") (He.ma K (He.ga K "Token") "__init__")
  n_Token_told : NoAttr K (He.ga K "Token") "told"
  n_Token_place : NoAttr K (He.ga K "Token") "place"
  g_TokenReader : mg "TokenReader" = some (.ref (He.ga K "TokenReader"))
  c_TokenReader : Cls K (He.ga K "TokenReader")
  m_TokenReader : Mk K (He.ga K "TokenReader") (He.ma K (He.ga K "TokenReader") "__init__")
  m_TokenReader_coming : Meth K (He.ga K "TokenReader") "coming" (He.ma K (He.ga K "TokenReader") "coming")
  m_TokenReader_read_token : Meth K (He.ga K "TokenReader") "read_token" (He.ma K (He.ga K "TokenReader") "read_token")
  n_TokenReader_tokens : NoAttr K (He.ga K "TokenReader") "tokens"
  n_TokenReader_place : NoAttr K (He.ga K "TokenReader") "place"
  g_CallReader : mg "CallReader" = some (.ref (He.ga K "CallReader"))
  c_CallReader : Cls K (He.ga K "CallReader")
  m_CallReader : Mk K (He.ga K "CallReader") (He.ma K (He.ga K "CallReader") "__init__")
  m_CallReader_has_more : Meth K (He.ga K "CallReader") "has_more" (He.ma K (He.ga K "CallReader") "has_more")
  m_CallReader_read_number : Meth K (He.ga K "CallReader") "read_number" (He.ma K (He.ga K "CallReader") "read_number")
  m_CallReader_read_row : Meth K (He.ga K "CallReader") "read_row" (He.ma K (He.ga K "CallReader") "read_row")
  n_CallReader_numbers : NoAttr K (He.ga K "CallReader") "numbers"
  n_CallReader_place : NoAttr K (He.ga K "CallReader") "place"
  g_Example : mg "Example" = some (.ref (He.ga K "Example"))
  c_Example : Cls K (He.ga K "Example")
  m_Example : Mk K (He.ga K "Example") (He.ma K (He.ga K "Example") "__init__")
  n_Example_before : NoAttr K (He.ga K "Example") "before"
  n_Example_after : NoAttr K (He.ga K "Example") "after"
  v_ALPHABET : ∃ t, mg "ALPHABET" = some (.str "abcdefghijklmnopqrstuvwxyz" t)
  v_FIRST_LETTER : ∃ t, mg "FIRST_LETTER" = some (.int (97) t)
  v_LINE_END : ∃ t, mg "LINE_END" = some (.int (10) t)
  v_LETTERS_AT_MOST_texts : ∃ t, mg "LETTERS_AT_MOST_texts" = some (.int (16) t)
  v_LINES_AT_MOST_texts : ∃ t, mg "LINES_AT_MOST_texts" = some (.int (24) t)
  g_OWN_WORDS : mg "OWN_WORDS" = some (.ref (He.ga K "OWN_WORDS"))
  v_WORD_LETTERS_AT_MOST_family : ∃ t, mg "WORD_LETTERS_AT_MOST_family" = some (.int (8) t)
  v_LINES_AT_MOST_family : ∃ t, mg "LINES_AT_MOST_family" = some (.int (12) t)
  v_LETTERS_AT_MOST_family : ∃ t, mg "LETTERS_AT_MOST_family" = some (.int (6) t)
  v_TOO_LONG : ∃ t, mg "TOO_LONG" = some (.int (1) t)
  v_NO_TOKEN : ∃ t, mg "NO_TOKEN" = some (.int (2) t)
  v_NOT_ALLOWED : ∃ t, mg "NOT_ALLOWED" = some (.int (3) t)
  v_TOO_MANY : ∃ t, mg "TOO_MANY" = some (.int (4) t)
  v_OUT_OF_BOUNDS : ∃ t, mg "OUT_OF_BOUNDS" = some (.int (7) t)
  v_RESULT_LINES_AT_MOST : ∃ t, mg "RESULT_LINES_AT_MOST" = some (.int (60) t)
  v_TOO_MUCH_FAR : ∃ t, mg "TOO_MUCH_FAR" = some (.int (1000) t)
  v_USEFUL_AT_MOST : ∃ t, mg "USEFUL_AT_MOST" = some (.int (40) t)
  v_DIGITS : ∃ t, mg "DIGITS" = some (.str "0123456789" t)
  v_FIRST_DIGIT : ∃ t, mg "FIRST_DIGIT" = some (.int (48) t)
  v_SEMICOLON : ∃ t, mg "SEMICOLON" = some (.int (59) t)
  v_REMARK_START : ∃ t, mg "REMARK_START" = some (.int (35) t)
  v_REMARK_END : ∃ t, mg "REMARK_END" = some (.int (10) t)
  g_BLANKS : mg "BLANKS" = some (.ref (He.ga K "BLANKS"))
  v_WORD_LETTERS_AT_MOST_tokens : ∃ t, mg "WORD_LETTERS_AT_MOST_tokens" = some (.int (8) t)
  v_GREATEST_NUMBER : ∃ t, mg "GREATEST_NUMBER" = some (.int (1000000000) t)
  v_BYTES_AT_MOST : ∃ t, mg "BYTES_AT_MOST" = some (.int (4096) t)
  v_COMMANDS_AT_MOST : ∃ t, mg "COMMANDS_AT_MOST" = some (.int (16) t)
  v_NOTS_AT_MOST : ∃ t, mg "NOTS_AT_MOST" = some (.int (3) t)
  v_GREATEST_LINE : ∃ t, mg "GREATEST_LINE" = some (.int (99) t)
  v_GREATEST_SKIP : ∃ t, mg "GREATEST_SKIP" = some (.int (9) t)
  v_EXAMPLES_AT_MOST : ∃ t, mg "EXAMPLES_AT_MOST" = some (.int (4) t)
  v_EXAMPLE_LINES_AT_MOST : ∃ t, mg "EXAMPLE_LINES_AT_MOST" = some (.int (6) t)
  v_FITTING_TOLD_AT_MOST : ∃ t, mg "FITTING_TOLD_AT_MOST" = some (.int (10) t)
  v_NO_SUCH_EXAMPLE : ∃ t, mg "NO_SUCH_EXAMPLE" = some (.int (-2) t)
  v_NOT_A_TEXT : ∃ t, mg "NOT_A_TEXT" = some (.int (-4) t)
  v_NO_ROOM : ∃ t, mg "NO_ROOM" = some (.int (-7) t)
  v_NOTHING_FOUND : ∃ t, mg "NOTHING_FOUND" = some (.int (-8) t)
  g_CALLS : mg "CALLS" = some (.ref (He.ga K "CALLS"))
  b_enumerate : mg "enumerate" = none
  b_int : mg "int" = none
  b_len : mg "len" = none
  b_max : mg "max" = none
  b_min : mg "min" = none
  b_ord : mg "ord" = none
  b_range : mg "range" = none
  b_str : mg "str" = none
  b_sum : mg "sum" = none
  b_zip : mg "zip" = none
  k_bk : bkB K = true
  k_near : nearB K = true
  t_OWN_WORDS : He.tupB K "OWN_WORDS" tup_OWN_WORDS = true
  t_BLANKS : He.tupB K "BLANKS" tup_BLANKS = true
  t_CALLS : He.tupB K "CALLS" tup_CALLS = true
  x_NotAText : excB K "NotAText" [.type "ValueError", .type "Exception", .type "BaseException", .type "object"] "ValueError.__new__" = true
  x_TooMuch : excB K "TooMuch" [.type "ValueError", .type "Exception", .type "BaseException", .type "object"] "ValueError.__new__" = true
  x_NothingFound : excB K "NothingFound" [.type "LookupError", .type "Exception", .type "BaseException", .type "object"] "LookupError.__new__" = true
  x_Fault : oexB K "Fault" ["code", "place"] = true
  f_lines_in_common : ∃ fd, FunD K "lines_in_common" "lines_in_common" (defArgs s_lines_in_common) (defBody s_lines_in_common) (defScope s_lines_in_common) [] [] (He.fAd K ("lines_in_common", none)) fd
  f_how_far : ∃ fd, FunD K "how_far" "how_far" (defArgs s_how_far) (defBody s_how_far) (defScope s_how_far) [] [] (He.fAd K ("how_far", none)) fd
  f_letter_of : ∃ fd, FunD K "letter_of" "letter_of" (defArgs s_letter_of) (defBody s_letter_of) (defScope s_letter_of) [] [] (He.fAd K ("letter_of", none)) fd
  f_read_text : ∃ fd, FunD K "read_text" "read_text" (defArgs s_read_text) (defBody s_read_text) (defScope s_read_text) [] [] (He.fAd K ("read_text", none)) fd
  f_bytes_of : ∃ fd, FunD K "bytes_of" "bytes_of" (defArgs s_bytes_of) (defBody s_bytes_of) (defScope s_bytes_of) [] [] (He.fAd K ("bytes_of", none)) fd
  f_told_text : ∃ fd, FunD K "told_text" "told_text" (defArgs s_told_text) (defBody s_told_text) (defScope s_told_text) [] [] (He.fAd K ("told_text", none)) fd
  f_told_address : ∃ fd, FunD K "told_address" "told_address" (defArgs s_told_address) (defBody s_told_address) (defScope s_told_address) [] [] (He.fAd K ("told_address", none)) fd
  f_told_deed : ∃ fd, FunD K "told_deed" "told_deed" (defArgs s_told_deed) (defBody s_told_deed) (defScope s_told_deed) [] [] (He.fAd K ("told_deed", none)) fd
  f_told_command : ∃ fd, FunD K "told_command" "told_command" (defArgs s_told_command) (defBody s_told_command) (defScope s_told_command) [] [] (He.fAd K ("told_command", none)) fd
  f_one_form : ∃ fd, FunD K "one_form" "one_form" (defArgs s_one_form) (defBody s_one_form) (defScope s_one_form) [] [] (He.fAd K ("one_form", none)) fd
  f_told_script : ∃ fd, FunD K "told_script" "told_script" (defArgs s_told_script) (defBody s_told_script) (defScope s_told_script) [] [] (He.fAd K ("told_script", none)) fd
  f_may_be_letters : ∃ fd, FunD K "may_be_letters" "may_be_letters" (defArgs s_may_be_letters) (defBody s_may_be_letters) (defScope s_may_be_letters) [] [] (He.fAd K ("may_be_letters", none)) fd
  f_lines_of : ∃ fd, FunD K "lines_of" "lines_of" (defArgs s_lines_of) (defBody s_lines_of) (defScope s_lines_of) [] [] (He.fAd K ("lines_of", none)) fd
  f_letters_of : ∃ fd, FunD K "letters_of" "letters_of" (defArgs s_letters_of) (defBody s_letters_of) (defScope s_letters_of) [] [] (He.fAd K ("letters_of", none)) fd
  f_addresses_of : ∃ fd, FunD K "addresses_of" "addresses_of" (defArgs s_addresses_of) (defBody s_addresses_of) (defScope s_addresses_of) [] [] (He.fAd K ("addresses_of", none)) fd
  f_swaps_of : ∃ fd, FunD K "swaps_of" "swaps_of" (defArgs s_swaps_of) (defBody s_swaps_of) (defScope s_swaps_of) [] [] (He.fAd K ("swaps_of", none)) fd
  f_deeds_of : ∃ fd, FunD K "deeds_of" "deeds_of" (defArgs s_deeds_of) (defBody s_deeds_of) (defScope s_deeds_of) [] [] (He.fAd K ("deeds_of", none)) fd
  f_commands_of : ∃ fd, FunD K "commands_of" "commands_of" (defArgs s_commands_of) (defBody s_commands_of) (defScope s_commands_of) [] [] (He.fAd K ("commands_of", none)) fd
  f_single_scripts_of : ∃ fd, FunD K "single_scripts_of" "single_scripts_of" (defArgs s_single_scripts_of) (defBody s_single_scripts_of) (defScope s_single_scripts_of) [] [] (He.fAd K ("single_scripts_of", none)) fd
  f_plain_address_holds : ∃ fd, FunD K "plain_address_holds" "plain_address_holds" (defArgs s_plain_address_holds) (defBody s_plain_address_holds) (defScope s_plain_address_holds) [] [] (He.fAd K ("plain_address_holds", none)) fd
  f_address_holds : ∃ fd, FunD K "address_holds" "address_holds" (defArgs s_address_holds) (defBody s_address_holds) (defScope s_address_holds) [] [] (He.fAd K ("address_holds", none)) fd
  f_of_a_line : ∃ fd, FunD K "of_a_line" "of_a_line" (defArgs s_of_a_line) (defBody s_of_a_line) (defScope s_of_a_line) [] [] (He.fAd K ("of_a_line", none)) fd
  f_do_letters_deed : ∃ fd, FunD K "do_letters_deed" "do_letters_deed" (defArgs s_do_letters_deed) (defBody s_do_letters_deed) (defScope s_do_letters_deed) [] [] (He.fAd K ("do_letters_deed", none)) fd
  f_do_deed : ∃ fd, FunD K "do_deed" "do_deed" (defArgs s_do_deed) (defBody s_do_deed) (defScope s_do_deed) [] [] (He.fAd K ("do_deed", none)) fd
  f_do_script : ∃ fd, FunD K "do_script" "do_script" (defArgs s_do_script) (defBody s_do_script) (defScope s_do_script) [] [] (He.fAd K ("do_script", none)) fd
  f_lines_that_come : ∃ fd, FunD K "lines_that_come" "lines_that_come" (defArgs s_lines_that_come) (defBody s_lines_that_come) (defScope s_lines_that_come) [] [] (He.fAd K ("lines_that_come", none)) fd
  f_result_of : ∃ fd, FunD K "result_of" "result_of" (defArgs s_result_of) (defBody s_result_of) (defScope s_result_of) [] [] (He.fAd K ("result_of", none)) fd
  f_fits : ∃ fd, FunD K "fits" "fits" (defArgs s_fits) (defBody s_fits) (defScope s_fits) [] [] (He.fAd K ("fits", none)) fd
  f_fits_all : ∃ fd, FunD K "fits_all" "fits_all" (defArgs s_fits_all) (defBody s_fits_all) (defScope s_fits_all) [] [] (He.fAd K ("fits_all", none)) fd
  f_all_fitting : ∃ fd, FunD K "all_fitting" "all_fitting" (defArgs s_all_fitting) (defBody s_all_fitting) (defScope s_all_fitting) [] [] (He.fAd K ("all_fitting", none)) fd
  f_far_from : ∃ fd, FunD K "far_from" "far_from" (defArgs s_far_from) (defBody s_far_from) (defScope s_far_from) [] [] (He.fAd K ("far_from", none)) fd
  f_far_from_all : ∃ fd, FunD K "far_from_all" "far_from_all" (defArgs s_far_from_all) (defBody s_far_from_all) (defScope s_far_from_all) [] [] (He.fAd K ("far_from_all", none)) fd
  f_nearest_of : ∃ fd, FunD K "nearest_of" "nearest_of" (defArgs s_nearest_of) (defBody s_nearest_of) (defScope s_nearest_of) [] [] (He.fAd K ("nearest_of", none)) fd
  f_is_useful : ∃ fd, FunD K "is_useful" "is_useful" (defArgs s_is_useful) (defBody s_is_useful) (defScope s_is_useful) [] [] (He.fAd K ("is_useful", none)) fd
  f_useful_commands : ∃ fd, FunD K "useful_commands" "useful_commands" (defArgs s_useful_commands) (defBody s_useful_commands) (defScope s_useful_commands) [] [] (He.fAd K ("useful_commands", none)) fd
  f_form_size : ∃ fd, FunD K "form_size" "form_size" (defArgs s_form_size) (defBody s_form_size) (defScope s_form_size) [] [] (He.fAd K ("form_size", none)) fd
  f_least_fitting : ∃ fd, FunD K "least_fitting" "least_fitting" (defArgs s_least_fitting) (defBody s_least_fitting) (defScope s_least_fitting) [] [] (He.fAd K ("least_fitting", none)) fd
  f_pairs_of : ∃ fd, FunD K "pairs_of" "pairs_of" (defArgs s_pairs_of) (defBody s_pairs_of) (defScope s_pairs_of) [] [] (He.fAd K ("pairs_of", none)) fd
  f_found_script : ∃ fd, FunD K "found_script" "found_script" (defArgs s_found_script) (defBody s_found_script) (defScope s_found_script) [] [] (He.fAd K ("found_script", none)) fd
  f_remark_end : ∃ fd, FunD K "remark_end" "remark_end" (defArgs s_remark_end) (defBody s_remark_end) (defScope s_remark_end) [] [] (He.fAd K ("remark_end", none)) fd
  f_token_start : ∃ fd, FunD K "token_start" "token_start" (defArgs s_token_start) (defBody s_token_start) (defScope s_token_start) [] [] (He.fAd K ("token_start", none)) fd
  f_signs_at : ∃ fd, FunD K "signs_at" "signs_at" (defArgs s_signs_at) (defBody s_signs_at) (defScope s_signs_at) [] [] (He.fAd K ("signs_at", none)) fd
  f_is_word : ∃ fd, FunD K "is_word" "is_word" (defArgs s_is_word) (defBody s_is_word) (defScope s_is_word) [] [] (He.fAd K ("is_word", none)) fd
  f_is_number : ∃ fd, FunD K "is_number" "is_number" (defArgs s_is_number) (defBody s_is_number) (defScope s_is_number) [] [] (He.fAd K ("is_number", none)) fd
  f_token_at : ∃ fd, FunD K "token_at" "token_at" (defArgs s_token_at) (defBody s_token_at) (defScope s_token_at) [] [] (He.fAd K ("token_at", none)) fd
  f_tokens_of : ∃ fd, FunD K "tokens_of" "tokens_of" (defArgs s_tokens_of) (defBody s_tokens_of) (defScope s_tokens_of) [] [] (He.fAd K ("tokens_of", none)) fd
  f_read_told : ∃ fd, FunD K "read_told" "read_told" (defArgs s_read_told) (defBody s_read_told) (defScope s_read_told) [] [] (He.fAd K ("read_told", none)) fd
  f_read_letters : ∃ fd, FunD K "read_letters" "read_letters" (defArgs s_read_letters) (defBody s_read_letters) (defScope s_read_letters) [] [] (He.fAd K ("read_letters", none)) fd
  f_read_letters_or_none : ∃ fd, FunD K "read_letters_or_none" "read_letters_or_none" (defArgs s_read_letters_or_none) (defBody s_read_letters_or_none) (defScope s_read_letters_or_none) [] [] (He.fAd K ("read_letters_or_none", none)) fd
  f_read_bounded : ∃ fd, FunD K "read_bounded" "read_bounded" (defArgs s_read_bounded) (defBody s_read_bounded) (defScope s_read_bounded) [] [] (He.fAd K ("read_bounded", none)) fd
  f_read_plain_address : ∃ fd, FunD K "read_plain_address" "read_plain_address" (defArgs s_read_plain_address) (defBody s_read_plain_address) (defScope s_read_plain_address) [] [] (He.fAd K ("read_plain_address", none)) fd
  f_read_address : ∃ fd, FunD K "read_address" "read_address" (defArgs s_read_address) (defBody s_read_address) (defScope s_read_address) [] [] (He.fAd K ("read_address", none)) fd
  f_read_deed : ∃ fd, FunD K "read_deed" "read_deed" (defArgs s_read_deed) (defBody s_read_deed) (defScope s_read_deed) [] [] (He.fAd K ("read_deed", none)) fd
  f_read_command : ∃ fd, FunD K "read_command" "read_command" (defArgs s_read_command) (defBody s_read_command) (defScope s_read_command) [] [] (He.fAd K ("read_command", none)) fd
  f_read_script : ∃ fd, FunD K "read_script" "read_script" (defArgs s_read_script) (defBody s_read_script) (defScope s_read_script) [] [] (He.fAd K ("read_script", none)) fd
  f_read_example_text : ∃ fd, FunD K "read_example_text" "read_example_text" (defArgs s_read_example_text) (defBody s_read_example_text) (defScope s_read_example_text) [] [] (He.fAd K ("read_example_text", none)) fd
  f_answer_example : ∃ fd, FunD K "answer_example" "answer_example" (defArgs s_answer_example) (defBody s_answer_example) (defScope s_answer_example) [] [] (He.fAd K ("answer_example", none)) fd
  f_answer_drop : ∃ fd, FunD K "answer_drop" "answer_drop" (defArgs s_answer_drop) (defBody s_answer_drop) (defScope s_answer_drop) [] [] (He.fAd K ("answer_drop", none)) fd
  f_answer_shown : ∃ fd, FunD K "answer_shown" "answer_shown" (defArgs s_answer_shown) (defBody s_answer_shown) (defScope s_answer_shown) [] [] (He.fAd K ("answer_shown", none)) fd
  f_answer_family : ∃ fd, FunD K "answer_family" "answer_family" (defArgs s_answer_family) (defBody s_answer_family) (defScope s_answer_family) [] [] (He.fAd K ("answer_family", none)) fd
  f_answer_find : ∃ fd, FunD K "answer_find" "answer_find" (defArgs s_answer_find) (defBody s_answer_find) (defScope s_answer_find) [] [] (He.fAd K ("answer_find", none)) fd
  f_answer_all : ∃ fd, FunD K "answer_all" "answer_all" (defArgs s_answer_all) (defBody s_answer_all) (defScope s_answer_all) [] [] (He.fAd K ("answer_all", none)) fd
  f_answer_check : ∃ fd, FunD K "answer_check" "answer_check" (defArgs s_answer_check) (defBody s_answer_check) (defScope s_answer_check) [] [] (He.fAd K ("answer_check", none)) fd
  f_answer_nearest : ∃ fd, FunD K "answer_nearest" "answer_nearest" (defArgs s_answer_nearest) (defBody s_answer_nearest) (defScope s_answer_nearest) [] [] (He.fAd K ("answer_nearest", none)) fd
  f_answer_far : ∃ fd, FunD K "answer_far" "answer_far" (defArgs s_answer_far) (defBody s_answer_far) (defScope s_answer_far) [] [] (He.fAd K ("answer_far", none)) fd
  f_answers : ∃ fd, FunD K "answers" "answers" (defArgs s_answers) (defBody s_answers) (defScope s_answers) [] [] (He.fAd K ("answers", none)) fd
  f_Command___init__ : ∃ fd, FunD K "__init__" "Command.__init__" (defArgs s_Command___init__) (defBody s_Command___init__) (defScope s_Command___init__) [] [] (He.fAd K ("Command", some "__init__")) fd
  f_Fault___init__ : ∃ fd, FunD K "__init__" "Fault.__init__" (defArgs s_Fault___init__) (defBody s_Fault___init__) (defScope s_Fault___init__) [] [] (He.fAd K ("Fault", some "__init__")) fd
  f_Line___init__ : ∃ fd, FunD K "__init__" "Line.__init__" (defArgs s_Line___init__) (defBody s_Line___init__) (defScope s_Line___init__) [] [] (He.fAd K ("Line", some "__init__")) fd
  f_Token___init__ : ∃ fd, FunD K "__init__" "Token.__init__" (defArgs s_Token___init__) (defBody s_Token___init__) (defScope s_Token___init__) [] [] (He.fAd K ("Token", some "__init__")) fd
  f_TokenReader___init__ : ∃ fd, FunD K "__init__" "TokenReader.__init__" (defArgs s_TokenReader___init__) (defBody s_TokenReader___init__) (defScope s_TokenReader___init__) [] [] (He.fAd K ("TokenReader", some "__init__")) fd
  f_TokenReader_coming : ∃ fd, FunD K "coming" "TokenReader.coming" (defArgs s_TokenReader_coming) (defBody s_TokenReader_coming) (defScope s_TokenReader_coming) [] [] (He.fAd K ("TokenReader", some "coming")) fd
  f_TokenReader_read_token : ∃ fd, FunD K "read_token" "TokenReader.read_token" (defArgs s_TokenReader_read_token) (defBody s_TokenReader_read_token) (defScope s_TokenReader_read_token) [] [] (He.fAd K ("TokenReader", some "read_token")) fd
  f_CallReader___init__ : ∃ fd, FunD K "__init__" "CallReader.__init__" (defArgs s_CallReader___init__) (defBody s_CallReader___init__) (defScope s_CallReader___init__) [] [] (He.fAd K ("CallReader", some "__init__")) fd
  f_CallReader_has_more : ∃ fd, FunD K "has_more" "CallReader.has_more" (defArgs s_CallReader_has_more) (defBody s_CallReader_has_more) (defScope s_CallReader_has_more) [] [] (He.fAd K ("CallReader", some "has_more")) fd
  f_CallReader_read_number : ∃ fd, FunD K "read_number" "CallReader.read_number" (defArgs s_CallReader_read_number) (defBody s_CallReader_read_number) (defScope s_CallReader_read_number) [] [] (He.fAd K ("CallReader", some "read_number")) fd
  f_CallReader_read_row : ∃ fd, FunD K "read_row" "CallReader.read_row" (defArgs s_CallReader_read_row) (defBody s_CallReader_read_row) (defScope s_CallReader_read_row) [] [] (He.fAd K ("CallReader", some "read_row")) fd
  f_Example___init__ : ∃ fd, FunD K "__init__" "Example.__init__" (defArgs s_Example___init__) (defBody s_Example___init__) (defScope s_Example___init__) [] [] (He.fAd K ("Example", some "__init__")) fd
theorem txt {K : PySem.W.Frag} {h : Heap} {mg : Str → Option Value} (X : K.In h) (G : h.Ns PySem.mainGlobals mg) (c : Says K) : Txt K mg where
  g_lines_in_common := He.glo_ok X G (c.d.fact 0 (f := .glo "lines_in_common") rfl)
  g_how_far := He.glo_ok X G (c.d.fact 1 (f := .glo "how_far") rfl)
  g_letter_of := He.glo_ok X G (c.d.fact 2 (f := .glo "letter_of") rfl)
  g_read_text := He.glo_ok X G (c.d.fact 3 (f := .glo "read_text") rfl)
  g_bytes_of := He.glo_ok X G (c.d.fact 4 (f := .glo "bytes_of") rfl)
  g_told_text := He.glo_ok X G (c.d.fact 5 (f := .glo "told_text") rfl)
  g_told_address := He.glo_ok X G (c.d.fact 6 (f := .glo "told_address") rfl)
  g_told_deed := He.glo_ok X G (c.d.fact 7 (f := .glo "told_deed") rfl)
  g_told_command := He.glo_ok X G (c.d.fact 8 (f := .glo "told_command") rfl)
  g_one_form := He.glo_ok X G (c.d.fact 9 (f := .glo "one_form") rfl)
  g_told_script := He.glo_ok X G (c.d.fact 10 (f := .glo "told_script") rfl)
  g_may_be_letters := He.glo_ok X G (c.d.fact 11 (f := .glo "may_be_letters") rfl)
  g_lines_of := He.glo_ok X G (c.d.fact 12 (f := .glo "lines_of") rfl)
  g_letters_of := He.glo_ok X G (c.d.fact 13 (f := .glo "letters_of") rfl)
  g_addresses_of := He.glo_ok X G (c.d.fact 14 (f := .glo "addresses_of") rfl)
  g_swaps_of := He.glo_ok X G (c.d.fact 15 (f := .glo "swaps_of") rfl)
  g_deeds_of := He.glo_ok X G (c.d.fact 16 (f := .glo "deeds_of") rfl)
  g_commands_of := He.glo_ok X G (c.d.fact 17 (f := .glo "commands_of") rfl)
  g_single_scripts_of := He.glo_ok X G (c.d.fact 18 (f := .glo "single_scripts_of") rfl)
  g_plain_address_holds := He.glo_ok X G (c.d.fact 19 (f := .glo "plain_address_holds") rfl)
  g_address_holds := He.glo_ok X G (c.d.fact 20 (f := .glo "address_holds") rfl)
  g_of_a_line := He.glo_ok X G (c.d.fact 21 (f := .glo "of_a_line") rfl)
  g_do_letters_deed := He.glo_ok X G (c.d.fact 22 (f := .glo "do_letters_deed") rfl)
  g_do_deed := He.glo_ok X G (c.d.fact 23 (f := .glo "do_deed") rfl)
  g_do_script := He.glo_ok X G (c.d.fact 24 (f := .glo "do_script") rfl)
  g_lines_that_come := He.glo_ok X G (c.d.fact 25 (f := .glo "lines_that_come") rfl)
  g_result_of := He.glo_ok X G (c.d.fact 26 (f := .glo "result_of") rfl)
  g_fits := He.glo_ok X G (c.d.fact 27 (f := .glo "fits") rfl)
  g_fits_all := He.glo_ok X G (c.d.fact 28 (f := .glo "fits_all") rfl)
  g_all_fitting := He.glo_ok X G (c.d.fact 29 (f := .glo "all_fitting") rfl)
  g_far_from := He.glo_ok X G (c.d.fact 30 (f := .glo "far_from") rfl)
  g_far_from_all := He.glo_ok X G (c.d.fact 31 (f := .glo "far_from_all") rfl)
  g_nearest_of := He.glo_ok X G (c.d.fact 32 (f := .glo "nearest_of") rfl)
  g_is_useful := He.glo_ok X G (c.d.fact 33 (f := .glo "is_useful") rfl)
  g_useful_commands := He.glo_ok X G (c.d.fact 34 (f := .glo "useful_commands") rfl)
  g_form_size := He.glo_ok X G (c.d.fact 35 (f := .glo "form_size") rfl)
  g_least_fitting := He.glo_ok X G (c.d.fact 36 (f := .glo "least_fitting") rfl)
  g_pairs_of := He.glo_ok X G (c.d.fact 37 (f := .glo "pairs_of") rfl)
  g_found_script := He.glo_ok X G (c.d.fact 38 (f := .glo "found_script") rfl)
  g_remark_end := He.glo_ok X G (c.d.fact 39 (f := .glo "remark_end") rfl)
  g_token_start := He.glo_ok X G (c.d.fact 40 (f := .glo "token_start") rfl)
  g_signs_at := He.glo_ok X G (c.d.fact 41 (f := .glo "signs_at") rfl)
  g_is_word := He.glo_ok X G (c.d.fact 42 (f := .glo "is_word") rfl)
  g_is_number := He.glo_ok X G (c.d.fact 43 (f := .glo "is_number") rfl)
  g_token_at := He.glo_ok X G (c.d.fact 44 (f := .glo "token_at") rfl)
  g_tokens_of := He.glo_ok X G (c.d.fact 45 (f := .glo "tokens_of") rfl)
  g_read_told := He.glo_ok X G (c.d.fact 46 (f := .glo "read_told") rfl)
  g_read_letters := He.glo_ok X G (c.d.fact 47 (f := .glo "read_letters") rfl)
  g_read_letters_or_none := He.glo_ok X G (c.d.fact 48 (f := .glo "read_letters_or_none") rfl)
  g_read_bounded := He.glo_ok X G (c.d.fact 49 (f := .glo "read_bounded") rfl)
  g_read_plain_address := He.glo_ok X G (c.d.fact 50 (f := .glo "read_plain_address") rfl)
  g_read_address := He.glo_ok X G (c.d.fact 51 (f := .glo "read_address") rfl)
  g_read_deed := He.glo_ok X G (c.d.fact 52 (f := .glo "read_deed") rfl)
  g_read_command := He.glo_ok X G (c.d.fact 53 (f := .glo "read_command") rfl)
  g_read_script := He.glo_ok X G (c.d.fact 54 (f := .glo "read_script") rfl)
  g_read_example_text := He.glo_ok X G (c.d.fact 55 (f := .glo "read_example_text") rfl)
  g_answer_example := He.glo_ok X G (c.d.fact 56 (f := .glo "answer_example") rfl)
  g_answer_drop := He.glo_ok X G (c.d.fact 57 (f := .glo "answer_drop") rfl)
  g_answer_shown := He.glo_ok X G (c.d.fact 58 (f := .glo "answer_shown") rfl)
  g_answer_family := He.glo_ok X G (c.d.fact 59 (f := .glo "answer_family") rfl)
  g_answer_find := He.glo_ok X G (c.d.fact 60 (f := .glo "answer_find") rfl)
  g_answer_all := He.glo_ok X G (c.d.fact 61 (f := .glo "answer_all") rfl)
  g_answer_check := He.glo_ok X G (c.d.fact 62 (f := .glo "answer_check") rfl)
  g_answer_nearest := He.glo_ok X G (c.d.fact 63 (f := .glo "answer_nearest") rfl)
  g_answer_far := He.glo_ok X G (c.d.fact 64 (f := .glo "answer_far") rfl)
  g_answers := He.glo_ok X G (c.d.fact 65 (f := .glo "answers") rfl)
  g_NotAText := He.glo_ok X G (c.d.fact 66 (f := .glo "NotAText") rfl)
  e_NotAText := He.exm_ok (c.d.fact 67 (f := .exm "NotAText" "NotAText" true) rfl)
  g_Command := He.glo_ok X G (c.d.fact 68 (f := .glo "Command") rfl)
  c_Command := He.cls_ok (c.d.fact 69 (f := .cls "Command") rfl)
  m_Command := He.mkr_ok (c.d.fact 70 (f := .mkr "Command") rfl)
  n_Command_address := He.noat_ok (c.d.fact 71 (f := .noat "Command" "address") rfl)
  n_Command_deed := He.noat_ok (c.d.fact 72 (f := .noat "Command" "deed") rfl)
  g_Fault := He.glo_ok X G (c.d.fact 73 (f := .glo "Fault") rfl)
  e_Fault := He.exm_ok (c.d.fact 74 (f := .exm "Fault" "Fault" true) rfl)
  g_TooMuch := He.glo_ok X G (c.d.fact 75 (f := .glo "TooMuch") rfl)
  e_TooMuch := He.exm_ok (c.d.fact 76 (f := .exm "TooMuch" "TooMuch" true) rfl)
  g_Line := He.glo_ok X G (c.d.fact 77 (f := .glo "Line") rfl)
  c_Line := He.cls_ok (c.d.fact 78 (f := .cls "Line") rfl)
  m_Line := He.mkr_ok (c.d.fact 79 (f := .mkr "Line") rfl)
  n_Line_letters := He.noat_ok (c.d.fact 80 (f := .noat "Line" "letters") rfl)
  n_Line_held := He.noat_ok (c.d.fact 81 (f := .noat "Line" "held") rfl)
  n_Line_number := He.noat_ok (c.d.fact 82 (f := .noat "Line" "number") rfl)
  n_Line_is_last := He.noat_ok (c.d.fact 83 (f := .noat "Line" "is_last") rfl)
  n_Line_comes := He.noat_ok (c.d.fact 84 (f := .noat "Line" "comes") rfl)
  n_Line_is_over := He.noat_ok (c.d.fact 85 (f := .noat "Line" "is_over") rfl)
  n_Line_left_out := He.noat_ok (c.d.fact 86 (f := .noat "Line" "left_out") rfl)
  n_Line_ahead := He.noat_ok (c.d.fact 87 (f := .noat "Line" "ahead") rfl)
  n_Line_behind := He.noat_ok (c.d.fact 88 (f := .noat "Line" "behind") rfl)
  g_NothingFound := He.glo_ok X G (c.d.fact 89 (f := .glo "NothingFound") rfl)
  e_NothingFound := He.exm_ok (c.d.fact 90 (f := .exm "NothingFound" "NothingFound" true) rfl)
  g_Token := He.glo_ok X G (c.d.fact 91 (f := .glo "Token") rfl)
  c_Token := He.cls_ok (c.d.fact 92 (f := .cls "Token") rfl)
  m_Token := He.mkr_ok (c.d.fact 93 (f := .mkr "Token") rfl)
  n_Token_told := He.noat_ok (c.d.fact 94 (f := .noat "Token" "told") rfl)
  n_Token_place := He.noat_ok (c.d.fact 95 (f := .noat "Token" "place") rfl)
  g_TokenReader := He.glo_ok X G (c.d.fact 96 (f := .glo "TokenReader") rfl)
  c_TokenReader := He.cls_ok (c.d.fact 97 (f := .cls "TokenReader") rfl)
  m_TokenReader := He.mkr_ok (c.d.fact 98 (f := .mkr "TokenReader") rfl)
  m_TokenReader_coming := He.meth_ok (c.d.fact 99 (f := .meth "TokenReader" "coming") rfl)
  m_TokenReader_read_token := He.meth_ok (c.d.fact 100 (f := .meth "TokenReader" "read_token") rfl)
  n_TokenReader_tokens := He.noat_ok (c.d.fact 101 (f := .noat "TokenReader" "tokens") rfl)
  n_TokenReader_place := He.noat_ok (c.d.fact 102 (f := .noat "TokenReader" "place") rfl)
  g_CallReader := He.glo_ok X G (c.d.fact 103 (f := .glo "CallReader") rfl)
  c_CallReader := He.cls_ok (c.d.fact 104 (f := .cls "CallReader") rfl)
  m_CallReader := He.mkr_ok (c.d.fact 105 (f := .mkr "CallReader") rfl)
  m_CallReader_has_more := He.meth_ok (c.d.fact 106 (f := .meth "CallReader" "has_more") rfl)
  m_CallReader_read_number := He.meth_ok (c.d.fact 107 (f := .meth "CallReader" "read_number") rfl)
  m_CallReader_read_row := He.meth_ok (c.d.fact 108 (f := .meth "CallReader" "read_row") rfl)
  n_CallReader_numbers := He.noat_ok (c.d.fact 109 (f := .noat "CallReader" "numbers") rfl)
  n_CallReader_place := He.noat_ok (c.d.fact 110 (f := .noat "CallReader" "place") rfl)
  g_Example := He.glo_ok X G (c.d.fact 111 (f := .glo "Example") rfl)
  c_Example := He.cls_ok (c.d.fact 112 (f := .cls "Example") rfl)
  m_Example := He.mkr_ok (c.d.fact 113 (f := .mkr "Example") rfl)
  n_Example_before := He.noat_ok (c.d.fact 114 (f := .noat "Example" "before") rfl)
  n_Example_after := He.noat_ok (c.d.fact 115 (f := .noat "Example" "after") rfl)
  v_ALPHABET := He.str_ok X G (c.d.fact 116 (f := .str "ALPHABET" "abcdefghijklmnopqrstuvwxyz") rfl)
  v_FIRST_LETTER := He.int_ok X G (c.d.fact 117 (f := .int "FIRST_LETTER" (97)) rfl)
  v_LINE_END := He.int_ok X G (c.d.fact 118 (f := .int "LINE_END" (10)) rfl)
  v_LETTERS_AT_MOST_texts := He.int_ok X G (c.d.fact 119 (f := .int "LETTERS_AT_MOST_texts" (16)) rfl)
  v_LINES_AT_MOST_texts := He.int_ok X G (c.d.fact 120 (f := .int "LINES_AT_MOST_texts" (24)) rfl)
  g_OWN_WORDS := He.glo_ok X G (c.d.fact 121 (f := .glo "OWN_WORDS") rfl)
  v_WORD_LETTERS_AT_MOST_family := He.int_ok X G (c.d.fact 122 (f := .int "WORD_LETTERS_AT_MOST_family" (8)) rfl)
  v_LINES_AT_MOST_family := He.int_ok X G (c.d.fact 123 (f := .int "LINES_AT_MOST_family" (12)) rfl)
  v_LETTERS_AT_MOST_family := He.int_ok X G (c.d.fact 124 (f := .int "LETTERS_AT_MOST_family" (6)) rfl)
  v_TOO_LONG := He.int_ok X G (c.d.fact 125 (f := .int "TOO_LONG" (1)) rfl)
  v_NO_TOKEN := He.int_ok X G (c.d.fact 126 (f := .int "NO_TOKEN" (2)) rfl)
  v_NOT_ALLOWED := He.int_ok X G (c.d.fact 127 (f := .int "NOT_ALLOWED" (3)) rfl)
  v_TOO_MANY := He.int_ok X G (c.d.fact 128 (f := .int "TOO_MANY" (4)) rfl)
  v_OUT_OF_BOUNDS := He.int_ok X G (c.d.fact 129 (f := .int "OUT_OF_BOUNDS" (7)) rfl)
  v_RESULT_LINES_AT_MOST := He.int_ok X G (c.d.fact 130 (f := .int "RESULT_LINES_AT_MOST" (60)) rfl)
  v_TOO_MUCH_FAR := He.int_ok X G (c.d.fact 131 (f := .int "TOO_MUCH_FAR" (1000)) rfl)
  v_USEFUL_AT_MOST := He.int_ok X G (c.d.fact 132 (f := .int "USEFUL_AT_MOST" (40)) rfl)
  v_DIGITS := He.str_ok X G (c.d.fact 133 (f := .str "DIGITS" "0123456789") rfl)
  v_FIRST_DIGIT := He.int_ok X G (c.d.fact 134 (f := .int "FIRST_DIGIT" (48)) rfl)
  v_SEMICOLON := He.int_ok X G (c.d.fact 135 (f := .int "SEMICOLON" (59)) rfl)
  v_REMARK_START := He.int_ok X G (c.d.fact 136 (f := .int "REMARK_START" (35)) rfl)
  v_REMARK_END := He.int_ok X G (c.d.fact 137 (f := .int "REMARK_END" (10)) rfl)
  g_BLANKS := He.glo_ok X G (c.d.fact 138 (f := .glo "BLANKS") rfl)
  v_WORD_LETTERS_AT_MOST_tokens := He.int_ok X G (c.d.fact 139 (f := .int "WORD_LETTERS_AT_MOST_tokens" (8)) rfl)
  v_GREATEST_NUMBER := He.int_ok X G (c.d.fact 140 (f := .int "GREATEST_NUMBER" (1000000000)) rfl)
  v_BYTES_AT_MOST := He.int_ok X G (c.d.fact 141 (f := .int "BYTES_AT_MOST" (4096)) rfl)
  v_COMMANDS_AT_MOST := He.int_ok X G (c.d.fact 142 (f := .int "COMMANDS_AT_MOST" (16)) rfl)
  v_NOTS_AT_MOST := He.int_ok X G (c.d.fact 143 (f := .int "NOTS_AT_MOST" (3)) rfl)
  v_GREATEST_LINE := He.int_ok X G (c.d.fact 144 (f := .int "GREATEST_LINE" (99)) rfl)
  v_GREATEST_SKIP := He.int_ok X G (c.d.fact 145 (f := .int "GREATEST_SKIP" (9)) rfl)
  v_EXAMPLES_AT_MOST := He.int_ok X G (c.d.fact 146 (f := .int "EXAMPLES_AT_MOST" (4)) rfl)
  v_EXAMPLE_LINES_AT_MOST := He.int_ok X G (c.d.fact 147 (f := .int "EXAMPLE_LINES_AT_MOST" (6)) rfl)
  v_FITTING_TOLD_AT_MOST := He.int_ok X G (c.d.fact 148 (f := .int "FITTING_TOLD_AT_MOST" (10)) rfl)
  v_NO_SUCH_EXAMPLE := He.int_ok X G (c.d.fact 149 (f := .int "NO_SUCH_EXAMPLE" (-2)) rfl)
  v_NOT_A_TEXT := He.int_ok X G (c.d.fact 150 (f := .int "NOT_A_TEXT" (-4)) rfl)
  v_NO_ROOM := He.int_ok X G (c.d.fact 151 (f := .int "NO_ROOM" (-7)) rfl)
  v_NOTHING_FOUND := He.int_ok X G (c.d.fact 152 (f := .int "NOTHING_FOUND" (-8)) rfl)
  g_CALLS := He.glo_ok X G (c.d.fact 153 (f := .glo "CALLS") rfl)
  b_enumerate := He.free_ok X G (c.d.fact 154 (f := .free "enumerate") rfl)
  b_int := He.free_ok X G (c.d.fact 155 (f := .free "int") rfl)
  b_len := He.free_ok X G (c.d.fact 156 (f := .free "len") rfl)
  b_max := He.free_ok X G (c.d.fact 157 (f := .free "max") rfl)
  b_min := He.free_ok X G (c.d.fact 158 (f := .free "min") rfl)
  b_ord := He.free_ok X G (c.d.fact 159 (f := .free "ord") rfl)
  b_range := He.free_ok X G (c.d.fact 160 (f := .free "range") rfl)
  b_str := He.free_ok X G (c.d.fact 161 (f := .free "str") rfl)
  b_sum := He.free_ok X G (c.d.fact 162 (f := .free "sum") rfl)
  b_zip := He.free_ok X G (c.d.fact 163 (f := .free "zip") rfl)
  k_bk := (He.ba (show more K = true from c.m)).1
  t_OWN_WORDS := (He.ba (He.ba (show more K = true from c.m)).2).1
  t_BLANKS := (He.ba (He.ba (He.ba (show more K = true from c.m)).2).2).1
  t_CALLS := (He.ba (He.ba (He.ba (He.ba (show more K = true from c.m)).2).2).2).1
  x_NotAText := (He.ba (He.ba (He.ba (He.ba (He.ba (show more K = true from c.m)).2).2).2).2).1
  x_TooMuch := (He.ba (He.ba (He.ba (He.ba (He.ba (He.ba (show more K = true from c.m)).2).2).2).2).2).1
  x_NothingFound := (He.ba (He.ba (He.ba (He.ba (He.ba (He.ba (He.ba (show more K = true from c.m)).2).2).2).2).2).2).1
  x_Fault := (He.ba (He.ba (He.ba (He.ba (He.ba (He.ba (He.ba (show more K = true from c.m)).2).2).2).2).2).2).2
  k_near := c.nr
  f_lines_in_common := c.d.def_ 0 (d := d_lines_in_common) rfl
  f_how_far := c.d.def_ 1 (d := d_how_far) rfl
  f_letter_of := c.d.def_ 2 (d := d_letter_of) rfl
  f_read_text := c.d.def_ 3 (d := d_read_text) rfl
  f_bytes_of := c.d.def_ 4 (d := d_bytes_of) rfl
  f_told_text := c.d.def_ 5 (d := d_told_text) rfl
  f_told_address := c.d.def_ 6 (d := d_told_address) rfl
  f_told_deed := c.d.def_ 7 (d := d_told_deed) rfl
  f_told_command := c.d.def_ 8 (d := d_told_command) rfl
  f_one_form := c.d.def_ 9 (d := d_one_form) rfl
  f_told_script := c.d.def_ 10 (d := d_told_script) rfl
  f_may_be_letters := c.d.def_ 11 (d := d_may_be_letters) rfl
  f_lines_of := c.d.def_ 12 (d := d_lines_of) rfl
  f_letters_of := c.d.def_ 13 (d := d_letters_of) rfl
  f_addresses_of := c.d.def_ 14 (d := d_addresses_of) rfl
  f_swaps_of := c.d.def_ 15 (d := d_swaps_of) rfl
  f_deeds_of := c.d.def_ 16 (d := d_deeds_of) rfl
  f_commands_of := c.d.def_ 17 (d := d_commands_of) rfl
  f_single_scripts_of := c.d.def_ 18 (d := d_single_scripts_of) rfl
  f_plain_address_holds := c.d.def_ 19 (d := d_plain_address_holds) rfl
  f_address_holds := c.d.def_ 20 (d := d_address_holds) rfl
  f_of_a_line := c.d.def_ 21 (d := d_of_a_line) rfl
  f_do_letters_deed := c.d.def_ 22 (d := d_do_letters_deed) rfl
  f_do_deed := c.d.def_ 23 (d := d_do_deed) rfl
  f_do_script := c.d.def_ 24 (d := d_do_script) rfl
  f_lines_that_come := c.d.def_ 25 (d := d_lines_that_come) rfl
  f_result_of := c.d.def_ 26 (d := d_result_of) rfl
  f_fits := c.d.def_ 27 (d := d_fits) rfl
  f_fits_all := c.d.def_ 28 (d := d_fits_all) rfl
  f_all_fitting := c.d.def_ 29 (d := d_all_fitting) rfl
  f_far_from := c.d.def_ 30 (d := d_far_from) rfl
  f_far_from_all := c.d.def_ 31 (d := d_far_from_all) rfl
  f_nearest_of := c.d.def_ 32 (d := d_nearest_of) rfl
  f_is_useful := c.d.def_ 33 (d := d_is_useful) rfl
  f_useful_commands := c.d.def_ 34 (d := d_useful_commands) rfl
  f_form_size := c.d.def_ 35 (d := d_form_size) rfl
  f_least_fitting := c.d.def_ 36 (d := d_least_fitting) rfl
  f_pairs_of := c.d.def_ 37 (d := d_pairs_of) rfl
  f_found_script := c.d.def_ 38 (d := d_found_script) rfl
  f_remark_end := c.d.def_ 39 (d := d_remark_end) rfl
  f_token_start := c.d.def_ 40 (d := d_token_start) rfl
  f_signs_at := c.d.def_ 41 (d := d_signs_at) rfl
  f_is_word := c.d.def_ 42 (d := d_is_word) rfl
  f_is_number := c.d.def_ 43 (d := d_is_number) rfl
  f_token_at := c.d.def_ 44 (d := d_token_at) rfl
  f_tokens_of := c.d.def_ 45 (d := d_tokens_of) rfl
  f_read_told := c.d.def_ 46 (d := d_read_told) rfl
  f_read_letters := c.d.def_ 47 (d := d_read_letters) rfl
  f_read_letters_or_none := c.d.def_ 48 (d := d_read_letters_or_none) rfl
  f_read_bounded := c.d.def_ 49 (d := d_read_bounded) rfl
  f_read_plain_address := c.d.def_ 50 (d := d_read_plain_address) rfl
  f_read_address := c.d.def_ 51 (d := d_read_address) rfl
  f_read_deed := c.d.def_ 52 (d := d_read_deed) rfl
  f_read_command := c.d.def_ 53 (d := d_read_command) rfl
  f_read_script := c.d.def_ 54 (d := d_read_script) rfl
  f_read_example_text := c.d.def_ 55 (d := d_read_example_text) rfl
  f_answer_example := c.d.def_ 56 (d := d_answer_example) rfl
  f_answer_drop := c.d.def_ 57 (d := d_answer_drop) rfl
  f_answer_shown := c.d.def_ 58 (d := d_answer_shown) rfl
  f_answer_family := c.d.def_ 59 (d := d_answer_family) rfl
  f_answer_find := c.d.def_ 60 (d := d_answer_find) rfl
  f_answer_all := c.d.def_ 61 (d := d_answer_all) rfl
  f_answer_check := c.d.def_ 62 (d := d_answer_check) rfl
  f_answer_nearest := c.d.def_ 63 (d := d_answer_nearest) rfl
  f_answer_far := c.d.def_ 64 (d := d_answer_far) rfl
  f_answers := c.d.def_ 65 (d := d_answers) rfl
  f_Command___init__ := c.d.def_ 66 (d := d_Command___init__) rfl
  f_Fault___init__ := c.d.def_ 67 (d := d_Fault___init__) rfl
  f_Line___init__ := c.d.def_ 68 (d := d_Line___init__) rfl
  f_Token___init__ := c.d.def_ 69 (d := d_Token___init__) rfl
  f_TokenReader___init__ := c.d.def_ 70 (d := d_TokenReader___init__) rfl
  f_TokenReader_coming := c.d.def_ 71 (d := d_TokenReader_coming) rfl
  f_TokenReader_read_token := c.d.def_ 72 (d := d_TokenReader_read_token) rfl
  f_CallReader___init__ := c.d.def_ 73 (d := d_CallReader___init__) rfl
  f_CallReader_has_more := c.d.def_ 74 (d := d_CallReader_has_more) rfl
  f_CallReader_read_number := c.d.def_ 75 (d := d_CallReader_read_number) rfl
  f_CallReader_read_row := c.d.def_ 76 (d := d_CallReader_read_row) rfl
  f_Example___init__ := c.d.def_ 77 (d := d_Example___init__) rfl
end Ls
set_option Elab.async false
set_option linter.all false
set_option maxRecDepth 100000
set_option maxHeartbeats 0
namespace Ls
open PySem PySem.Spec PyProof.Rows L2
theorem run (w : World) : HeadRun.RunEqS R qv (hk NN) ob 6000 loose w := by
  intro os
  kernel_rfl
end Ls
set_option Elab.async false
set_option linter.all false
set_option maxRecDepth 100000
set_option maxHeartbeats 4000000
/-! what is to be shown of answers -/
namespace Ls
open PySem PySem.Spec PyProof.Rows L2
/-- the name of the code objects that nearest_of's table tells -/
def lamName : Str := "nearest_of.<locals>.<lambda>"
/-- the table of nearest_of, as the runs keep it -/
def NearT (K : PySem.W.Frag) (H : Hp) : Prop := LamX.TabS H (tbAd K) lamName
/-- the asked def's promise -/
def spAnswers (K : PySem.W.Frag) : Sp := fun vs H Q _ => ∃ (a : Addr) (ns : List Int), vs = [.ref a] ∧ SqL K H a (ns.map V.int) ∧ NearT K H ∧ PyVasedf.answers_asked ns = true ∧ ns.length ≤ 17000 ∧
  ∀ (H' : Hp) (p : Addr), H' p = some (.lst ((PyVasedf.answers ns).map V.int)) → Q (.ref p) H'
def MainOk (k : Nat) : Prop := ∀ (w : World) (K : PySem.W.Frag) (mg : Str → Option Value) (base : Heap), Txt K mg → LamX.TabB base mg (cdAd K) (tbAd K) →
  ∀ fd, FunD K "answers" "answers" (defArgs s_answers) (defBody s_answers) (defScope s_answers) [] [] (He.fAd K ("answers", none)) fd → FnOk R.prog w K mg base CX0 k (He.ga K "answers") fd ["calls"] (spAnswers K)
end Ls
set_option Elab.async false
set_option linter.all false
set_option maxRecDepth 100000
set_option maxHeartbeats 4000000
/-! the end of a row of the kind Spec over a head that leaves one empty table of code objects -/
namespace Ls
open PySem PySem.Spec PyProof.Rows L2
open PySem.W (WData Codec OpenSpec Well WellAll ReadsW ReadsAllW)
/-- what stands for a datum stands for it in a larger heap -/
theorem sqLup {K : PySem.W.Frag} {H G : Hp} (e : ∀ b o, H b = some o → G b = some o) {a : Addr} {xs : List V} (h : SqL K H a xs) : SqL K G a xs := by
  rcases h with (h | ⟨o, h⟩) | h
  · exact .inl (.inl (e _ _ h))
  · exact .inl (.inr ⟨o, e _ _ h⟩)
  · exact .inr h
theorem sqTup {K : PySem.W.Frag} {H G : Hp} (e : ∀ b o, H b = some o → G b = some o) {a : Addr} {xs : List V} (h : SqT K H a xs) : SqT K G a xs := by
  rcases h with (h | ⟨o, h⟩) | h
  · exact .inl (.inl (e _ _ h))
  · exact .inl (.inr ⟨o, e _ _ h⟩)
  · exact .inr h
mutual
theorem dwUp {K : PySem.W.Frag} {H G : Hp} (e : ∀ b o, H b = some o → G b = some o) : ∀ (d : WData) (v : V), Dw K H v d → Dw K G v d
  | _, _, .non => .non
  | _, _, .bl b => .bl b
  | _, _, .int i => .int i
  | _, _, .str x => .str x
  | _, _, .byt b => .byt b
  | _, _, .lst s a => .lst (sqLup e s) (dwUps e _ _ a)
  | _, _, .tup s a => .tup (sqTup e s) (dwUps e _ _ a)
theorem dwUps {K : PySem.W.Frag} {H G : Hp} (e : ∀ b o, H b = some o → G b = some o) : ∀ (ds : List WData) (vs : List V), DwAll K H vs ds → DwAll K G vs ds
  | _, _, .nil => .nil
  | _, _, .cons x y => .cons (dwUp e _ _ x) (dwUps e _ _ y)
end
section
variable {P : Program} {w : World} {K : PySem.W.Frag} {mg mb : Str → Option Value} {CX : CXT} {k : Nat} {fa c T : Addr} {fd : FuncData} {ps : List Str} {sp : Sp} {s : Shared} {vals : List Value} {ds : List WData} {RC : PySem.W.WRecords} {cl : Str → Option Addr} {d0 : WData}
/-- the call of a row's def where the head leaves one empty table of code objects -/
theorem call_tab (KX : K.In s.heap) (gl : s.heap.Ns mainGlobals mg) (bu : s.heap.Ns builtinsNs mb) (bb : ∀ x : Str, x ≠ "__name__" → mb x = bootBuiltins x) (nl : s.heap.NoLimit) (g0 : s.gens = #[])
    (tT : s.heap.get? T = some { cls := .none, data := .fields #[] }) (kT : K.lookup T = none) (cT : PySem.W.CodeHd s.heap c T)
    (bm : ∃ (b : Addr) (o : Obj), mg "__builtins__" = some (.ref b) ∧ b ≠ builtinsNs ∧ s.heap.get? b = some o ∧ o.cls = .type "module" ∧ o.dict = some builtinsNs ∧ o.data = .plain)
    (wl : WellAll w.params s.heap vals ds) (pl : plWs ds = true) (wt : ∀ d ∈ ds, d.weight ≤ 1048576) (hr : Room k callerA)
    (F : ∀ base : Heap, K.In base → base.Ns mainGlobals mg → LamX.TabB base mg c T → FnOk P w K mg base CX k fa fd ps sp)
    (bd : ∀ (s : Shared) (us : List Value), us.length = ps.length → BindsTo s fd ⟨us, []⟩ (ps.zip us)) (ln : ds.length = ps.length)
    (pr : ∀ (H : Hp) (xs : List V), H T = some (.tbl #[]) → DwAll K H xs ds → sp xs H (fun v G => Dw K G v d0) fun _ _ _ => False)
    (nx : ∀ H e s', CX [] H s (fun _ _ _ => False) e s' → False) :
    codeAny (model P w) callerA (.call (.ref fa) ⟨vals, []⟩) (fun r s' => ∃ u as, r = .ok (.ret u) ∧ ReadsW RC cl s'.heap u d0 as ∧ OldK s.heap s'.heap ∧ s'.os = s.os ∧ AllBare s'.gens) s := by
  obtain ⟨A, oA, aA⟩ := area_all ds vals wl pl wt
  have only0 := argH_only (K := K) aA
  have ok0 : HOk P w (argH K s.heap A) s.heap := argH_ok aA
  have dw0 := dw_all KX aA ds vals wl pl oA
  have rel0 := vals_toV oA
  have seq0 : ∀ b u, argH K s.heap A b = some u → K.lookup b = none ∧ ∃ o vs n, s.heap.get? b = some o ∧ o.data = .seq vs n := fun b u q => by
    obtain ⟨x, vs, _, _, ⟨e, _⟩ | ⟨e, _⟩⟩ := argH_is aA q
    · exact ⟨x, _, _, _, e, rfl⟩
    · exact ⟨x, _, _, _, e, rfl⟩
  generalize argH K s.heap A = H0 at only0 ok0 dw0 seq0
  have fT : H0 T = none := by
    cases q : H0 T with
    | none => rfl
    | some u =>
      obtain ⟨_, o, vs, n, e, d⟩ := seq0 T u q
      rw [tT] at e
      cases e
      cases d
  have up : ∀ b o, H0 b = some o → upd H0 T (.tbl #[]) b = some o := fun b o e => (upd_ne (ne_of_none e fT)).trans e
  have tH : upd H0 T (.tbl #[]) T = some (.tbl #[]) := upd_same
  have dw1 := dwUps up ds _ dw0
  have cases1 : ∀ b u, upd H0 T (.tbl #[]) b = some u → (b = T ∧ u = .tbl #[]) ∨ (b ≠ T ∧ H0 b = some u) := fun b u q => by
    by_cases z : b = T
    · rw [z, upd_same] at q
      exact .inl ⟨z, (Option.some.inj q).symm⟩
    · rw [upd_ne z] at q
      exact .inr ⟨z, q⟩
  have hok : HOk P w (upd H0 T (.tbl #[])) s.heap := fun b u q => by
    rcases cases1 b u q with ⟨e1, e2⟩ | ⟨e1, e2⟩
    · rw [e1, e2]
      exact tT
    · refine (ok0 b u e2).stay (fun d v _ q => q) (fun d q => up _ _ q) fun d xs q => up _ _ q
  have not1 : ∀ {b : Addr} {o : Obj}, s.heap.get? b = some o → b ≠ T → (∀ vs n, o.data ≠ .seq vs n) → upd H0 T (.tbl #[]) b = none := fun {b o} e n d => by
    cases q : upd H0 T (.tbl #[]) b with
    | none => rfl
    | some u =>
      rcases cases1 b u q with ⟨e1, _⟩ | ⟨_, e2⟩
      · exact absurd e1 n
      · obtain ⟨_, o2, vs, m, e3, d2⟩ := seq0 b u e2
        rw [e] at e3
        cases e3
        exact absurd d2 (d vs m)
  have dict1 : ∀ {b : Addr} {o : Obj} {es : Array DictEntry} {m : Nat}, s.heap.get? b = some o → o.data = .dict es m → upd H0 T (.tbl #[]) b = none := fun {b o es m} e d => by
    refine not1 e (fun z => ?_) fun vs n z => ?_
    · rw [z, tT] at e
      cases e
      cases d
    · rw [d] at z
      cases z
  have know1 : ∀ b o, K.lookup b = some o → upd H0 T (.tbl #[]) b = none := fun b o e => by
    cases q : upd H0 T (.tbl #[]) b with
    | none => rfl
    | some u =>
      rcases cases1 b u q with ⟨e1, _⟩ | ⟨_, e2⟩
      · rw [e1, kT] at e
        cases e
      · rw [(seq0 b u e2).1] at e
        cases e
  have key1 : ∀ b o, b ≠ T → s.heap.get? b = some o → H0 b = none ∨ (∃ ob u, upd H0 T (.tbl #[]) b = some (.frz ob u)) := fun b o n e => by
    rcases only0 b with z | ⟨ob, u, z⟩
    · exact .inl z
    · exact .inr ⟨ob, u, (upd_ne n).trans z⟩
  have off1 : ∀ b, b ≠ T → H0 b = none → upd H0 T (.tbl #[]) b = none := fun b n z => (upd_ne n).trans z
  generalize upd H0 T (.tbl #[]) = H at tH dw1 hok not1 dict1 know1 key1 off1
  have ns1 : ∀ {b : Addr} {m : Str → Option Value}, s.heap.Ns b m → (hidT s.heap H).Ns b m := fun {b m} q => by
    obtain ⟨o, es, ep, e, d, r⟩ := q
    exact ⟨o, es, ep, hidT_get e (dict1 e d), d, r⟩
  have KB : K.In (hidT s.heap H) := fun b o e => hidT_get (KX b o e) (know1 b o e)
  have M1 : L2.Mod K mg (hidT s.heap H) := by
    obtain ⟨mc, l1, l2⟩ := nl
    exact ⟨KB, ns1 gl, ⟨mb, ns1 bu, bb⟩, ⟨mc, ns1 l1, l2⟩⟩
  have TB : LamX.TabB (hidT s.heap H) mg c T := by
    refine ⟨?_, ?_, fun z => ?_⟩
    · obtain ⟨o, us, file, tf, flags, tg, inF, text, tt, e1, x1, x2, x3, rest⟩ := cT
      refine ⟨o, us, file, tf, flags, tg, inF, text, tt, hidT_get e1 (not1 e1 (fun z => ?_) fun vs n z => ?_), x1, x2, x3, rest⟩
      · rw [z, tT] at e1
        cases e1
        cases x2
        simp at x3
      · rw [x2] at z
        cases z
    · obtain ⟨b, o, b1, b2, b3, b4, b5, b6⟩ := bm
      have n1 : b ≠ T := fun z => by
        rw [z, tT] at b3
        cases b3
        cases b6
      have n2 : b ≠ mainGlobals := fun z => by
        obtain ⟨o2, es, ep, e, d, _⟩ := gl
        rw [← z, b3] at e
        cases e
        rw [b6] at d
        cases d
      refine ⟨b, o, b1, b2, n2, n1, hidT_get b3 (not1 b3 n1 fun vs n z => ?_), b4, b5, b6⟩
      rw [b6] at z
      cases z
    · obtain ⟨o, es, ep, e, d, _⟩ := gl
      rw [z, tT] at e
      cases e
      cases d
  have E0 : Env0 P w K mg (hidT s.heap H) callerA [] s H := ⟨rfl, M1, fun b o e => of_hidT e, Nat.le_of_eq (hidT_size _ _), trivial, fun b hb => (nomatch (show b ∈ ([] : List Addr) from hb)), hok, .of_eq g0⟩
  have lv : vals.length = ps.length := (wellAll_len wl).trans ln
  refine codeAny_mono ((F _ KB (ns1 gl) TB).run callerA [] s H ⟨vals, []⟩ vals (vals.map toV) _ _ hr E0 (bd s vals lv) rel0 (pr H _ tH dw1)) fun r s' x => ?_
  cases r with
  | error e => exact (nx H e s' x).elim
  | ok fl =>
    cases fl with
    | next => exact False.elim x
    | brk => exact False.elim x
    | cont => exact False.elim x
    | ret u =>
      obtain ⟨v, G, os, bare, un, okG, rv, q⟩ := x
      have stays : ∀ b o, b ≠ T → s.heap.get? b = some o → s'.heap.get? b = some o := fun b o n e => by
        rcases key1 b o n e with z | ⟨ob, u2, z⟩
        · exact un.keep b o e (off1 b n z) (fun z => (nomatch (show b ∈ ([] : List Addr) from z))) (by simp)
        · obtain ⟨e1, _⟩ := hok b _ z
          obtain ⟨e2, _⟩ := okG b _ (un.frzs b ob _ z)
          exact e2.trans (e1.symm.trans e)
      obtain ⟨more, gT⟩ := un.tbls T #[] tH
      have tT2 : s'.heap.get? T = some { cls := .none, data := .fields (#[] ++ more) } := okG T _ gT
      have KX2 : K.In s'.heap := fun b o e => stays b o (fun z => by
        rw [z, kT] at e
        cases e) (KX b o e)
      obtain ⟨as, rd⟩ := Dw.reads (R := RC) (cl := cl) okG KX2 d0 v u q rv
      refine ⟨u, as, rfl, rd, ⟨fun b o e => ?_, fun b o e => ?_⟩, os, bare⟩
      · by_cases z : b = T
        · rw [z] at e ⊢
          rw [tT] at e
          cases e
          exact .inr (.inl ⟨(cT.tab tT).isCodeTable, rfl, #[], more, rfl, tT2⟩)
        · exact .inl (stays b o z e)
      · by_cases z : b = T
        · rw [z]
          exact ⟨_, tT2⟩
        · exact ⟨o, stays b o z e⟩
end
/-- the end of a row of the kind Spec over a head by facts that leaves one empty table -/
theorem walk_near {r : OpenSpec} {k : Nat} {q : Program} {loose : List Str} {XP : (Str → Option Value) → Heap → Prop} {YP : World → Heap → Prop} {d : DefRec} {CX : CXT} {ps : List Str} {sp : PySem.W.Frag → Sp} {cd tb : PySem.W.Frag → Addr}
    (hwell : r.wellSaid = true) (hdf : d.params.defaults = []) (hlen : r.args.length = ps.length) (hr : Room k callerA)
    (F : ∀ (w : World) (mg : Str → Option Value) (fa : Addr) (h : Heap), YP w h → h.Ns mainGlobals mg → mg d.name = some (.ref fa) →
      ∃ K : PySem.W.Frag, K.In h ∧ h.get? (tb K) = some { cls := .none, data := .fields #[] } ∧ K.lookup (tb K) = none ∧ PySem.W.CodeHd h (cd K) (tb K) ∧ ∃ fd : FuncData, (∀ (s : Shared) (us : List Value), us.length = ps.length → BindsTo s fd ⟨us, []⟩ (ps.zip us)) ∧
        ∀ base : Heap, K.In base → base.Ns mainGlobals mg → LamX.TabB base mg (cd K) (tb K) → FnOk r.prog w K mg base CX k fa fd ps (sp K))
    (hsp : ∀ (K : PySem.W.Frag) (H : Hp) (xs : List V) (a : Codec.denoteAll r.args), H (tb K) = some (.tbl #[]) → Codec.withinAll r.args a = true → Codec.app r.args r.asked a = true → DwAll K H xs (Codec.encAll r.args a) →
      sp K xs H (fun v H' => Dw K H' v (r.ret.enc (Codec.app r.args r.f a))) fun _ _ _ => False)
    (hCX : ∀ (H : Hp) (s : Shared) (e : Value) (s' : Shared), CX [] H s (fun _ _ _ => False) e s' → False) :
    PySem.W.WalkOS q loose XP YP r d [] (fun f vs => PySem.call f vs) := by
  intro w s₀ s₁ mg mb G Y fa o pm cd' doc dV kV ho hd hcd hD hmg hg args vals as hpre hlay hrd hwl hlo
  obtain ⟨a, e1, e2⟩ := PySem.W.os_pre_some hpre
  obtain ⟨e3, hwi⟩ := Codec.encAll_of_decAll r.args args a e1
  subst e3
  obtain ⟨K, KX, tT, kT, cT, fd, hb, hF⟩ := F w mg fa _ Y G.T.g hmg
  refine PySem.W.enter_call (codeAny_mono (call_tab (RC := []) (cl := classAt s₀.heap) (d0 := r.ret.enc (Codec.app r.args r.f a)) KX G.T.g G.T.b G.T.builtins G.T.nolimit hg tT kT cT G.T.bmain hwl (pl_encAll _ _) (layable_weight hlay) hr hF hb (by rw [encAll_len]; exact hlen)
    (fun H xs hO hS => hsp K H xs a hO hwi e2 hS) fun H e s' => hCX H s₁ e s') fun r' s' hq => ?_)
  obtain ⟨u, as', rfl, h1, h2, h3, h4⟩ := hq
  exact ⟨.inl ⟨u, _, as', rfl, fun _ => rfl, h1, (OpenSpec.post_iff hwell hwi _ _).mpr rfl, fun z => Bool.noConfusion (show false = true from z)⟩, h2, h3, h4⟩
end Ls
set_option Elab.async false
set_option linter.all false
set_option maxRecDepth 100000
set_option maxHeartbeats 4000000
namespace Ls
open PySem PySem.Spec PyProof.Rows L2
open PySem.W (WData Codec OpenSpec Well WellAll ReadsW ReadsAllW)
theorem holds_of (k : Nat) (hk1 : Room k callerA) (m : MainOk k) : R.Holds := by
  refine HeadRun.head_spec (r := R) (q := qv) (H := hk NN) (ob := ob) (M := 6000) (loose := loose) (d := HeadRun.topDef R.prog 125) (kwd := []) ob_eq
    (by kernel_rfl) (fun s => by kernel_rfl) run (by kernel_rfl) (by kernel_rfl) (by kernel_rfl) PySem.W.os_shapes (by first | assumption | decide +kernel) (by decide +kernel) ⟨rfl, rfl, rfl, rfl, rfl, by decide +kernel⟩ ⟨[.list [.int 2]], by decide +kernel, by decide +kernel⟩ ?_
  refine walk_near (r := R) (k := k) (CX := CX0) (ps := ["calls"]) (sp := spAnswers) (cd := cdAd) (tb := tbAd) (by decide +kernel) rfl rfl hk1 ?F ?S (fun _ _ _ _ z => z)
  case F =>
    intro w mg fa h Y G hmg0
    obtain ⟨K, KX, c, tT⟩ := Y
    have T : Txt K mg := txt KX G c
    have hmg : mg ("answers" : PySem.Str) = some (.ref fa) := by
      have e : (HeadRun.topDef R.prog 125).name = ("answers" : PySem.Str) := by kernel_rfl
      rw [← e]
      exact hmg0
    have e := hmg.symm.trans T.g_answers
    cases e
    obtain ⟨fd, F⟩ := T.f_answers
    have b := FunD.bindsA (ps := ["calls"]) F fun _ _ _ _ _ _ us hl => match us, hl with | [_], _ => rfl
    have kn : (PySem.W.codeHdIn K (cdAd K) (tbAd K) && (K.lookup (tbAd K)).isNone) = true := T.k_near
    obtain ⟨k1, k2⟩ := Bool.and_eq_true_iff.mp kn
    refine ⟨K, KX, tT, Option.isNone_iff_eq_none.mp k2, PySem.W.codeHd_of_K KX k1, fd, b, fun base _ hb tb => m w K mg base T tb fd F⟩
  case S =>
    intro K H xs a hO hwi hask hx
    cases hx with
    | cons h1 h2 =>
      cases h2
      cases h1 with
      | lst hs ha =>
        have e := L2.ints_dw a.1 _ ha
        subst e
        have q : ((Codec.inLen 0 17000 a.1 && a.1.all (Codec.inInt (-1000000000000000000) 1000000000000000000)) && true) = true := hwi
        rw [Bool.and_eq_true, Bool.and_eq_true] at q
        exact ⟨_, a.1, rfl, hs, LamX.TabS.nil hO, hask, (Codec.inNat_iff.mp q.1.1).2, fun H' p hp => .lst (L2.SqL.of hp) (L2.dw_ints _)⟩
end Ls
set_option Elab.async false
set_option linter.all false
set_option maxRecDepth 100000
set_option maxHeartbeats 4000000
/-! Own words over the hand layer: defs, methods, classes by name; heaps. -/
namespace Ls
open PySem PySem.Spec PyProof.Rows L2
section
variable {P : Program} {w : World} {K : PySem.W.Frag} {mg : Str → Option Value} {base : Heap}
/-- a def that may be called by its name -/
structure DOk (P : Program) (w : World) (K : PySem.W.Frag) (mg : Str → Option Value) (base : Heap) (CX : CXT) (k : Nat) (x : Str) (sp : Sp) : Prop where
  ex : ∃ (f : Addr) (fd : FuncData) (ps : List Str), FnOk P w K mg base CX k f fd ps sp ∧ mg x = some (.ref f) ∧ PySem.W.keepIn K (.ref f) = true ∧ Binds K fd ps []
/-- a method of a class -/
structure MOk (P : Program) (w : World) (K : PySem.W.Frag) (mg : Str → Option Value) (base : Heap) (CX : CXT) (k : Nat) (C : Addr) (m : Str) (sp : Sp) : Prop where
  ex : ∃ (f : Addr) (fd : FuncData) (ps : List Str), Cls K C ∧ Meth K C m f ∧ FnOk P w K mg base CX k f fd ps sp ∧ Binds K fd ps []
/-- a class that may be made by its name -/
structure COk (P : Program) (w : World) (K : PySem.W.Frag) (mg : Str → Option Value) (base : Heap) (k : Nat) (x : Str) (C : Addr) (sp : Sp) : Prop where
  ex : ∃ (f : Addr) (fd : FuncData) (ps : List Str), Mk K C f ∧ FnOk P w K mg base CX0 k f fd ps sp ∧ mg x = some (.ref C) ∧ Binds K fd ps []
theorem dok {CX : CXT} {st : Stmt} {x : Str} {fd : FuncData} {N ps : List Str} {k : Nat} {sp : Sp} (F : FunD K x x (defArgs st) (defBody st) (defScope st) [] [] (He.fAd K (x, none)) fd) (hm : mg x = some (.ref (He.ga K x)))
    (hb : ∀ (kV doc pm : Value) (an : Option Addr) (cdv ct : Value) (us : List Value), us.length = ps.length → bindArgs (PySem.W.fnOf x x (defArgs st) (defBody st) (defScope st) .none kV doc pm an cdv ct) ⟨us, []⟩ = pure (ps.zip us))
    (S : FnScope N ps (defScope st)) (len : ∀ vs H Q E, sp vs H Q E → vs.length = ps.length)
    (hbody : ∀ (cdv : Value) (A : Around) (outer : List Env) (s : Shared) (H : Hp) (vs : List V) (Q : VK) (E : XK), Room k (A.deeper (envOfC x (defScope st) s.heap.objs.size (He.ga K x) cdv)) → sp vs H Q E →
      ∃ t, PSs (cxOf CX P w K mg base N x (defScope st) (He.ga K x) cdv A outer s H E) (defBody st) t ∧ t { nx := fun _ H' => Q .non H', rt := Q } (start N vs) H) : DOk P w K mg base CX (k + 1) x sp :=
  ⟨_, fd, ps, F.ok S len hbody, hm, F.kp, F.bindsN hb⟩
/-- a def at level 0, never to be called -/
theorem dok_never {CX : CXT} {st : Stmt} {x : Str} {fd : FuncData} {ps : List Str} (F : FunD K x x (defArgs st) (defBody st) (defScope st) [] [] (He.fAd K (x, none)) fd) (hm : mg x = some (.ref (He.ga K x)))
    (hb : ∀ (kV doc pm : Value) (an : Option Addr) (cdv ct : Value) (us : List Value), us.length = ps.length → bindArgs (PySem.W.fnOf x x (defArgs st) (defBody st) (defScope st) .none kV doc pm an cdv ct) ⟨us, []⟩ = pure (ps.zip us)) : DOk P w K mg base CX 0 x (fun _ _ _ _ => False) :=
  ⟨_, fd, ps, ⟨fun _ _ _ _ h => h.elim, fun _ _ _ _ _ _ _ _ _ _ _ _ _ h => h.elim⟩, hm, F.kp, F.bindsN hb⟩
theorem mok {CX : CXT} {st : Stmt} {C m q : Str} {fd : FuncData} {N ps : List Str} {k : Nat} {sp : Sp} (F : FunD K m q (defArgs st) (defBody st) (defScope st) [] [] (He.fAd K (C, some m)) fd) (c : Cls K (He.ga K C)) (hm : Meth K (He.ga K C) m (He.ma K (He.ga K C) m))
    (hb : ∀ (kV doc pm : Value) (an : Option Addr) (cdv ct : Value) (us : List Value), us.length = ps.length → bindArgs (PySem.W.fnOf m q (defArgs st) (defBody st) (defScope st) .none kV doc pm an cdv ct) ⟨us, []⟩ = pure (ps.zip us))
    (S : FnScope N ps (defScope st)) (len : ∀ vs H Q E, sp vs H Q E → vs.length = ps.length)
    (hbody : ∀ (cdv : Value) (A : Around) (outer : List Env) (s : Shared) (H : Hp) (vs : List V) (Q : VK) (E : XK), Room k (A.deeper (envOfC q (defScope st) s.heap.objs.size (He.ma K (He.ga K C) m) cdv)) → sp vs H Q E →
      ∃ t, PSs (cxOf CX P w K mg base N q (defScope st) (He.ma K (He.ga K C) m) cdv A outer s H E) (defBody st) t ∧ t { nx := fun _ H' => Q .non H', rt := Q } (start N vs) H) : MOk P w K mg base CX (k + 1) (He.ga K C) m sp :=
  ⟨_, fd, ps, c, hm, F.ok S len hbody, F.bindsN hb⟩
theorem cok {st : Stmt} {C q : Str} {fd : FuncData} {N ps : List Str} {k : Nat} {sp : Sp} (F : FunD K "__init__" q (defArgs st) (defBody st) (defScope st) [] [] (He.fAd K (C, some "__init__")) fd) (M : Mk K (He.ga K C) (He.ma K (He.ga K C) "__init__")) (hm : mg C = some (.ref (He.ga K C)))
    (hb : ∀ (kV doc pm : Value) (an : Option Addr) (cdv ct : Value) (us : List Value), us.length = ps.length → bindArgs (PySem.W.fnOf "__init__" q (defArgs st) (defBody st) (defScope st) .none kV doc pm an cdv ct) ⟨us, []⟩ = pure (ps.zip us))
    (S : FnScope N ps (defScope st)) (len : ∀ vs H Q E, sp vs H Q E → vs.length = ps.length)
    (hbody : ∀ (cdv : Value) (A : Around) (outer : List Env) (s : Shared) (H : Hp) (vs : List V) (Q : VK) (E : XK), Room k (A.deeper (envOfC q (defScope st) s.heap.objs.size (He.ma K (He.ga K C) "__init__") cdv)) → sp vs H Q E →
      ∃ t, PSs (cxOf CX0 P w K mg base N q (defScope st) (He.ma K (He.ga K C) "__init__") cdv A outer s H E) (defBody st) t ∧ t { nx := fun _ H' => Q .non H', rt := Q } (start N vs) H) : COk P w K mg base (k + 1) C (He.ga K C) sp :=
  ⟨_, fd, ps, M, F.ok S len hbody, hm, F.bindsN hb⟩
end
section
variable {X : Cx} {k j : Nat} {C : Addr} {x m : Str} {sp : Sp} {p pos apos : Pos} {e o : Expr} {es : List Expr} {ta : TE} {t : TA}
theorem pe_d (c : DOk X.prog X.w X.K X.mg X.base CX0 k x sp) (hr : Room j X.A) (hk : k ≤ j) (hg : Gl X x) (ha : PA X (e :: es) t)
    (hdb : (x == ("__debug__" : Str)) = false := by decide) (he : starEach (e :: es) X.env = (false, eval e X.env) :: starEach es X.env := by rfl) (hpl : (backTo pos (starEach es X.env)).any (·.1) = false := by rfl) :
    PE X (.Call (.Name x p) (e :: es) [] pos) (tCall sp [] E0 t) := by
  obtain ⟨f, fd, ps, G, hm, kp, b⟩ := c.ex
  exact pe_call G (hr.mono hk) hg hm kp b .nil pass0 ha hdb he hpl
theorem pe_d0 (c : DOk X.prog X.w X.K X.mg X.base CX0 k x sp) (hr : Room j X.A) (hk : k ≤ j) (hg : Gl X x) (hdb : (x == ("__debug__" : Str)) = false := by decide) : PE X (.Call (.Name x p) [] [] pos) (tCall sp [] E0 tNil) := by
  obtain ⟨f, fd, ps, G, hm, kp, b⟩ := c.ex
  exact pe_call0 G (hr.mono hk) hg hm kp b .nil pass0 hdb
/-- .. of a def that may raise -/
theorem pe_dS {W : WX} (c : DOk X.prog X.w X.K X.mg X.base (L2.CX X.prog X.w) k x sp) (hr : Room j X.A) (hk : k ≤ j) (hg : Gl X x) (tk : Takes X W) (ha : PA X (e :: es) t)
    (hdb : (x == ("__debug__" : Str)) = false := by decide) (he : starEach (e :: es) X.env = (false, eval e X.env) :: starEach es X.env := by rfl) (hpl : (backTo pos (starEach es X.env)).any (·.1) = false := by rfl) :
    PE X (.Call (.Name x p) (e :: es) [] pos) (tCallS sp (WE W) t) := by
  obtain ⟨f, fd, ps, G, hm, kp, b⟩ := c.ex
  exact pe_callS G (hr.mono hk) hg hm kp b (fun σ => passAt tk σ) ha hdb he hpl
theorem pe_mt (he : PE X o ta) (c : MOk X.prog X.w X.K X.mg X.base CX0 k C m sp) (hr : Room j X.A) (hk : k ≤ j) (ha : PA X (e :: es) t) {pl : Sem Bool}
    (hst : starEach (e :: es) X.env = (false, eval e X.env) :: starEach es X.env := by rfl) (hpl : (backTo pos (starEach es X.env)).any (·.1) = false := by rfl)
    (ht : eval (.Call (.Attribute o m apos) (e :: es) [] pos) X.env = (do
      let ov ← eval o X.env
      standAt apos.atName
      let (g, first) ← holding [ov] (getMethod ov m pl)
      callWith pos g first (backTo pos (starEach (e :: es) X.env)) (backToKw pos (keywordEach [] X.env))) := by rfl) : PE X (.Call (.Attribute o m apos) (e :: es) [] pos) (tMeth C m sp [] E0 ta t) := by
  obtain ⟨f, fd, ps, c1, h1, G, b⟩ := c.ex
  exact pe_meth he c1 h1 G (hr.mono hk) b .nil pass0 ha hst hpl ht
theorem pe_mt0 (he : PE X o ta) (c : MOk X.prog X.w X.K X.mg X.base CX0 k C m sp) (hr : Room j X.A) (hk : k ≤ j) {pl : Sem Bool}
    (ht : eval (.Call (.Attribute o m apos) [] [] pos) X.env = (do
      let ov ← eval o X.env
      standAt apos.atName
      let (g, first) ← holding [ov] (getMethod ov m pl)
      callWith pos g first (backTo pos (starEach [] X.env)) (backToKw pos (keywordEach [] X.env))) := by rfl) : PE X (.Call (.Attribute o m apos) [] [] pos) (tMeth C m sp [] E0 ta tNil) := by
  obtain ⟨f, fd, ps, c1, h1, G, b⟩ := c.ex
  exact pe_meth0 he c1 h1 G (hr.mono hk) b .nil pass0 ht
theorem pe_mk (c : COk X.prog X.w X.K X.mg X.base k x C sp) (hr : Room j X.A) (hk : k + 1 ≤ j) (hg : Gl X x) (ha : PA X (e :: es) t)
    (hdb : (x == ("__debug__" : Str)) = false := by decide) (he : starEach (e :: es) X.env = (false, eval e X.env) :: starEach es X.env := by rfl) (hpl : (backTo pos (starEach es X.env)).any (·.1) = false := by rfl) :
    PE X (.Call (.Name x p) (e :: es) [] pos) (tMake C sp [] E0 t) := by
  obtain ⟨f, fd, ps, M, G, hm, b⟩ := c.ex
  exact pe_make M G (hr.mono hk) hg hm b .nil pass0 ha hdb he hpl
end
section
/-! the same rules, the written part by its own letter (a comprehension's block has another context of the same part) -/
variable {X : Cx} {K : PySem.W.Frag} {ta tb te to : TE} {t : TA} {o a b e iter target : Expr} {es rest : List Expr} {pos p apos cpos tpos : Pos}
theorem pe_fldK {f : Str} (hK : X.K = K) (ha : PE X e ta) (hb : attributeBase e f X.env (eval e X.env) = eval e X.env) : PE X (.Attribute e f pos) (tFld K ta f) := by subst hK; exact pe_fld ha hb
theorem pe_orTK (hK : X.K = K) (ha : PE X a ta) (hb : PE X (.BoolOp .Or (b :: rest) pos) tb) : PE X (.BoolOp .Or (a :: b :: rest) pos) (tOrT K ta tb) := by subst hK; exact pe_orT ha hb
theorem pe_andTK (hK : X.K = K) (ha : PE X a ta) (hb : PE X (.BoolOp .And (b :: rest) pos) tb) : PE X (.BoolOp .And (a :: b :: rest) pos) (tAndT K ta tb) := by subst hK; exact pe_andT ha hb
def tTruK (K : PySem.W.Frag) (ta : TE) : TT := fun σ H Q => ta σ H fun x H' => ∃ k, TruV K x H' k ∧ Q k H'
theorem pt_truthK (hK : X.K = K) (ha : PE X a ta) (he : ∀ whole, isTrue a X.env whole = (do let v ← whole; standAt a.pos; holding [v] (truthy v))) : PT X a (tTruK K ta) := by subst hK; exact pt_truth ha he
theorem op_inK (hK : X.K = K) : OpR X (compareOp .In) (rIn K false) := by subst hK; exact op_in_seq
theorem op_notInK (hK : X.K = K) : OpR X (compareOp .NotIn) (rIn K true) := by subst hK; exact op_notIn_seq
theorem op_eqDK (hK : X.K = K) (hu : X.A.units + 64 < cLine) : OpR X (compareOp .Eq) (rEqD K) := by subst hK; exact op_eqD hu
theorem op_neDK (hK : X.K = K) (hu : X.A.units + 64 < cLine) : OpR X (compareOp .NotEq) (rNeD K) := by subst hK; exact op_neD hu
theorem ix_listK (hK : X.K = K) : IxR X (rIxL K) := by subst hK; exact ix_list
theorem ix_tupK (hK : X.K = K) : IxR X (rIxT K) := by subst hK; exact ix_tup
theorem sl_listK (hK : X.K = K) : SlR X (rSlL K) := by subst hK; exact sl_list
theorem sl_tupK (hK : X.K = K) : SlR X (rSlT K) := by subst hK; exact sl_tup
/-- len of a list or a tuple -/
def rLenK (K : PySem.W.Frag) : List V → Hp → VK → Prop := fun xs H Q => ∃ p ys, xs = [.ref p] ∧ (SqL K H p ys ∨ SqT K H p ys) ∧ Q (.int ys.length) H
theorem call_len_seqK (hK : X.K = K) : CallR X (.builtin "len") (rLenK K) := by subst hK; exact call_len_seq
theorem pe_bmK {T : String} {name : Str} {id : String} {r : V → List V → Hp → VK → Prop} (hK : X.K = K) (pa : PlainAttrs T) (slot : Slot T name id) (hty : typeOf (.builtin id) = pure (.type "method_descriptor")) (hm : MtR X id r) (ho : PE X o to) (ha : PA X (e :: es) t)
    (h1 : attributeBase o name X.env (eval o X.env) = eval o X.env := by rfl)
    (h2 : ((backTo cpos (starEach (e :: es) X.env)).all (fun x => !x.1) && (backToKw cpos (keywordEach [] X.env)).all (fun x => x.1.isSome) && decide ((e :: es).length + ([] : List Keyword).length + (if ([] : List Keyword).isEmpty then 0 else 1) < 30)) = true := by rfl)
    (h3 : (apos.endLine == cpos.line) = true := by rfl) (h4 : starEach (e :: es) X.env = (false, eval e X.env) :: starEach es X.env := by rfl) (h5 : (backTo cpos (starEach es X.env)).any (·.1) = false := by rfl) :
    PE X (.Call (.Attribute o name apos) (e :: es) [] cpos) (tBM K T r to t) := by subst hK; exact pe_bm pa slot hty hm ho ha h1 h2 h3 h4 h5
/-- sep.join(list) -/
def rJoinK (K : PySem.W.Frag) : V → List V → Hp → VK → Prop := fun x xs H Q => ∃ a p, ∃ ys : List Str, x = .str a ∧ xs = [.ref p] ∧ (SqL K H p (ys.map V.str) ∨ SqT K H p (ys.map V.str)) ∧ (ys.map (·.length)).sum + ys.length * a.length ≤ 16777216 ∧ Q (.str (Txt.join a ys)) H
theorem pe_joinK (hK : X.K = K) (ho : PE X o to) (he : PE X e te) (hs : starEach [e] X.env = [(false, eval e X.env)] := by rfl) (hbase : attributeBase o "join" X.env (eval o X.env) = eval o X.env := by rfl) (hline : (apos.endLine == pos.line) = true := by rfl) :
    PE X (.Call (.Attribute o "join" apos) [e] [] pos) (tM1 (rJoinK K) to te) := by subst hK; exact pe_join ho he hs hbase hline
theorem pi_listK (hK : X.K = K) {l : Expr} {tl : TE} (hl : PE X l tl) : PI X target l (iList K tl) := by subst hK; exact pi_list hl
theorem pi_tupK (hK : X.K = K) {l : Expr} {tl : TE} (hl : PE X l tl) : PI X target l (iTup K tl) := by subst hK; exact pi_tup hl
theorem pi_enumK {elts : List Expr} {kk : Nat} (hK : X.K = K) (hg : Gl X "enumerate") (hm : X.mg "enumerate" = none) (ha : PA X [e] t) (hs : starEach [e] X.env = [(false, eval e X.env)] := by rfl) :
    PI X (.Tuple elts kk tpos) (.Call (.Name "enumerate" p) [e] [] pos) (iEnum K t) := by subst hK; exact pi_enum hg hm ha hs
theorem pg_tupK {k : Nat} {u : TGs} {n : Nat} (hK : X.K = K) (hc : X.calm = true) (h : PGs X es u) (hn : (assignEach es X.env).length = n := by rfl) (hst : (assignEach es X.env).findIdx? (·.1) = none := by rfl) : PG X (.Tuple es k pos) (gTup K n u) := by subst hK; exact pg_tup hc h hn hst
theorem pi_zipK {e2 : Expr} {elts : List Expr} {kk : Nat} (hK : X.K = K) (hg : Gl X "zip") (hm : X.mg "zip" = none) (ha : PA X [e, e2] t) (hs : starEach [e, e2] X.env = (false, eval e X.env) :: starEach [e2] X.env := by rfl)
    (hpl : (backTo pos (starEach [e2] X.env)).any (·.1) = false := by rfl) : PI X (.Tuple elts kk tpos) (.Call (.Name "zip" p) [e, e2] [] pos) (iZip K t) := by subst hK; exact pi_zip hg hm ha hs hpl
end
section
variable {X : Cx} {K : PySem.W.Frag} {ta tv : TE} {o value : Expr} {f : Str} {pos pos' tpos : Pos}
theorem ps_fldK (hK : X.K = K) (ha : PE X o ta) (hv : PE X value tv) (hs : swapsWith value (some (.Attribute o f pos')) pos.line X.env = pure false) : PS X (.Assign [.Attribute o f pos'] value pos) (sFld K ta tv f) := by subst hK; exact ps_fld ha hv hs
theorem ps_fldaugK {op : Operator} {rd : V → V → Hp → VK → Prop} (hK : X.K = K) (ha : PE X o ta) (hv : PE X value tv) (hop : InOp X op rd) : PS X (.AugAssign (.Attribute o f tpos) op value pos) (sFldAug K ta tv rd f) := by subst hK; exact ps_fldaug ha hv hop
end
theorem excB_ok {K : PySem.W.Frag} {x : Str} {tail : List Value} {nw : String} (h : excB K x tail nw = true) : PySem.W.excIn K (He.ga K x) tail nw = true ∧ PySem.W.keepIn K (.ref (He.ga K x)) = true ∧ PySem.W.subIn K (.ref (He.ga K x)) (.type "BaseException") = some true ∧ PySem.W.typeIn K (.ref (He.ga K x)) = some (.type "type") := by
  obtain ⟨c1, c⟩ := He.ba h
  obtain ⟨c2, c⟩ := He.ba c
  obtain ⟨c3, c4⟩ := He.ba c
  exact ⟨c1, c2, of_decide_eq_true c3, of_decide_eq_true c4⟩
/-! ### heaps -/
theorem Same.new {H : Hp} {p : Addr} {o : HO} (h : H p = none) : Same H (upd H p o) := fun a u e => by
  rw [upd_ne (ne_of_none e h)]
  exact e
theorem Same.put {H H' : Hp} {p : Addr} {o : HO} (e : Same H H') (h : H p = none) : Same H (upd H' p o) := fun a u ha => by
  rw [upd_ne (ne_of_none ha h)]
  exact e a u ha
theorem small {n m : Nat} (h : n ≤ m) (hm : m ≤ 100000 := by decide) : n ≤ sizeLine := Nat.le_trans h (Nat.le_trans hm (by decide))
theorem smallLt {n m : Nat} (h : n < m) (hm : m ≤ 100000 := by decide) : n < sizeLine := Nat.lt_of_lt_of_le h (Nat.le_trans hm (by decide))
theorem units_of {k : Nat} {A : Around} (hr : Room k A) : A.units + 64 < cLine := by have := hr.un; omega
theorem units_of65 {k : Nat} {A : Around} (hr : Room k A) : A.units + 65 < cLine := by have := hr.un; omega
end Ls
set_option Elab.async false
set_option linter.all false
set_option maxRecDepth 100000
set_option maxHeartbeats 4000000
/-! Lines as texts. -/
namespace Ls
open PySem PySem.Spec PyProof.Rows L2
abbrev Ln := List UInt8
/-- a line as Python's text -/
def sOf (x : Ln) : Str := ⟨(x.map UInt8.toNat).toArray⟩
def vS (x : Ln) : V := .str (sOf x)
theorem u8_inj : ∀ {x y : Ln}, x.map UInt8.toNat = y.map UInt8.toNat → x = y
  | [], [], _ => rfl
  | [], _ :: _, h => by cases h
  | _ :: _, [], h => by cases h
  | a :: x, b :: y, h => by
    have h1 : a.toNat = b.toNat := (List.cons.inj h).1
    have h2 := u8_inj (List.cons.inj h).2
    rw [UInt8.toNat_inj.mp h1, h2]
theorem sOf_inj {x y : Ln} (h : sOf x = sOf y) : x = y := by
  have h1 : (x.map UInt8.toNat).toArray = (y.map UInt8.toNat).toArray := congrArg Str.cps h
  exact u8_inj (by simpa using congrArg Array.toList h1)
theorem sOf_eq {x y : Ln} : sOf x = sOf y ↔ x = y := ⟨sOf_inj, fun h => by rw [h]⟩
theorem vS_eq {x y : Ln} : vS x = vS y ↔ x = y := ⟨fun h => sOf_inj (V.str.inj h), fun h => by rw [h]⟩
theorem sOf_len (x : Ln) : (sOf x).length = x.length := by
  show (x.map UInt8.toNat).toArray.size = x.length
  simp
theorem sOf_app (x y : Ln) : sOf x ++ sOf y = sOf (x ++ y) := by
  show (⟨(x.map UInt8.toNat).toArray ++ (y.map UInt8.toNat).toArray⟩ : Str) = ⟨((x ++ y).map UInt8.toNat).toArray⟩
  simp
theorem sOf_cps (x : Ln) : (sOf x).cps.toList = x.map UInt8.toNat := by
  show (x.map UInt8.toNat).toArray.toList = _
  simp
theorem ext_cps {a b : Str} (h : a.cps.toList = b.cps.toList) : a = b := by
  cases a with | mk a => cases b with | mk b => 
    have h1 : a = b := by
      have := congrArg List.toArray (show a.toList = b.toList from h)
      simpa using this
    rw [h1]
/-- a text of lines as a list of texts -/
def tS (t : List Ln) : List V := t.map vS
theorem tS_len (t : List Ln) : (tS t).length = t.length := by simp [tS]
theorem tS_app (a b : List Ln) : tS (a ++ b) = tS a ++ tS b := by simp [tS]
theorem tS_get {t : List Ln} {i : Nat} {v : V} (h : (tS t)[i]? = some v) : ∃ x, t[i]? = some x ∧ v = vS x := by
  unfold tS at h
  rw [List.getElem?_map] at h
  cases e : t[i]? with
  | none => rw [e] at h; cases h
  | some x => rw [e] at h; exact ⟨x, rfl, (Option.some.inj h).symm⟩
theorem tS_inj : ∀ {a b : List Ln}, tS a = tS b → a = b
  | [], [], _ => rfl
  | [], _ :: _, h => by cases h
  | _ :: _, [], h => by cases h
  | x :: a, y :: b, h => by
    have h1 : vS x = vS y := (List.cons.inj h).1
    have h2 := tS_inj (List.cons.inj h).2
    rw [vS_eq.mp h1, h2]
theorem take_more {α : Type} : ∀ {l : List α} {i : Nat} {x : α}, l[i]? = some x → l.take (i + 1) = l.take i ++ [x]
  | [], i, x, h => by simp at h
  | a :: l, 0, x, h => by
    have e : a = x := Option.some.inj h
    subst e
    rfl
  | a :: l, i + 1, x, h => by
    have ih := take_more (l := l) (i := i) (x := x) h
    rw [List.take_succ_cons, ih]
    rfl
theorem get_lt {α : Type} {l : List α} {i : Nat} {x : α} (h : l[i]? = some x) : i < l.length := (List.getElem?_eq_some_iff.mp h).1
/-- atI at a natural index -/
theorem atI_at {α : Type} {xs : List α} {i : Nat} {x : α} (h : xs[i]? = some x) : atI xs (i : Int) = some x := by
  have hl := get_lt h
  unfold atI ixN
  rw [if_pos (by omega), if_pos (by omega)]
  simpa using h
end Ls
set_option Elab.async false
set_option linter.all false
set_option maxRecDepth 100000
set_option maxHeartbeats 4000000
/-! max(list of ints, default=an int): a rule that the layer lacks. -/
namespace Ls
open PySem PySem.Spec PyProof.Rows L2
section
variable {prog : Program} {w : World} {A : Around} {R : Result → Shared → Prop} {I : Addr} {fp wr : List Addr} {n : Nat} {Pv : Nat → Value → Prop} {St : Nat → Heap → Prop}
theorem mx_name : (toString "max" ++ toString ".loop" : String) = "max.loop" := by decide
/-- the loop from its second turn on, whatever keywords are carried along -/
theorem mx_loop (W : Walks prog w A.in1 I fp wr n Pv St) (kw : List (Str × Value)) (bt : Nat → Nat → Bool) (hc : CmpOf prog w A.in1 .Gt Pv bt) (S : Addr) (hSf : S ∉ fp) :
    ∀ (k j : Nat) (s : Shared) (vb : Value) (c : Nat), n - (j + 1) = k → j + 1 ≤ n → St (j + 1) s.heap → Pv (argBest bt j) vb → s.heap.get? S = some { cls := .type "list", dict := none, data := .seq #[vb, vb] c, slots := #[] } →
      (∀ v g tk, Pv (argBest bt (n - 1)) v → (∀ b o, b ∉ wr → b ≠ S → s.heap.get? b = some o → g.get? b = some o) → R (.ok (.ret v)) { s with heap := g, toks := tk }) →
      codeAny (model prog w) A (.builtin "max.loop" ⟨[.ref I, .none, .ref S], kw⟩) R s := by
  have hSw : S ∉ wr := fun h => hSf (W.sub _ h)
  intro k
  induction k with
  | zero =>
    intro j s vb c hk hj st hb hS hR
    have e : j + 1 = n := by omega
    refine codeAny_builtin PySem.F.entry_max_loop ?_
    rw [Around.under_plainId PySem.F.plain_max_loop _]
    refine wpAny_bind (wpAny_seqItems hS rfl ?_)
    refine wpAny_bind (wpAny_tryCatch (W.done s _ _ (e ▸ st) fun g tk hk => ?_))
    have hS2 := hk S _ hSw hS
    refine wpAny_bind ?_
    refine wpAny_updateSeq hS2 rfl (wpAny_bind (wpAny_letGo (wpAny_pure ?_)))
    exact hR vb _ tk (by rw [← e]; exact hb) fun b o hw hn q => (Heap.get?_update_other _ _ (Ne.symm hn)).trans (hk b o hw q)
  | succ k ih =>
    intro j s vb c hk hj st hb hS hR
    have hlt : j + 1 < n := by omega
    refine codeAny_builtin PySem.F.entry_max_loop ?_
    rw [Around.under_plainId PySem.F.plain_max_loop _]
    refine wpAny_bind (wpAny_seqItems hS rfl ?_)
    refine wpAny_bind (wpAny_tryCatch (W.item (j + 1) s _ _ hlt st fun v g tk hP st2 hk2 => ?_))
    have hS2 := hk2 S _ hSw hS
    show wpAny _ A.in1 (tryCatch (holding [v, v] (richCompare .Gt v vb >>= _)) _ >>= _) _ _ _
    refine wpAny_bind (wpAny_tryCatch (wpAny_holding (wpAny_bind (hc (j + 1) (argBest bt j) v vb _ _ _ hP hb ?_))))
    refine wpAny_bind (wpAny_holding (wpAny_truthy_bool ?_))
    refine wpAny_bind (wpAny_letGo (wpAny_pure ?_))
    cases hq : bt (j + 1) (argBest bt j) with
    | true =>
      simp only [if_true]
      refine wpAny_bind ?_
      refine wpAny_updateSeq hS2 rfl (wpAny_bind (wpAny_letGo ?_))
      rw [mx_name]
      refine wpAny_pure ⟨plainId_quiet PySem.F.plain_max_loop _, ih (j + 1) _ v _ (by omega) hlt (W.frame _ _ _ st2 fun b hf o q => ?_) (by simp only [argBest, hq, if_true]; exact hP) (Heap.get?_update_self _ hS2 rfl) fun v2 g2 tk2 hP2 hk3 => ?_⟩
      · exact (Heap.get?_update_other _ _ (fun z : S = b => hSf (by rw [z]; exact hf))).trans q
      · exact hR v2 g2 tk2 hP2 fun b o hw hn q => hk3 b o hw hn ((Heap.get?_update_other _ _ (Ne.symm hn)).trans (hk2 b o hw q))
    | false =>
      simp only [Bool.false_eq_true, if_false]
      refine wpAny_bind (wpAny_letGo ?_)
      rw [mx_name]
      refine wpAny_pure ⟨plainId_quiet PySem.F.plain_max_loop _, ih (j + 1) _ vb c (by omega) hlt st2 (by simp only [argBest, hq, Bool.false_eq_true, if_false]; exact hb) hS2 fun v2 g2 tk2 hP2 hk3 => ?_⟩
      exact hR v2 g2 tk2 hP2 fun b o hw hn q => hk3 b o hw hn (hk2 b o hw q)
end
section
variable {prog : Program} {w : World} {A : Around} {E : Value → Shared → Prop} {s : Shared} {l : Addr} {xs : Array (Int × Tok)}
theorem mx_args (a d : Value) : argsOk "max" ⟨[a], [(Str.ofString "default", d)]⟩ := by unfold argsOk; kernel_rfl
theorem mx_dflt {d : Value} {Q : Value → Shared → Prop} (hh : A.handled = none) (hl : s.heap.IsList l (intItems xs))
    (h0 : xs.size = 0 → ∀ g tk, (∀ b o, s.heap.get? b = some o → g.get? b = some o) → Q d { s with heap := g, toks := tk })
    (h : 0 < xs.size → ∀ v g tk, (intItems xs)[argBest (fun i j => decide (numAt xs i > numAt xs j)) (xs.size - 1)]? = some v → (∀ b o, s.heap.get? b = some o → g.get? b = some o) → Q v { s with heap := g, toks := tk }) :
    wpAny (model prog w) A (call (.builtin "max") [.ref l] [(Str.ofString "default", d)]) Q E s := by
  refine kmk_tree PySem.F.kind_max PySem.F.plain_max PySem.F.entry_max (mx_args _ _) ?_
  refine wpAny_bind (wpAny_of_eq (show Builtin.Builtins.bindParams "max" ["key", "default"] 0 ⟨[], [(Str.ofString "default", d)]⟩ = pure [none, some d] from rfl) ?_)
  refine wpAny_bind (wpAny_pure ?_)
  refine wpAny_bind (iter_intList hl fun s2 e st hfp hlI => ?_)
  subst e
  refine wpAny_bind (wpAny_newObj_type ?_)
  rw [mx_name]
  have W := Walks.list (prog := prog) (w := w) (A := A.in1) hh _ l hlI (intItems xs)
  generalize hs2 : ({ s with heap := s.heap.push { cls := .type "list_iterator", data := .fields #[.ref l, .int 0 0] } } : Shared) = s2 at *
  have old : ∀ b o, s.heap.get? b = some o → b ≠ s.heap.objs.size ∧ s2.heap.get? b = some o := fun b o q => ⟨Nat.ne_of_lt (Heap.lt_size q), by rw [← hs2]; exact Heap.get?_push_of_some _ q⟩
  have hSf : s2.heap.objs.size ∉ [s.heap.objs.size, l] := fun hm => Nat.lt_irrefl _ (hfp _ hm)
  have hSw : s2.heap.objs.size ∉ [s.heap.objs.size] := fun hm => hSf (W.sub _ hm)
  refine wpAny_pure ⟨plainId_quiet PySem.F.plain_max_loop _, ?_⟩
  refine codeAny_builtin PySem.F.entry_max_loop ?_
  rw [Around.under_plainId PySem.F.plain_max_loop _]
  refine wpAny_bind (wpAny_seqItems (Heap.get?_push_size _ rfl) rfl ?_)
  have st1 := W.frame 0 _ (s2.heap.push { cls := .type "list", dict := none, data := .seq #[] 0, slots := #[] }) st fun b _ o e => Heap.get?_push_of_some _ e
  by_cases hn : (intItems xs).size = 0
  · refine wpAny_bind (wpAny_tryCatch (W.done _ _ _ (hn ▸ st1) fun g tk hk => ?_))
    show wpAny _ A.in1 (rule _ >>= fun _ => ret d) _ _ _
    refine wpAny_bind (wpAny_rule ?_)
    refine wpAny_pure ?_
    have hx : xs.size = 0 := by simpa [intItems] using hn
    have hg := h0 hx g tk fun b o q => hk b o (fun z => (old b o q).1 (List.mem_singleton.mp z)) (Heap.get?_push_of_some _ (old b o q).2)
    rw [← hs2]
    exact hg
  · have hn0 : 0 < (intItems xs).size := Nat.pos_of_ne_zero hn
    refine wpAny_bind (wpAny_tryCatch (W.item 0 _ _ _ hn0 st1 fun v g tk hP st2 hk => ?_))
    have hS2 := hk s2.heap.objs.size _ hSw (Heap.get?_push_size _ rfl)
    show wpAny _ A.in1 (updateSeq s2.heap.objs.size (fun _ => #[v, v]) >>= _) _ _ _
    refine wpAny_bind ?_
    refine wpAny_updateSeq hS2 rfl ?_
    rw [mx_name]
    have hsz : (intItems xs).size = xs.size := by simp [intItems]
    have fr := W.frame _ _ (g.update s2.heap.objs.size (Obj.mapSeq fun _ => #[v, v])) st2 fun b hb o q => (Heap.get?_update_other _ _ (fun z : s2.heap.objs.size = b => hSf (by rw [z]; exact hb))).trans q
    refine wpAny_pure ⟨plainId_quiet PySem.F.plain_max_loop _, mx_loop W [(Str.ofString "default", d)] (fun i j => decide (numAt xs i > numAt xs j)) (CmpOf.ints_gt (numAt xs) (fun _ _ => intItems_at)) s2.heap.objs.size hSf _ 0 _ v _ rfl hn0 fr hP (Heap.get?_update_self _ hS2 rfl) fun v2 g2 tk2 hP2 hk2 => ?_⟩
    have hg := h (by omega) v2 g2 tk2 (by rw [← hsz]; exact hP2) fun b o q => hk2 b o (fun z => (old b o q).1 (List.mem_singleton.mp z)) (Nat.ne_of_lt (Heap.lt_size (old b o q).2))
      ((Heap.get?_update_other _ _ (Ne.symm (Nat.ne_of_lt (Heap.lt_size (old b o q).2)))).trans (hk b o (fun z => (old b o q).1 (List.mem_singleton.mp z)) (Heap.get?_push_of_some _ (old b o q).2)))
    rw [← hs2]
    exact hg
end
/-- max(xs, default=d): d of none, else one of xs that none is above -/
def rMaxDf (K : PySem.W.Frag) : List V → List V → Hp → VK → Prop := fun xs zs H Q => ∃ (a : Addr) (ns : List Int) (d : Int), xs = [.ref a] ∧ zs = [.int d] ∧ SqL K H a (ns.map V.int) ∧ (ns = [] → Q (.int d) H) ∧ ∀ m, m ∈ ns → (∀ z, z ∈ ns → z ≤ m) → Q (.int m) H
theorem cr_maxDf {X : Cx} {K : PySem.W.Frag} (hK : X.K = K) (hc : X.calm = true) : CallRK X (.builtin "max") ["default"] (rMaxDf K) := by
  subst hK
  intro pins s σ H xs zs us ws Q I r rz h
  obtain ⟨a, ns, d, rfl, rfl, hs, h0, h1⟩ := h
  obtain ⟨its, rv, hl, _⟩ := I.list hs
  rw [Vals.ref1 r]
  cases rz with
  | cons rd rt =>
    cases rt
    obtain ⟨t, rfl⟩ := rd
    have hi := rv.ints
    obtain ⟨xs, e⟩ := hi.allInts.items
    have hn : numsOf (intItems xs).toList = ns := by rw [← e]; exact hi.numsOf
    rw [nums_intItems] at hn
    have hll := hl.isList
    rw [e] at hll
    refine mx_dflt (I.ok.hd hc) hll (fun hz g tk hk => ⟨.int d, H, I.kept hk, ⟨_, rfl⟩, h0 ?_⟩) fun hz v g tk hv hk => ?_
    · rw [← hn]
      have : xs = #[] := by simpa using hz
      rw [this]
      rfl
    · obtain ⟨t2, rfl⟩ := intItems_at hv
      obtain ⟨b1, b2⟩ := argBest_gt (numAt xs) (xs.size - 1)
      refine ⟨.int _, H, I.kept hk, ⟨_, rfl⟩, h1 _ ?_ fun z hz2 => ?_⟩
      · rw [← hn, numAt_eq]
        exact PySem.getD_mem (by rw [List.length_map, Array.length_toList]; omega)
      · rw [← hn] at hz2
        obtain ⟨j, hj, rfl⟩ := mem_getD hz2
        rw [List.length_map, Array.length_toList] at hj
        rw [← numAt_eq]
        exact b2 j (by omega)
/-- the greatest, d of none -/
def maxD (d : Int) : List Int → Int
  | [] => d
  | x :: l => l.foldl max x
theorem fold_max (l : List Int) : ∀ x : Int, x ≤ l.foldl max x ∧ (∀ y ∈ l, y ≤ l.foldl max x) ∧ (l.foldl max x = x ∨ l.foldl max x ∈ l) := by
  induction l with
  | nil => intro x; simp
  | cons y l ih =>
    intro x
    obtain ⟨h1, h2, h3⟩ := ih (max x y)
    simp only [List.foldl_cons]
    refine ⟨by omega, fun z hz => ?_, ?_⟩
    · rcases List.mem_cons.mp hz with rfl | hz
      · omega
      · exact h2 z hz
    · rcases h3 with h3 | h3
      · rw [h3]
        by_cases h : x ≤ y
        · right
          rw [show max x y = y by omega]
          exact List.mem_cons_self ..
        · left
          omega
      · exact .inr (List.mem_cons_of_mem _ h3)
theorem maxD_is {d m : Int} {l : List Int} (hm : m ∈ l) (hx : ∀ z, z ∈ l → z ≤ m) : m = maxD d l := by
  cases l with
  | nil => simp at hm
  | cons x l =>
    obtain ⟨h1, h2, h3⟩ := fold_max l x
    show m = l.foldl max x
    have h4 : m ≤ l.foldl max x := by
      rcases List.mem_cons.mp hm with rfl | hm
      · exact h1
      · exact h2 _ hm
    have h5 : l.foldl max x ≤ m := by
      rcases h3 with h3 | h3
      · rw [h3]; exact hx _ (List.mem_cons_self ..)
      · exact hx _ (List.mem_cons_of_mem _ h3)
    omega
def rMaxD (K : PySem.W.Frag) : List V → List V → Hp → VK → Prop := fun xs zs H Q => ∃ (a : Addr) (ns : List Int) (d : Int), xs = [.ref a] ∧ zs = [.int d] ∧ SqL K H a (ns.map V.int) ∧ Q (.int (maxD d ns)) H
theorem cr_maxD {X : Cx} {K : PySem.W.Frag} (hK : X.K = K) (hc : X.calm = true) : CallRK X (.builtin "max") ["default"] (rMaxD K) := by
  intro pins s σ H xs zs us ws Q I r rz h
  obtain ⟨a, ns, d, e1, e2, hs, q⟩ := h
  exact cr_maxDf hK hc pins s σ H xs zs us ws Q I r rz ⟨a, ns, d, e1, e2, hs, fun e => by subst e; exact q, fun m hm hx => by rw [maxD_is (d := d) hm hx]; exact q⟩
end Ls
set_option Elab.async false
set_option linter.all false
set_option maxRecDepth 100000
set_option maxHeartbeats 4000000
/-! min(list, key=a def, default=d): rules that the layer lacks. -/
namespace Ls
open PySem PySem.Spec PyProof.Rows L2
/-- whole heaps stand -/
def SameH (H H' : Hp) : Prop := ∀ a o, H a = some o → H' a = some o
theorem mn_name : (toString "min" ++ toString ".loop" : String) = "min.loop" := by decide
/-- what the key is at each item -/
def KeyC (X : Cx) (q : Value) (σ : L2.St) (H0 : Hp) (xs : List V) (kf : Nat → Int) : Prop :=
  ∀ (i : Nat) (x : V) (pins : List (Addr × Obj)) (s : Shared) (H : Hp) (v : Value), xs[i]? = some x → Inv X pins σ H s → SameH H0 H → RelV x v →
    wpAny (model X.prog X.w) X.A.in1 (call q [v]) (EP X pins σ fun z H' => z = .int (kf i) ∧ SameH H H') (fun _ _ => False) s
section
variable {X : Cx} {pins : List (Addr × Obj)} {σ : L2.St} {H0 : Hp} {xs : List V} {kf : Nat → Int} {l I S g : Addr} {kw : List (Str × Value)} {R : Result → Shared → Prop}
theorem Inv.upS {H : Hp} {s : Shared} {S : Addr} {h' : Heap} {t' : Nat} (J : Inv X pins σ H s) (f : FpOk X pins H S) (k : ∀ b o, b ≠ S → s.heap.get? b = some o → h'.get? b = some o) : Inv X pins σ H { s with heap := h', toks := t' } := by
  obtain ⟨f0, f1, f2, f3, f4, f5⟩ := f
  exact J.turned k f0 f1 f3 f4 f5
theorem fp_keep {H H' : Hp} {b : Addr} (f : FpOk X pins H b) (h : H' b = none) : FpOk X pins H' b := ⟨h, f.2⟩
theorem mn_loop (hc : X.calm = true) (key : KeyC X (.ref g) σ H0 xs kf) (hl : ∀ H, SameH H0 H → SqL X.K H l xs)
    (fin : ∀ i x v s H, xs[i]? = some x → RelV x v → (∀ j, j < xs.length → kf i ≤ kf j ∧ (j < i → kf i < kf j)) → Inv X pins σ H s → SameH H0 H → R (.ok (.ret v)) s) :
    ∀ (r j i : Nat) (s : Shared) (H : Hp) (x : V) (vb : Value) (tb : Tok) (c : Nat), xs.length - (j + 1) = r → j + 1 ≤ xs.length → Inv X pins σ H s → SameH H0 H → FpOk X pins H I → FpOk X pins H S → S ≠ I → l ≠ I → l ≠ S →
      s.heap.get? S = some { cls := .type "list", dict := none, data := .seq #[vb, .int (kf i) tb] c, slots := #[] } → s.heap.IsListIter I l (j + 1) → xs[i]? = some x → RelV x vb → i ≤ j → (∀ j', j' ≤ j → kf i ≤ kf j' ∧ (j' < i → kf i < kf j')) →
      codeAny (model X.prog X.w) X.A (.builtin "min.loop" ⟨[.ref I, .ref g, .ref S], kw⟩) R s := by
  intro r
  induction r with
  | zero =>
    intro j i s H x vb tb c hr hj J sH fI fS hSI hlI hlS hS hit hx rx hij hbest
    have hin : j + 1 = xs.length := by omega
    obtain ⟨its, rv, pl, hz⟩ := J.list (hl H sH)
    have hlen := rv.length
    have W := Walks.list (prog := X.prog) (w := X.w) (A := X.A.in1) (show X.A.in1.handled = none from J.ok.hd hc) I l hlI its.toArray
    refine codeAny_builtin PySem.F.entry_min_loop ?_
    rw [Around.under_plainId PySem.F.plain_min_loop _]
    refine wpAny_bind (wpAny_seqItems hS rfl ?_)
    refine wpAny_bind (wpAny_tryCatch (W.done _ _ _ ⟨by rw [List.size_toArray, ← hlen, ← hin]; exact hit, pl.isList⟩ fun h' tk' hk' => ?_))
    have J1 := Inv.upS (t' := tk') J fI (fun b o hb e => hk' b o (by simpa using hb) e)
    have hS' := hk' S _ (by simpa using hSI) hS
    refine wpAny_bind ?_
    refine wpAny_updateSeq hS' rfl (wpAny_bind (wpAny_letGo (wpAny_pure ?_)))
    have J2 := Inv.upS (t' := tk') (h' := h'.update S (Obj.mapSeq fun _ => #[])) J1 fS (fun b o hb e => (Heap.get?_update_other _ _ (Ne.symm hb)).trans e)
    exact fin i x vb _ H hx rx (fun j' hj' => hbest j' (by omega)) J2 sH
  | succ r ih =>
    intro j i s H x vb tb c hr hj J sH fI fS hSI hlI hlS hS hit hx rx hij hbest
    have hlt : j + 1 < xs.length := by omega
    obtain ⟨its, rv, pl, hz⟩ := J.list (hl H sH)
    have hlen := rv.length
    have W := Walks.list (prog := X.prog) (w := X.w) (A := X.A.in1) (show X.A.in1.handled = none from J.ok.hd hc) I l hlI its.toArray
    refine codeAny_builtin PySem.F.entry_min_loop ?_
    rw [Around.under_plainId PySem.F.plain_min_loop _]
    refine wpAny_bind (wpAny_seqItems hS rfl ?_)
    refine wpAny_bind (wpAny_tryCatch (W.item (j + 1) _ _ _ (by rw [List.size_toArray]; omega) ⟨hit, pl.isList⟩ fun v h' tk' hP hst' hk' => ?_))
    have hv : its[j + 1]? = some v := by simpa using hP
    obtain ⟨y, hy⟩ : ∃ y, xs[j + 1]? = some y := ⟨xs[j + 1]'hlt, by simp⟩
    obtain ⟨v', hv', ry⟩ := rv.get hy
    have ev : v' = v := by rw [hv] at hv'; exact (Option.some.inj hv').symm
    subst ev
    have J1 := Inv.upS (t' := tk') J fI (fun b o hb e => hk' b o (by simpa using hb) e)
    have hS' := hk' S _ (by simpa using hSI) hS
    obtain ⟨oI, hoI, hoc, hod⟩ := id hst'.1
    have J2 := J1.pinned (fp := [S, I]) (fun b hb => by
      rcases List.mem_cons.mp hb with rfl | hb
      · exact fS
      · rw [List.mem_singleton.mp hb]; exact fI) (fun b hb => by
      rcases List.mem_cons.mp hb with rfl | hb
      · exact ⟨_, hS', fun v z => by cases z⟩
      · rw [List.mem_singleton.mp hb]
        exact ⟨oI, hoI, fun v z => by rw [hod] at z; cases z⟩)
    show wpAny _ X.A.in1 (tryCatch (holding [v'] (call (.ref g) [v'])) _ >>= _) _ _ _
    refine wpAny_bind (wpAny_tryCatch (wpAny_holding (wpAny_mono (key (j + 1) y _ _ H v' hy J2 sH ry) (fun u s2 he => ?_) fun _ _ hF => hF.elim)))
    obtain ⟨z, H2, J3, rz, ez, s2H⟩ := he
    subst ez
    obtain ⟨t2, rfl⟩ := rz
    have pS := J3.pin (S, _) (List.mem_append_right _ (List.mem_append_right _ (mem_pinsAt (List.mem_cons_self ..) hS')))
    have pI := J3.pin (I, oI) (List.mem_append_right _ (List.mem_append_right _ (mem_pinsAt (List.mem_cons_of_mem _ (List.mem_singleton.mpr rfl)) hoI)))
    have J4 : Inv X pins σ H2 s2 := J3.unpinned
    have hS2 := pS.1
    have hit2 : s2.heap.IsListIter I l (j + 1 + 1) := ⟨oI, pI.1, hoc, hod⟩
    have fS2 := fp_keep fS pS.2.1
    have fI2 := fp_keep fI pI.2.1
    have sH2 : SameH H0 H2 := fun a o e => s2H a o (sH a o e)
    show wpAny _ X.A.in1 (tryCatch (holding [v', .int (kf (j + 1)) t2] (richCompare .Lt (.int (kf (j + 1)) t2) (.int (kf i) tb) >>= _)) _ >>= _) _ _ _
    refine wpAny_bind (wpAny_tryCatch (wpAny_holding (wpAny_bind (CmpOf.ints_lt (prog := X.prog) (w := X.w) (A := X.A.in1) (P := fun i v => ∃ t, v = .int (kf i) t) kf (fun i v h => h) (j + 1) i _ _ _ _ _ ⟨t2, rfl⟩ ⟨tb, rfl⟩ ?_))))
    refine wpAny_bind (wpAny_holding (wpAny_truthy_bool ?_))
    refine wpAny_bind (wpAny_letGo (wpAny_pure ?_))
    by_cases hb' : kf (j + 1) < kf i
    · simp only [hb', decide_true, if_true]
      refine wpAny_bind ?_
      refine wpAny_updateSeq hS2 rfl (wpAny_bind (wpAny_letGo ?_))
      rw [mn_name]
      have J5 := Inv.upS (t' := s2.toks) (h' := s2.heap.update S (Obj.mapSeq fun _ => #[v', .int (kf (j + 1)) t2])) J4 fS2 (fun b o hb e => (Heap.get?_update_other _ _ (Ne.symm hb)).trans e)
      refine wpAny_pure ⟨plainId_quiet PySem.F.plain_min_loop _, ih (j + 1) (j + 1) _ H2 y v' t2 _ (by omega) hlt J5 sH2 fI2 fS2 hSI hlI hlS (Heap.get?_update_self _ hS2 rfl) ⟨oI, (Heap.get?_update_other _ _ hSI).trans pI.1, hoc, hod⟩ hy ry (Nat.le_refl _) fun j' hj' => ?_⟩
      by_cases e : j' = j + 1
      · subst e
        exact ⟨by omega, fun _ => by omega⟩
      · have hb1 := hbest j' (by omega)
        have hb2 := hb1.1
        exact ⟨by omega, fun _ => by omega⟩
    · simp only [hb', decide_false, Bool.false_eq_true, if_false]
      refine wpAny_bind (wpAny_letGo ?_)
      rw [mn_name]
      refine wpAny_pure ⟨plainId_quiet PySem.F.plain_min_loop _, ih (j + 1) i _ H2 x vb tb _ (by omega) hlt J4 sH2 fI2 fS2 hSI hlI hlS hS2 hit2 hx rx (by omega) fun j' hj' => ?_⟩
      by_cases e : j' = j + 1
      · subst e
        exact ⟨by omega, fun h => by omega⟩
      · exact hbest j' (by omega)
/-- the call: of none the default, else the first of the least -/
theorem mn_call {dflt : Option Value} {s : Shared} {Q : Value → Shared → Prop} {E : Value → Shared → Prop} (hc : X.calm = true) (I : Inv X pins σ H0 s) (key : KeyC X (.ref g) σ H0 xs kf) (hl : SqL X.K H0 l xs)
    (ha : argsOk "min" ⟨[.ref l], kw⟩) (hb : Builtin.Builtins.bindParams "min" ["key", "default"] 0 ⟨[], kw⟩ = pure [some (.ref g), dflt])
    (h0 : xs = [] → ∃ d, dflt = some d ∧ ∀ s', Inv X pins σ H0 s' → Q d s')
    (fin : ∀ i x v s H, xs[i]? = some x → RelV x v → (∀ j, j < xs.length → kf i ≤ kf j ∧ (j < i → kf i < kf j)) → Inv X pins σ H s → SameH H0 H → Q v s) :
    wpAny (model X.prog X.w) X.A (call (.builtin "min") [.ref l] kw) Q E s := by
  obtain ⟨its, rv, pl, hz⟩ := I.list hl
  have hlen := rv.length
  obtain ⟨ol, hol, holc, _, hold⟩ := id pl.isList
  have hll : l < s.heap.objs.size := Heap.lt_size hol
  have hls : ∀ H, SameH H0 H → SqL X.K H l xs := fun H sH => by
    rcases hl with h | h
    · rcases h with h | ⟨o, h⟩
      · exact .inl (.inl (sH _ _ h))
      · exact .inl (.inr ⟨o, sH _ _ h⟩)
    · exact .inr h
  refine kmk_tree PySem.F.kind_min PySem.F.plain_min PySem.F.entry_min ha ?_
  refine wpAny_bind (wpAny_of_eq hb ?_)
  refine wpAny_bind (wpAny_pure ?_)
  refine wpAny_bind (wpAny_pyIter_list pl.isList ?_)
  refine wpAny_bind (wpAny_newList ?_ (Nat.zero_le _))
  rw [mn_name]
  have hS : (s.heap.push { cls := .type "list_iterator", data := .fields #[.ref l, .int 0 0] }).objs.size = s.heap.objs.size + 1 := size_push' ..
  have gI : ((s.heap.push { cls := .type "list_iterator", data := .fields #[.ref l, .int 0 0] }).push (seqObj "list" #[] 0)).get? s.heap.objs.size = some { cls := .type "list_iterator", data := .fields #[.ref l, .int 0 0] } :=
    Heap.get?_push_of_some _ (Heap.get?_push_size _ rfl)
  have gS : ((s.heap.push { cls := .type "list_iterator", data := .fields #[.ref l, .int 0 0] }).push (seqObj "list" #[] 0)).get? (s.heap.objs.size + 1) = some (seqObj "list" #[] 0) := by
    rw [← hS]
    exact Heap.get?_push_size _ rfl
  have I1 : Inv X pins σ H0 { s with heap := (s.heap.push { cls := .type "list_iterator", data := .fields #[.ref l, .int 0 0] }).push (seqObj "list" #[] 0) } := I.kept (t' := s.toks) fun b o e => Heap.get?_push_of_some _ (Heap.get?_push_of_some _ e)
  have fI : FpOk X pins H0 s.heap.objs.size := I.fpOk (Nat.le_refl _) (I.hok.fresh (Nat.le_refl _))
  have fS : FpOk X pins H0 (s.heap.objs.size + 1) := I.fpOk (Nat.le_succ _) (I.hok.fresh (Nat.le_succ _))
  have hSI : s.heap.objs.size + 1 ≠ s.heap.objs.size := Nat.succ_ne_self _
  have hlI : l ≠ s.heap.objs.size := Nat.ne_of_lt hll
  have hlS : l ≠ s.heap.objs.size + 1 := Nat.ne_of_lt (Nat.lt_succ_of_lt hll)
  rw [hS]
  generalize (s.heap.push { cls := .type "list_iterator", data := .fields #[.ref l, .int 0 0] }).push (seqObj "list" #[] 0) = h1 at *
  generalize s.heap.objs.size + 1 = S at *
  generalize s.heap.objs.size = J at *
  refine wpAny_pure ⟨plainId_quiet PySem.F.plain_min_loop _, ?_⟩
  obtain ⟨its1, rv1, pl1, hz1⟩ := I1.list hl
  have hlen1 := rv1.length
  have W := Walks.list (prog := X.prog) (w := X.w) (A := X.A.in1) (show X.A.in1.handled = none from I.ok.hd hc) J l hlI its1.toArray
  refine codeAny_builtin PySem.F.entry_min_loop ?_
  rw [Around.under_plainId PySem.F.plain_min_loop _]
  refine wpAny_bind (wpAny_seqItems gS rfl ?_)
  by_cases hn : xs.length = 0
  · have hx0 : xs = [] := List.eq_nil_of_length_eq_zero hn
    obtain ⟨d, rfl, hd⟩ := h0 hx0
    refine wpAny_bind (wpAny_tryCatch (W.done _ _ _ ⟨by rw [show its1.toArray.size = 0 by rw [List.size_toArray, ← hlen1, hn]]; exact ⟨_, gI, rfl, rfl⟩, pl1.isList⟩ fun h' tk' hk' => ?_))
    show wpAny _ X.A.in1 (rule _ >>= fun _ => ret d) _ _ _
    refine wpAny_bind (wpAny_rule ?_)
    exact wpAny_pure (hd _ (Inv.upS (t' := tk') I1 fI (fun b o hb e => hk' b o (by simpa using hb) e)))
  · have hlt : 0 < xs.length := Nat.pos_of_ne_zero hn
    refine wpAny_bind (wpAny_tryCatch (W.item 0 _ _ _ (by rw [List.size_toArray]; omega) ⟨⟨_, gI, rfl, rfl⟩, pl1.isList⟩ fun v h' tk' hP hst' hk' => ?_))
    have hv : its1[0]? = some v := by simpa using hP
    obtain ⟨y, hy⟩ : ∃ y, xs[0]? = some y := ⟨xs[0]'hlt, by simp⟩
    obtain ⟨v', hv', ry⟩ := rv1.get hy
    have ev : v' = v := by rw [hv] at hv'; exact (Option.some.inj hv').symm
    subst ev
    have J1 := Inv.upS (t' := tk') I1 fI (fun b o hb e => hk' b o (by simpa using hb) e)
    have hS' := hk' S _ (by simpa using hSI) gS
    obtain ⟨oI, hoI, hoc, hod⟩ := id hst'.1
    have J2 := J1.pinned (fp := [S, J]) (fun b hb => by
      rcases List.mem_cons.mp hb with rfl | hb
      · exact fS
      · rw [List.mem_singleton.mp hb]; exact fI) (fun b hb => by
      rcases List.mem_cons.mp hb with rfl | hb
      · exact ⟨_, hS', fun v z => by cases z⟩
      · rw [List.mem_singleton.mp hb]
        exact ⟨oI, hoI, fun v z => by rw [hod] at z; cases z⟩)
    show wpAny _ X.A.in1 (tryCatch (holding [v'] (call (.ref g) [v'])) _ >>= _) _ _ _
    refine wpAny_bind (wpAny_tryCatch (wpAny_holding (wpAny_mono (key 0 y _ _ H0 v' hy J2 (fun _ _ e => e) ry) (fun u s2 he => ?_) fun _ _ hF => hF.elim)))
    obtain ⟨z, H2, J3, rz, ez, s2H⟩ := he
    subst ez
    obtain ⟨t2, rfl⟩ := rz
    have pS := J3.pin (S, _) (List.mem_append_right _ (List.mem_append_right _ (mem_pinsAt (List.mem_cons_self ..) hS')))
    have pI := J3.pin (J, oI) (List.mem_append_right _ (List.mem_append_right _ (mem_pinsAt (List.mem_cons_of_mem _ (List.mem_singleton.mpr rfl)) hoI)))
    have J4 : Inv X pins σ H2 s2 := J3.unpinned
    have fS2 := fp_keep fS pS.2.1
    have fI2 := fp_keep fI pI.2.1
    show wpAny _ X.A.in1 (updateSeq S (fun _ => #[v', .int (kf 0) t2]) >>= _) _ _ _
    refine wpAny_bind ?_
    refine wpAny_updateSeq pS.1 rfl ?_
    rw [mn_name]
    have J5 := Inv.upS (t' := s2.toks) (h' := s2.heap.update S (Obj.mapSeq fun _ => #[v', .int (kf 0) t2])) J4 fS2 (fun b o hb e => (Heap.get?_update_other _ _ (Ne.symm hb)).trans e)
    refine wpAny_pure ⟨plainId_quiet PySem.F.plain_min_loop _, mn_loop hc key hls (R := fun r s' => match r with | .ok (.ret v) => Q v s' | .ok _ => False | .error e => E e s') (fun i x v s H h1 h2 h3 h4 h5 => fin i x v s H h1 h2 h3 h4 h5) _ 0 0 _ H2 y v' t2 _ rfl hlt J5 s2H fI2 fS2 hSI hlI hlS (Heap.get?_update_self _ pS.1 rfl) ⟨oI, (Heap.get?_update_other _ _ hSI).trans pI.1, hoc, hod⟩ hy ry (Nat.le_refl _) fun j' hj' => ?_⟩
    have e : j' = 0 := by omega
    subst e
    exact ⟨by omega, fun h => absurd h (Nat.lt_irrefl _)⟩
/-- min(list, key=a def, default=None) -/
def rMinKD (K : PySem.W.Frag) (g : Addr) (sp : Sp) : List V → List V → Hp → VK → Prop := fun xs zs H Q => ∃ (l : Addr) (vs : List V) (kf : Nat → Int), xs = [.ref l] ∧ zs = [.ref g, .non] ∧ SqL K H l vs ∧
  (∀ i x H', vs[i]? = some x → SameH H H' → sp [x] H' (fun z H'' => z = .int (kf i) ∧ SameH H' H'') E0) ∧ (vs = [] → Q .non H) ∧
  ∀ i x H', vs[i]? = some x → (∀ j, j < vs.length → kf i ≤ kf j ∧ (j < i → kf i < kf j)) → SameH H H' → Q x H'
theorem mn_args2 (a k d : Value) : argsOk "min" ⟨[a], [(Str.ofString "key", k), (Str.ofString "default", d)]⟩ := by unfold argsOk; kernel_rfl
theorem cr_minKD {X : Cx} {K : PySem.W.Frag} {j k : Nat} {x : Str} {sp : Sp} {g : Addr} (hK : X.K = K) (hc : X.calm = true) (c : DOk X.prog X.w X.K X.mg X.base CX0 k x sp) (hr : Room j X.A) (hk : k + 1 ≤ j) (hm : X.mg x = some (.ref g)) : CallRK X (.builtin "min") ["key", "default"] (rMinKD K g sp) := by
  subst hK
  intro pins s σ H xs zs us ws Q I r rz h
  obtain ⟨l, vs, kf, rfl, rfl, hs, hsp, h0, h1⟩ := h
  obtain ⟨f, fd, ps, G, hmf, kp, b⟩ := c.ex
  rw [hm] at hmf
  cases hmf
  rw [Vals.ref1 r]
  obtain ⟨w1, w2, rfl, e1, e2⟩ := vals2 rz
  obtain rfl : w1 = Value.ref g := e1
  obtain rfl : w2 = Value.none := e2
  have hr1 : Room k X.A.in1 := Room.in1 (hr.mono hk)
  refine mn_call (dflt := some .none) (kf := kf) hc I (fun i y pins2 s2 H2 v hy I2 sH ry => ?_) hs (mn_args2 _ _ _) rfl (fun e => ⟨.none, rfl, fun s' J => ⟨.non, H, J, rfl, h0 e⟩⟩) fun i y v s2 H2 hy ry hb J sH => ⟨y, H2, J, ry, h1 i y H2 hy hb sH⟩
  have q := hsp i y H2 hy sH
  have r2 : Vals [y] [v] := .cons ry .nil
  refine wpAny_call (codeAny_mono (G.run X.A.in1 X.stack s2 H2 ⟨[v], []⟩ ([v] ++ []) ([y] ++ []) _ E0 hr1 I2.env0.in1 (b s2 [v] I2.kIn (by have := G.len _ _ _ _ q; simpa using this)) (by simpa using r2) (by simpa using q)) fun r' s3 hq => ?_)
  cases r' with
  | error e => exact False.elim hq
  | ok fl =>
    cases fl with
    | ret u => exact I2.after hq
    | next => exact False.elim hq
    | brk => exact False.elim hq
    | cont => exact False.elim hq
end
end Ls
set_option Elab.async false
set_option linter.all false
set_option maxRecDepth 100000
set_option maxHeartbeats 4000000
/-! texts: letter_of, read_text, bytes_of, told_text -/
namespace Ls
open PySem PySem.Spec PyProof.Rows L2
/-- a new list is given back -/
def NewL (xs : List V) (H : Hp) (Q : VK) : Prop := ∀ p H', H p = none → Same H H' → H' p = some (.lst xs) → Q (.ref p) H'
def iV (l : List Int) : List V := l.map V.int
def cV (x : Str) : List V := x.cps.toList.map fun (c : Nat) => V.int (c : Int)
def spBytesOf : Sp := fun vs H Q _ => ∃ x : Str, vs = [.str x] ∧ x.length ≤ 50000 ∧ NewL (cV x) H Q
def spToldText (K : PySem.W.Frag) : Sp := fun vs H Q _ => ∃ (a : Addr) (t : List Ln), vs = [.ref a] ∧ SqL K H a (tS t) ∧ (Vaseda.showText t).length ≤ 50000 ∧
  NewL (iV (VasedBase.textRow (Vaseda.showText t))) H Q
def spLetter (K : PySem.W.Frag) : Sp := fun vs H Q E => ∃ n : Int, vs = [.int n] ∧ (¬ (97 ≤ n ∧ n ≤ 122) → E (.ref (He.ga K "NotAText")) none H) ∧ (97 ≤ n ∧ n ≤ 122 → Q (.str ⟨#[n.toNat]⟩) H)
theorem cV_sOf (l : Ln) : cV (sOf l) = l.map fun (c : UInt8) => V.int (c.toNat : Int) := by
  unfold cV
  rw [sOf_cps, List.map_map]
  rfl
theorem cV_len (x : Str) : (cV x).length = x.length := by simp [cV, Str.length]
theorem showText_mem : ∀ {t : List Ln} {x : Ln}, x ∈ t → x.length + 1 ≤ (Vaseda.showText t).length
  | y :: t, x, h => by
    have e : (Vaseda.showText (y :: t)).length = (y.length + 1) + (Vaseda.showText t).length := by simp [Vaseda.showText]; omega
    rw [e]
    rcases List.mem_cons.mp h with rfl | h
    · omega
    · have := showText_mem h
      omega
theorem showText_len : ∀ t : List Ln, t.length ≤ (Vaseda.showText t).length
  | [] => Nat.le_refl _
  | y :: t => by
    have e : (Vaseda.showText (y :: t)).length = (y.length + 1) + (Vaseda.showText t).length := by simp [Vaseda.showText]; omega
    have := showText_len t
    rw [e, List.length_cons]
    omega
theorem nl_str : (Str.ofString "\n") = sOf [10] := by decide +kernel
theorem join_empty_cps : ∀ l : List Ln, (Str.join (Str.ofString "") (l.map sOf)).cps.toList = l.flatten.map UInt8.toNat
  | [] => rfl
  | [x] => by
    show (sOf x).cps.toList = _
    rw [sOf_cps]
    simp
  | x :: y :: r => by
    have ih := join_empty_cps (y :: r)
    have e : Str.join (Str.ofString "") ((x :: y :: r).map sOf) = sOf x ++ Str.ofString "" ++ Str.join (Str.ofString "") ((y :: r).map sOf) := rfl
    have e2 : ∀ a b : Str, (a ++ b).cps.toList = a.cps.toList ++ b.cps.toList := fun a b => by
      show (a.cps ++ b.cps).toList = _
      simp
    rw [e, e2, e2, ih, sOf_cps]
    have e3 : (Str.ofString "").cps.toList = [] := by decide +kernel
    rw [e3]
    simp
theorem join_empty (l : List Ln) : Txt.join (Str.ofString "") (l.map sOf) = sOf l.flatten := ext_cps (by
  rw [sOf_cps, TL.join_eq]
  exact join_empty_cps l)
section
variable {P : Program} {w : World} {K : PySem.W.Frag} {mg : Str → Option Value} {base : Heap}
theorem sc_bytes_of : FnScope ["signs", "sign"] ["signs"] (defScope s_bytes_of) := ⟨rfl, rfl, rfl, by decide +kernel, rfl, by decide +kernel, by decide +kernel⟩
theorem ok_bytes_of (T : Txt K mg) : DOk P w K mg base CX0 1 "bytes_of" spBytesOf := by
  obtain ⟨fd, F⟩ := T.f_bytes_of
  have sc := sc_bytes_of
  refine dok F T.g_bytes_of (fun _ _ _ _ _ _ us hl => match us, hl with | [_], _ => rfl) sc (fun vs H Q E h => by obtain ⟨_, rfl, _⟩ := h; rfl) (fun cdv A outer s H vs Q E hr h => ?_)
  refine ⟨_, PSs.nox (pss_one (ps_ret (pe_lc (own := [("sign", 1)]) rfl sc.nd (pi_str (pv 0)) (blkOk_by (N := ["signs", "sign"]) (sc := defScope s_bytes_of) (by decide +kernel)) (fun _ _ _ _ _ => (pg_name (i := 1) sc.nd rfl (Or.inl rfl))) (fun _ _ _ _ _ => pts_nil) (fun _ _ _ _ _ => (pe_callB call_ord rfl T.b_ord boot_ord (pa_cons (pv 1) pa_nil)))))), ?_⟩
  obtain ⟨x, rfl, hx, k⟩ := h
  refine ⟨_, rfl, x, rfl, fun D hD => ?_⟩
  refine lc_it walk_str (fun i H' => Same H H' ∧ H' D = some (.lst ((cV x).take i))) ⟨Same.new hD, upd_same⟩ (fun _ _ _ _ => trivial) ?_ ?_
  · rintro i y H1 H2 hi ⟨s1, h1⟩ ⟨rfl, c, hc, rfl⟩
    have hc' : x.cps.toList[i]? = some c := by simpa using hc
    have hv : (cV x)[i]? = some (.int (c : Int)) := by
      unfold cV
      rw [List.getElem?_map, hc']
      rfl
    refine ⟨rfl, _, rfl, _, rfl, rfl, _, h1, smallLt (m := 60000) (by rw [List.length_take, cV_len]; omega), Same.put s1 hD, ?_⟩
    rw [upd_same, take_more hv]
    rfl
  · rintro H1 ⟨s1, h1⟩
    refine k D H1 hD s1 ?_
    rw [h1, List.take_of_length_le (show (cV x).length ≤ x.cps.size from Nat.le_of_eq (cV_len x))]
theorem sc_told_text : FnScope ["lines", "line", "told"] ["lines"] (defScope s_told_text) := ⟨rfl, rfl, rfl, by decide +kernel, rfl, by decide +kernel, by decide +kernel⟩
theorem ok_told_text (T : Txt K mg) : DOk P w K mg base CX0 2 "told_text" (spToldText K) := by
  obtain ⟨fd, F⟩ := T.f_told_text
  have sc := sc_told_text
  have K_bytes_of : DOk P w K mg base CX0 1 "bytes_of" spBytesOf := ok_bytes_of T
  refine dok F T.g_told_text (fun _ _ _ _ _ _ us hl => match us, hl with | [_], _ => rfl) sc (fun vs H Q E h => by obtain ⟨_, _, rfl, _⟩ := h; rfl) (fun cdv A outer s H vs Q E hr h => ?_)
  refine ⟨_, PSs.nox (pss_cons (ps_set (i := 2) sc.nd rfl (Or.inl rfl) (pe_d K_bytes_of hr (by first | decide | omega) rfl (pa_cons (pe_joinK (K := K) rfl pe_str (pe_lc (own := [("line", 1)]) rfl sc.nd (pi_listK (K := K) rfl (pv 0)) (blkOk_by (N := ["lines", "line", "told"]) (sc := defScope s_told_text) (by decide +kernel)) (fun _ _ _ _ _ => (pg_name (i := 1) sc.nd rfl (Or.inl rfl))) (fun _ _ _ _ _ => pts_nil) (fun _ _ _ _ _ => (pe_op op_add_str (pv 1) pe_str)))) pa_nil)))
  (pss_one (ps_ret (pe_op op_cat (pe_lst (pa_cons (pe_callB (call_len_seqK (K := K) rfl) rfl T.b_len boot_len (pa_cons (pv 2) pa_nil)) pa_nil)) (pv 2))))), ?_⟩
  obtain ⟨a, t, rfl, ha, hz, k⟩ := h
  refine ⟨⟨_, rfl⟩, _, rfl, a, rfl, ⟨_, ha⟩, fun D hD => ?_⟩
  refine lc_list (K := K) (a := a) (xs := tS t) (fun i H' => Same H H' ∧ H' D = some (.lst (tS ((t.take i).map (· ++ [10]))))) ⟨Same.new hD, upd_same⟩ (fun i H' _ ⟨s1, _⟩ => s1.seq ha) ?_ ?_
  · rintro i y H1 hi ⟨s1, h1⟩
    obtain ⟨x, hx, rfl⟩ := tS_get hi
    have hxl : x.length + 1 ≤ 50000 := by
      have := showText_mem (List.mem_of_getElem? hx)
      omega
    have htl : t.length ≤ 50000 := by
      have := showText_len t
      omega
    refine ⟨rfl, _, rfl, _, _, rfl, rfl, small (m := 60000) (by rw [sOf_len]; show x.length + 1 ≤ 60000; omega), _, h1, smallLt (m := 60000) (by simp [tS]; omega), Same.put s1 hD, ?_⟩
    rw [upd_same, take_more hx, nl_str]
    show _ = some (HO.lst (tS ((t.take i ++ [x]).map _)))
    rw [List.map_append, tS_app, sOf_app]
    rfl
  · rintro H1 ⟨s1, h1⟩
    rw [tS_len, List.take_length] at h1
    have e1 : (t.map (· ++ [10])).flatten = Vaseda.showText t := rfl
    refine ⟨_, D, (t.map (· ++ [10])).map sOf, rfl, rfl, .inl (SqL.of (by rw [h1, List.map_map]; rfl)), ?_, ?_⟩
    · have e2 : (((t.map (· ++ [10])).map sOf).map (·.length)).sum = (Vaseda.showText t).length := by
        rw [← e1, List.length_flatten, List.map_map]
        congr 1
        apply List.map_congr_left
        intro z _
        exact sOf_len z
      rw [e2]
      show _ + _ * 0 ≤ _
      omega
    · rw [join_empty, e1]
      refine ⟨_, rfl, by rw [sOf_len]; exact hz, fun p H2 hp s2 h2 => ?_⟩
      have hcv : cV (sOf (Vaseda.showText t)) = (Vaseda.showText t).map fun (c : UInt8) => V.int (c.toNat : Int) := by
        unfold cV
        rw [sOf_cps, List.map_map]
        rfl
      have s12 := s1.trans s2
      refine ⟨_, rfl, p, _, rfl, .inl (SqL.of h2), small (m := 10) (by show 1 ≤ 10; decide), fun l hl => ?_⟩
      have s3 := Same.new (o := HO.lst [V.int ((cV (sOf (Vaseda.showText t))).length : Nat)]) hl
      refine ⟨_, rfl, l, p, _, _, rfl, rfl, upd_same, s3 _ _ h2, small (m := 60000) (by rw [cV_len, sOf_len]; simp; omega), fun q hq => ?_⟩
      have hq0 : H q = none := (s12.trans s3).free hq
      refine k q _ hq0 (Same.put (s12.trans s3) hq0) ?_
      rw [upd_same, cV_len, sOf_len, hcv]
      congr 1
      simp [iV, VasedBase.textRow]
end
end Ls
set_option Elab.async false
set_option linter.all false
set_option maxRecDepth 100000
set_option maxHeartbeats 4000000
/-! What addresses, deeds, commands, scripts, examples are in the heap. -/
namespace Ls
open PySem PySem.Spec PyProof.Rows L2
abbrev VAddr := Vaseda.Addr
abbrev VDeed := Vaseda.Deed
abbrev VCmd := Vaseda.Cmd
/-- lists of values that stand for data, item by item -/
theorem paired_get {α β : Type} {R : α → β → Prop} : ∀ {xs : List α} {ys : List β} {i : Nat} {x : α}, Paired R xs ys → xs[i]? = some x → ∃ y, ys[i]? = some y ∧ R x y
  | _, _, _, _, .nil, e => by simp at e
  | _, _, 0, _, .cons r _, e => by simp at e; subst e; exact ⟨_, rfl, r⟩
  | _, _, i + 1, x, .cons _ t, e => by
    obtain ⟨u, h1, h2⟩ := paired_get (i := i) (x := x) t (by simpa using e)
    exact ⟨u, by simpa using h1, h2⟩
theorem paired_app {α β : Type} {R : α → β → Prop} : ∀ {xs xs' : List α} {ys ys' : List β}, Paired R xs ys → Paired R xs' ys' → Paired R (xs ++ xs') (ys ++ ys')
  | _, _, _, _, .nil, s => s
  | _, _, _, _, .cons r t, s => .cons r (paired_app t s)
theorem paired_len {α β : Type} {R : α → β → Prop} {xs : List α} {ys : List β} (h : Paired R xs ys) : xs.length = ys.length := by
  induction h with
  | nil => rfl
  | cons _ _ ih => simp [ih]
theorem paired_imp {α β : Type} {R S : α → β → Prop} (f : ∀ a b, R a b → S a b) : ∀ {xs : List α} {ys : List β}, Paired R xs ys → Paired S xs ys
  | _, _, .nil => .nil
  | _, _, .cons r t => .cons (f _ _ r) (paired_imp f t)
/-! ### addresses, deeds -/
def RepA (H : Hp) : V → VAddr → Prop
  | v, .all => ∃ p, v = .ref p ∧ H p = some (.tup [.str "all"])
  | v, .last => ∃ p, v = .ref p ∧ H p = some (.tup [.str "last"])
  | v, .line n => ∃ p, v = .ref p ∧ H p = some (.tup [.str "line", .int n])
  | v, .span a b => ∃ p, v = .ref p ∧ H p = some (.tup [.str "from", .int a, .str "to", .int b])
  | v, .has w => ∃ p, v = .ref p ∧ H p = some (.tup [.str "has", vS w])
  | v, .is_ w => ∃ p, v = .ref p ∧ H p = some (.tup [.str "is", vS w])
  | v, .not a => ∃ p u, v = .ref p ∧ H p = some (.tup [.str "not", u]) ∧ RepA H u a
def dItems : VDeed → List V
  | .delete => [.str "delete"]
  | .before w => [.str "before", vS w]
  | .after w => [.str "after", vS w]
  | .change w => [.str "change", vS w]
  | .swap a b => [.str "swap", vS a, vS b]
  | .first a b => [.str "first", vS a, vS b]
  | .keep => [.str "keep"]
  | .bring => [.str "bring"]
  | .trade => [.str "trade"]
  | .skip k => [.str "skip", .int k]
  | .halt_ => [.str "stop"]
/-- the tuple of a deed that replaces: its two texts are two objects -/
def RawSw (ob : Obj) : Prop := ∃ (t0 t u : Tok) (k a b : Str) (n : Nat), ob.cls = .type "tuple" ∧ ob.data = .seq #[.str k t0, .str a t, .str b u] n ∧ t ≠ 0 ∧ u ≠ 0 ∧ t ≠ u
def repl : VDeed → Bool
  | .swap _ _ => true
  | .first _ _ => true
  | _ => false
def RepD (H : Hp) (v : V) (d : VDeed) : Prop := ∃ p, v = .ref p ∧ if repl d = true then ∃ ob, H p = some (.frz ob (.tup (dItems d))) ∧ RawSw ob else H p = some (.tup (dItems d))
/-- tuples stand -/
def tupO : HO → Prop
  | .tup _ => True
  | .frz _ (.tup _) => True
  | _ => False
def Tups (H H' : Hp) : Prop := ∀ p o, H p = some o → tupO o → H' p = some o
theorem Tups.at {H H' : Hp} (s : Tups H H') {p : Addr} {xs : List V} (h : H p = some (.tup xs)) : H' p = some (.tup xs) := s p _ h trivial
theorem Same.tups {H H' : Hp} (s : Same H H') : Tups H H' := fun p _ h _ => s p _ h
theorem Tups.trans {H H1 H2 : Hp} (a : Tups H H1) (b : Tups H1 H2) : Tups H H2 := fun p o h t => b p o (a p o h t) t
theorem RepA.mono {H H' : Hp} (s : Tups H H') : ∀ {a : VAddr} {v : V}, RepA H v a → RepA H' v a
  | .all, _, ⟨p, e, h⟩ => ⟨p, e, s.at h⟩
  | .last, _, ⟨p, e, h⟩ => ⟨p, e, s.at h⟩
  | .line _, _, ⟨p, e, h⟩ => ⟨p, e, s.at h⟩
  | .span _ _, _, ⟨p, e, h⟩ => ⟨p, e, s.at h⟩
  | .has _, _, ⟨p, e, h⟩ => ⟨p, e, s.at h⟩
  | .is_ _, _, ⟨p, e, h⟩ => ⟨p, e, s.at h⟩
  | .not _, _, ⟨p, u, e, h, r⟩ => ⟨p, u, e, s.at h, RepA.mono s r⟩
theorem RepD.mono {H H' : Hp} (s : Tups H H') {d : VDeed} {v : V} : RepD H v d → RepD H' v d := fun ⟨p, e, h⟩ => by
  refine ⟨p, e, ?_⟩
  by_cases hr : repl d = true
  · rw [if_pos hr] at h ⊢
    obtain ⟨ob, h1, h2⟩ := h
    exact ⟨ob, s _ _ h1 trivial, h2⟩
  · rw [if_neg hr] at h ⊢
    exact s.at h
theorem RepD.sqt {K : PySem.W.Frag} {H : Hp} {p : Addr} {d : VDeed} : RepD H (.ref p) d → SqT K H p (dItems d) := fun ⟨q, e, h⟩ => by
  cases e
  by_cases hr : repl d = true
  · rw [if_pos hr] at h
    obtain ⟨ob, h1, h2⟩ := h
    exact .inl (.inr ⟨ob, h1⟩)
  · rw [if_neg hr] at h
    exact SqT.of h
/-! ### commands, scripts, examples -/
/-- objects that never change: tuples, commands, examples -/
def imm (K : PySem.W.Frag) : HO → Prop
  | .tup _ => True
  | .frz _ (.tup _) => True
  | .ins C _ _ => C = He.ga K "Command" ∨ C = He.ga K "Example"
  | _ => False
def Imm (K : PySem.W.Frag) (H H' : Hp) : Prop := ∀ p o, H p = some o → imm K o → H' p = some o
theorem Same.imm {K : PySem.W.Frag} {H H' : Hp} (s : Same H H') : Imm K H H' := fun p o h _ => s p o h
theorem Imm.trans {K : PySem.W.Frag} {H H1 H2 : Hp} (a : Imm K H H1) (b : Imm K H1 H2) : Imm K H H2 := fun p o h i => b p o (a p o h i) i
theorem Imm.refl {K : PySem.W.Frag} {H : Hp} : Imm K H H := fun _ _ h _ => h
theorem imm_tup {K : PySem.W.Frag} {o : HO} (h : tupO o) : imm K o := by
  cases o with
  | tup _ => trivial
  | frz ob u => cases u with
    | tup _ => trivial
    | _ => exact h.elim
  | _ => exact h.elim
theorem Imm.tups {K : PySem.W.Frag} {H H' : Hp} (s : Imm K H H') : Tups H H' := fun p o h t => s p o h (imm_tup t)
/-- a list is stored anew -/
theorem Imm.put {K : PySem.W.Frag} {H : Hp} {p : Addr} {xs ys : List V} (h : H p = some (.lst xs)) : Imm K H (upd H p (.lst ys)) := fun q o hq i => by
  rw [upd_ne (ne_of hq h (by intro e; subst e; exact i))]
  exact hq
theorem Imm.new {K : PySem.W.Frag} {H : Hp} {p : Addr} {o : HO} (h : H p = none) : Imm K H (upd H p o) := Same.imm (Same.new h)
def RepC (K : PySem.W.Frag) (H : Hp) (v : V) (c : VCmd) : Prop := ∃ p dx va vd, v = .ref p ∧ H p = some (.ins (He.ga K "Command") dx [("address", va), ("deed", vd)]) ∧ RepA H va c.a ∧ RepD H vd c.d
theorem RepC.mono {K : PySem.W.Frag} {H H' : Hp} (s : Imm K H H') {c : VCmd} {v : V} : RepC K H v c → RepC K H' v c :=
  fun ⟨p, dx, va, vd, e, h, ra, rd⟩ => ⟨p, dx, va, vd, e, s _ _ h (.inl rfl), ra.mono s.tups, rd.mono s.tups⟩
/-- a list of commands at a -/
def RepS (K : PySem.W.Frag) (H : Hp) (a : Addr) (s : List VCmd) : Prop := ∃ vs, H a = some (.lst vs) ∧ Paired (RepC K H) vs s
theorem RepS.same {K : PySem.W.Frag} {H H' : Hp} (e : Same H H') {a : Addr} {s : List VCmd} : RepS K H a s → RepS K H' a s :=
  fun ⟨vs, h, r⟩ => ⟨vs, e _ _ h, paired_imp (fun _ _ q => q.mono (Same.imm e)) r⟩
abbrev VEx := Vasedf.Example
def RepX (K : PySem.W.Frag) (H : Hp) (v : V) (e : VEx) : Prop := ∃ p dx b c, v = .ref p ∧ H p = some (.ins (He.ga K "Example") dx [("before", .ref b), ("after", .ref c)]) ∧ H b = some (.lst (tS e.a)) ∧ H c = some (.lst (tS e.b))
theorem RepX.same {K : PySem.W.Frag} {H H' : Hp} (s : Same H H') {e : VEx} {v : V} : RepX K H v e → RepX K H' v e :=
  fun ⟨p, dx, b, c, q, h, hb, hc⟩ => ⟨p, dx, b, c, q, s _ _ h, s _ _ hb, s _ _ hc⟩
/-- a list of examples at a -/
def RepE (K : PySem.W.Frag) (H : Hp) (a : Addr) (es : List VEx) : Prop := ∃ vs, H a = some (.lst vs) ∧ Paired (RepX K H) vs es
theorem RepE.same {K : PySem.W.Frag} {H H' : Hp} (e : Same H H') {a : Addr} {s : List VEx} : RepE K H a s → RepE K H' a s :=
  fun ⟨vs, h, r⟩ => ⟨vs, e _ _ h, paired_imp (fun _ _ q => q.same e) r⟩
/-! ### bounds -/
def okA : VAddr → Prop
  | .line n => n < 100
  | .span _ _ => False
  | .has w => w.length ≤ 100
  | .is_ w => w.length ≤ 100
  | .not a => okA a
  | _ => True
def nots : VAddr → Nat
  | .not a => nots a + 1
  | _ => 0
def okW (w : Ln) : Prop := w.length ≤ 100 ∧ w ≠ []
def okD : VDeed → Prop
  | .delete => True
  | .before w => okW w
  | .after w => okW w
  | .change w => okW w
  | .swap a b => okW a ∧ b.length ≤ 100
  | _ => False
def okC (c : VCmd) : Prop := okA c.a ∧ nots c.a ≤ 1 ∧ okD c.d
/-- short words as texts -/
theorem w_all : Str.ofString "all" = sOf (VasedBase.word "all") := by decide +kernel
theorem w_sp : Str.ofString " " = sOf (VasedBase.word " ") := by decide +kernel
theorem num_text (n : Nat) (h : n < 100) : Str.ofString (toString (n : Int)) = sOf (VasedBase.showNat n) := by
  have : ∀ n : Fin 100, Str.ofString (toString ((n.val : Nat) : Int)) = sOf (VasedBase.showNat n.val) := by decide +kernel
  exact this ⟨n, h⟩
end Ls
set_option Elab.async false
set_option linter.all false
set_option maxRecDepth 100000
set_option maxHeartbeats 4000000
/-! reading: CallReader -/
namespace Ls
open PySem PySem.Spec PyProof.Rows L2
def rdF (a : Addr) (k : Nat) : List (Str × V) := [("numbers", .ref a), ("place", .int k)]
theorem rd_numbers {a : Addr} {k : Nat} : (rdF a k).lookup (Str.ofString "numbers") = some (.ref a) := rfl
theorem rd_place {a : Addr} {k : Nat} : (rdF a k).lookup (Str.ofString "place") = some (.int k) := rfl
theorem rd_put {a : Addr} {k m : Nat} : putF (Str.ofString "place") (.int (m : Int)) (rdF a k) = rdF a m := rfl
/-- all but the object at p stands -/
def KpO (p : Addr) (H H' : Hp) : Prop := ∀ a o, H a = some o → a ≠ p → H' a = some o
theorem KpO.refl {p : Addr} {H : Hp} : KpO p H H := fun _ _ h _ => h
theorem KpO.trans {p : Addr} {H H1 H2 : Hp} (a : KpO p H H1) (b : KpO p H1 H2) : KpO p H H2 := fun q o h n => b q o (a q o h n) n
theorem KpO.of {p : Addr} {H H' : Hp} (s : Same H H') : KpO p H H' := fun q o h _ => s q o h
theorem KpO.put {p : Addr} {H : Hp} {o : HO} : KpO p H (upd H p o) := fun q u h n => by rw [upd_ne n]; exact h
/-- the reader at p has read k of the numbers -/
structure RdAt (K : PySem.W.Frag) (H : Hp) (p dx a : Addr) (k : Nat) (ns : List Int) : Prop where
  ob : H p = some (.ins (He.ga K "CallReader") dx (rdF a k))
  sq : SqL K H a (ns.map V.int)
theorem sq_kp {K : PySem.W.Frag} {H H' : Hp} {p a : Addr} {xs : List V} (s : KpO p H H') (n : a ≠ p) (h : SqL K H a xs) : SqL K H' a xs := by
  rcases h with h | h
  · rcases h with h | ⟨o, h⟩
    · exact .inl (.inl (s _ _ h n))
    · exact .inl (.inr ⟨o, s _ _ h n⟩)
  · exact .inr h
def spRdInit (K : PySem.W.Frag) : Sp := fun vs H Q _ => ∃ (p dx a : Addr), vs = [.ref p, .ref a] ∧ H p = some (.ins (He.ga K "CallReader") dx []) ∧ Q .non (upd H p (.ins (He.ga K "CallReader") dx (rdF a 0)))
def spMore (K : PySem.W.Frag) : Sp := fun vs H Q _ => ∃ (p dx a : Addr) (k : Nat) (ns : List Int), vs = [.ref p] ∧ RdAt K H p dx a k ns ∧ Q (.bl (decide (k < ns.length))) H
def spNumber (K : PySem.W.Frag) : Sp := fun vs H Q _ => ∃ (p dx a : Addr) (k : Nat) (ns : List Int) (z : Int), vs = [.ref p] ∧ RdAt K H p dx a k ns ∧ a ≠ p ∧ ns[k]? = some z ∧
  ∀ H', KpO p H H' → RdAt K H' p dx a (k + 1) ns → Q (.int z) H'
def spRow (K : PySem.W.Frag) : Sp := fun vs H Q _ => ∃ (p dx a : Addr) (k n : Nat) (ns : List Int), vs = [.ref p] ∧ RdAt K H p dx a k ns ∧ a ≠ p ∧ ns[k]? = some (n : Int) ∧ k + 1 + n ≤ ns.length ∧
  ∀ H' q, KpO p H H' → RdAt K H' p dx a (k + 1 + n) ns → H q = none → H' q = some (.lst (((ns.drop (k + 1)).take n).map V.int)) → Q (.ref q) H'
section
variable {P : Program} {w : World} {K : PySem.W.Frag} {mg : Str → Option Value} {base : Heap}
theorem sc_CallReader___init__ : FnScope ["self", "numbers"] ["self", "numbers"] (defScope s_CallReader___init__) := ⟨rfl, rfl, rfl, by decide +kernel, rfl, by decide +kernel, by decide +kernel⟩
theorem ok_CallReader (T : Txt K mg) : COk P w K mg base 1 "CallReader" (He.ga K "CallReader") (spRdInit K) := by
  obtain ⟨fd, F⟩ := T.f_CallReader___init__
  have sc := sc_CallReader___init__
  refine cok F T.m_CallReader T.g_CallReader (fun _ _ _ _ _ _ us hl => match us, hl with | [_, _], _ => rfl) sc (fun vs H Q E h => by obtain ⟨_, _, _, rfl, _⟩ := h; rfl) (fun cdv A outer s H vs Q E hr h => ?_)
  refine ⟨_, PSs.nox (pss_cons (ps_fldK (K := K) rfl (pv 0) (pv 1) rfl)
  (pss_one (ps_fldK (K := K) rfl (pv 0) pe_int rfl))), ?_⟩
  obtain ⟨p, dx, a, rfl, hp, kq⟩ := h
  refine ⟨_, rfl, _, rfl, p, _, dx, _, rfl, hp, T.c_CallReader, T.n_CallReader_numbers, by show 0 < 1000; decide, ?_⟩
  refine ⟨_, rfl, p, _, dx, _, rfl, upd_same, T.c_CallReader, T.n_CallReader_place, by show 1 < 1000; decide, ?_⟩
  rw [upd_upd]
  exact kq
theorem sc_CallReader_has_more : FnScope ["self"] ["self"] (defScope s_CallReader_has_more) := ⟨rfl, rfl, rfl, by decide +kernel, rfl, by decide +kernel, by decide +kernel⟩
theorem ok_has_more (T : Txt K mg) : MOk P w K mg base CX0 1 (He.ga K "CallReader") "has_more" (spMore K) := by
  obtain ⟨fd, F⟩ := T.f_CallReader_has_more
  have sc := sc_CallReader_has_more
  refine mok F T.c_CallReader T.m_CallReader_has_more (fun _ _ _ _ _ _ us hl => match us, hl with | [_], _ => rfl) sc (fun vs H Q E h => by obtain ⟨_, _, _, _, _, rfl, _⟩ := h; rfl) (fun cdv A outer s H vs Q E hr h => ?_)
  refine ⟨_, PSs.nox (pss_one (ps_ret (pe_cmpR op_lt (pe_fldK (K := K) rfl (pv 0) rfl) (pe_callB (call_len_seqK (K := K) rfl) rfl T.b_len boot_len (pa_cons (pe_fldK (K := K) rfl (pv 0) rfl) pa_nil)) (nomark _)))), ?_⟩
  obtain ⟨p, dx, a, k, ns, rfl, R, kq⟩ := h
  refine ⟨_, rfl, p, _, dx, _, _, rfl, R.ob, T.c_CallReader, T.n_CallReader_place, rd_place, _, rfl, p, _, dx, _, _, rfl, R.ob, T.c_CallReader, T.n_CallReader_numbers, rd_numbers, a, _, rfl, .inl R.sq, _, _, rfl, rfl, ?_⟩
  have e : decide (k < ns.length) = decide ((k : Int) < (((ns.map V.int).length : Nat) : Int)) := by
    rw [List.length_map]
    congr 1
    exact propext ⟨fun h => by omega, fun h => by omega⟩
  rw [e] at kq
  exact kq
theorem sc_CallReader_read_number : FnScope ["self", "number"] ["self"] (defScope s_CallReader_read_number) := ⟨rfl, rfl, rfl, by decide +kernel, rfl, by decide +kernel, by decide +kernel⟩
theorem ok_read_number (T : Txt K mg) : MOk P w K mg base CX0 1 (He.ga K "CallReader") "read_number" (spNumber K) := by
  obtain ⟨fd, F⟩ := T.f_CallReader_read_number
  have sc := sc_CallReader_read_number
  refine mok F T.c_CallReader T.m_CallReader_read_number (fun _ _ _ _ _ _ us hl => match us, hl with | [_], _ => rfl) sc (fun vs H Q E h => by obtain ⟨_, _, _, _, _, _, rfl, _⟩ := h; rfl) (fun cdv A outer s H vs Q E hr h => ?_)
  refine ⟨_, PSs.nox (pss_cons (ps_set (i := 1) sc.nd rfl (Or.inl rfl) (pe_ix (ix_listK (K := K) rfl) (pe_fldK (K := K) rfl (pv 0) rfl) (pe_fldK (K := K) rfl (pv 0) rfl) (fun _ _ => rfl)))
  (pss_cons (ps_fldaugK (K := K) rfl (pv 0) pe_int in_add)
  (pss_one (ps_ret (pv 1))))), ?_⟩
  obtain ⟨p, dx, a, k, ns, z, rfl, R, na, hz, kq⟩ := h
  have hz2 : (ns.map V.int)[k]? = some (.int z) := by rw [List.getElem?_map, hz]; rfl
  refine ⟨_, rfl, p, _, dx, _, _, rfl, R.ob, T.c_CallReader, T.n_CallReader_numbers, rd_numbers, _, rfl, p, _, dx, _, _, rfl, R.ob, T.c_CallReader, T.n_CallReader_place, rd_place, a, _, (k : Int), _, rfl, rfl, R.sq, atI_at hz2, ?_⟩
  refine ⟨_, rfl, p, _, dx, _, _, rfl, R.ob, T.c_CallReader, T.n_CallReader_place, rd_place, _, _, rfl, rfl, dx, _, R.ob, by show 2 < 1000; decide, ?_⟩
  refine ⟨_, rfl, kq _ KpO.put ⟨?_, sq_kp KpO.put na R.sq⟩⟩
  rw [upd_same]
  show some (HO.ins _ dx (rdF a _)) = _
  rfl
theorem sc_CallReader_read_row : FnScope ["self", "size", "row"] ["self"] (defScope s_CallReader_read_row) := ⟨rfl, rfl, rfl, by decide +kernel, rfl, by decide +kernel, by decide +kernel⟩
theorem ok_read_row (T : Txt K mg) : MOk P w K mg base CX0 2 (He.ga K "CallReader") "read_row" (spRow K) := by
  obtain ⟨fd, F⟩ := T.f_CallReader_read_row
  have sc := sc_CallReader_read_row
  have K_CallReader_read_number := ok_read_number (P := P) (w := w) (base := base) T
  refine mok F T.c_CallReader T.m_CallReader_read_row (fun _ _ _ _ _ _ us hl => match us, hl with | [_], _ => rfl) sc (fun vs H Q E h => by obtain ⟨_, _, _, _, _, _, rfl, _⟩ := h; rfl) (fun cdv A outer s H vs Q E hr h => ?_)
  refine ⟨_, PSs.nox (pss_cons (ps_set (i := 1) sc.nd rfl (Or.inl rfl) (pe_mt0 (pv 0) K_CallReader_read_number hr (by first | decide | omega)))
  (pss_cons (ps_set (i := 2) sc.nd rfl (Or.inl rfl) (pe_slice (sl_listK (K := K) rfl) (pe_fldK (K := K) rfl (pv 0) rfl) (po_some (pe_fldK (K := K) rfl (pv 0) rfl)) (po_some (pe_op op_add (pe_fldK (K := K) rfl (pv 0) rfl) (pv 1)))))
  (pss_cons (ps_fldaugK (K := K) rfl (pv 0) (pv 1) in_add)
  (pss_one (ps_ret (pv 2)))))), ?_⟩
  obtain ⟨p, dx, a, k, n, ns, rfl, R, na, hz, hn, kq⟩ := h
  refine ⟨_, rfl, p, dx, _, rfl, R.ob, rfl, p, dx, a, k, ns, _, rfl, R, na, hz, fun H1 s1 R1 => ?_⟩
  refine ⟨_, rfl, p, _, dx, _, _, rfl, R1.ob, T.c_CallReader, T.n_CallReader_numbers, rd_numbers, ?_⟩
  refine ⟨_, rfl, p, _, dx, _, _, rfl, R1.ob, T.c_CallReader, T.n_CallReader_place, rd_place, _, rfl, _, rfl, p, _, dx, _, _, rfl, R1.ob, T.c_CallReader, T.n_CallReader_place, rd_place, _, rfl, _, _, rfl, rfl, _, rfl, a, _, rfl, R1.sq, fun q hq => ?_⟩
  have hq0 : H q = none := by
    cases h : H q with
    | none => rfl
    | some o =>
      have nqp : q ≠ p := fun e => by rw [e, R1.ob] at hq; cases hq
      rw [s1 _ _ h nqp] at hq
      cases hq
  have ecut : cutV (ns.map V.int) (some ((k + 1 : Nat) : Int)) (some (((k + 1 : Nat) : Int) + (n : Int))) = ((ns.drop (k + 1)).take n).map V.int := by
    rw [show ((k + 1 : Nat) : Int) + (n : Int) = ((k + 1 + n : Nat) : Int) by omega]
    unfold cutV
    rw [HT.sIx_nat, HT.sIx_nat, List.length_map, Nat.min_eq_left hn, Nat.min_eq_left (by omega), List.map_take, List.map_drop]
    congr 1
    omega
  rw [ecut]
  have s2 := Same.new (o := HO.lst (((ns.drop (k + 1)).take n).map V.int)) hq
  have hp2 := s2 _ _ R1.ob
  have nqp : q ≠ p := fun e => by rw [e, R1.ob] at hq; cases hq
  refine ⟨_, rfl, p, _, dx, _, _, rfl, hp2, T.c_CallReader, T.n_CallReader_place, rd_place, _, rfl, _, _, rfl, rfl, dx, _, hp2, by show 2 < 1000; decide, ?_⟩
  refine ⟨_, rfl, kq _ q ((s1.trans (KpO.of s2)).trans KpO.put) ⟨?_, sq_kp (KpO.put) na (sq_kp (KpO.of (p := p) s2) na R1.sq)⟩ hq0 ?_⟩
  · rw [upd_same, show ((k + 1 : Nat) : Int) + (n : Int) = ((k + 1 + n : Nat) : Int) by omega]
    rfl
  · rw [upd_ne nqp]
    exact upd_same
end
end Ls
set_option Elab.async false
set_option linter.all false
set_option maxRecDepth 100000
set_option maxHeartbeats 4000000
/-! texts: letter_of, read_text -/
namespace Ls
open PySem PySem.Spec PyProof.Rows L2
/-! mathematics -/
def bV (bs : List UInt8) : List V := bs.map fun c => V.int (c.toNat : Int)
theorem bV_get {t : List UInt8} {i : Nat} {v : V} (h : (bV t)[i]? = some v) : ∃ x, t[i]? = some x ∧ v = .int (x.toNat : Int) := by
  unfold bV at h
  rw [List.getElem?_map] at h
  cases e : t[i]? with
  | none => rw [e] at h; cases h
  | some x => rw [e] at h; exact ⟨x, rfl, (Option.some.inj h).symm⟩
def okText (t : List Ln) : Option (List Ln) := if Vaseda.LINES < t.length ∨ t.any (fun x => decide (Vaseda.LONG < x.length)) = true then none else some t
/-- what read_text's loop does with the rest -/
def goText : List UInt8 → List Ln → Ln → Option (List Ln)
  | [], ls, l => if l = [] then some ls else none
  | b :: r, ls, l => if b = 10 then (if 24 < ls.length + 1 then none else goText r (ls ++ [l]) [])
    else if VasedBase.isLetter b = true then (if 16 < l.length + 1 then none else goText r ls (l ++ [b])) else none
theorem any_app (f : Ln → Bool) (a b : List Ln) : (a ++ b).any f = (a.any f || b.any f) := List.any_append
theorem splitBy_long : ∀ (n : Nat) (b : List UInt8) (l t : _), 16 < List.length l → Vaseda.splitBy n b l = some t → t.any (fun x => decide (Vaseda.LONG < x.length)) = true
  | 0, _, _, _, _, h => by simp [Vaseda.splitBy] at h
  | n + 1, [], l, t, hl, h => by
    have hne : l.isEmpty = false := by cases l with | nil => simp at hl | cons _ _ => rfl
    simp [Vaseda.splitBy, hne] at h
  | n + 1, c :: r, l, t, hl, h => by
    unfold Vaseda.splitBy at h
    simp only at h
    by_cases h10 : (c == 10) = true
    · rw [if_pos h10] at h
      cases e : Vaseda.splitBy n r [] with
      | none => rw [e] at h; cases h
      | some t' =>
        rw [e] at h
        cases h
        simp [Vaseda.LONG, hl]
    · rw [if_neg h10] at h
      by_cases hc : VasedBase.isLetter c = true
      · rw [if_pos hc] at h
        exact splitBy_long n r (l ++ [c]) t (by simp; omega) h
      · rw [if_neg hc] at h
        cases h
theorem goText_eq : ∀ (b : List UInt8) (n : Nat) (ls : List Ln) (l : Ln), b.length < n → ls.length ≤ 24 → l.length ≤ 16 → (∀ x ∈ ls, x.length ≤ 16) →
    goText b ls l = ((Vaseda.splitBy n b l).map (ls ++ ·)).bind okText
  | [], 0, _, _, h, _, _, _ => by simp at h
  | [], n + 1, ls, l, _, h1, h2, h3 => by
    have ok : okText ls = some ls := by
      unfold okText
      rw [if_neg]
      rintro (h | h)
      · simp [Vaseda.LINES] at h; omega
      · obtain ⟨x, hx, h⟩ := List.any_eq_true.mp h
        have h4 := h3 x hx
        have h5 : 16 < x.length := of_decide_eq_true h
        omega
    cases l with
    | nil => simp [goText, Vaseda.splitBy, ok]
    | cons _ _ => simp [goText, Vaseda.splitBy]
  | c :: r, 0, _, _, h, _, _, _ => by simp at h
  | c :: r, n + 1, ls, l, h, h1, h2, h3 => by
    by_cases h10 : c = 10
    · subst h10
      have e1 : goText (10 :: r) ls l = if 24 < ls.length + 1 then none else goText r (ls ++ [l]) [] := by simp [goText]
      have e2 : Vaseda.splitBy (n + 1) (10 :: r) l = (Vaseda.splitBy n r []).map fun t => l :: t := by simp [Vaseda.splitBy]
      rw [e1, e2]
      by_cases h24 : 24 < ls.length + 1
      · rw [if_pos h24]
        cases e : Vaseda.splitBy n r [] with
        | none => rfl
        | some t =>
          show none = okText (ls ++ (l :: t))
          unfold okText
          rw [if_pos]
          left
          simp [Vaseda.LINES]
          omega
      · rw [if_neg h24, goText_eq r n (ls ++ [l]) [] (by simpa using h) (by simp; omega) (by simp) (fun x hx => by
          rcases List.mem_append.mp hx with hx | hx
          · exact h3 x hx
          · rw [List.mem_singleton.mp hx]; exact h2)]
        cases Vaseda.splitBy n r [] with
        | none => rfl
        | some t => simp
    · by_cases hc : VasedBase.isLetter c = true
      · have e1 : goText (c :: r) ls l = if 16 < l.length + 1 then none else goText r ls (l ++ [c]) := by simp [goText, h10, hc]
        have e2 : Vaseda.splitBy (n + 1) (c :: r) l = Vaseda.splitBy n r (l ++ [c]) := by simp [Vaseda.splitBy, h10, hc]
        rw [e1, e2]
        by_cases h16 : 16 < l.length + 1
        · rw [if_pos h16]
          cases e : Vaseda.splitBy n r (l ++ [c]) with
          | none => rfl
          | some t =>
            have := splitBy_long n r (l ++ [c]) t (by simpa using h16) e
            show none = okText (ls ++ t)
            unfold okText
            rw [if_pos]
            right
            rw [any_app, this, Bool.or_true]
        · rw [if_neg h16]
          exact goText_eq r n ls (l ++ [c]) (by simpa using h) h1 (by simp; omega) h3
      · have e1 : goText (c :: r) ls l = none := by simp [goText, h10, hc]
        have e2 : Vaseda.splitBy (n + 1) (c :: r) l = none := by simp [Vaseda.splitBy, h10, hc]
        rw [e1, e2]
        rfl
theorem goText_all (b : List UInt8) : goText b [] [] = Vaseda.readText b := by
  rw [goText_eq b (b.length + 1) [] [] (by omega) (by simp) (by simp) (by simp)]
  show _ = (Vaseda.splitBy (b.length + 1) b []).bind okText
  cases Vaseda.splitBy (b.length + 1) b [] with
  | none => rfl
  | some t => simp
theorem letter_iff (b : UInt8) : VasedBase.isLetter b = true ↔ 97 ≤ (b.toNat : Int) ∧ (b.toNat : Int) ≤ 122 := by
  unfold VasedBase.isLetter
  rw [decide_eq_true_eq]
  omega
/-! promises -/
def spReadText (K : PySem.W.Frag) : Sp := fun vs H Q E => ∃ (a : Addr) (bs : List UInt8), vs = [.ref a] ∧ SqL K H a (bV bs) ∧ bs.length ≤ 10000 ∧
  (Vaseda.readText bs = none → ∀ H', Same H H' → E (.ref (He.ga K "NotAText")) none H') ∧ (∀ t, Vaseda.readText bs = some t → NewL (tS t) H Q)
section
variable {P : Program} {w : World} {K : PySem.W.Frag} {mg : Str → Option Value} {base : Heap}
theorem sc_letter_of : FnScope ["byte", "place"] ["byte"] (defScope s_letter_of) := ⟨rfl, rfl, rfl, by decide +kernel, rfl, by decide +kernel, by decide +kernel⟩
theorem ok_letter_of (T : Txt K mg) : DOk P w K mg base (L2.CX P w) 1 "letter_of" (spLetter K) := by
  obtain ⟨fd, F⟩ := T.f_letter_of
  have sc := sc_letter_of
  obtain ⟨_, c_ALPHABET⟩ := T.v_ALPHABET; obtain ⟨_, c_FIRST_LETTER⟩ := T.v_FIRST_LETTER
  have x_NotAText := excB_ok T.x_NotAText
  refine dok F T.g_letter_of (fun _ _ _ _ _ _ us hl => match us, hl with | [_], _ => rfl) sc (fun vs H Q E h => by obtain ⟨_, rfl, _⟩ := h; rfl) (fun cdv A outer s H vs Q E hr h => ?_)
  refine ⟨_, (pss_cons (ps_set (i := 1) sc.nd rfl (Or.inl rfl) (pe_op op_sub (pv 0) (pe_glob (v := .int (97)) rfl c_FIRST_LETTER ⟨_, rfl⟩)))
  (pss_cons (ps_if (PW.pt (pw_or (pt_cmpR op_lt (pv 1) pe_int (nomark _)) (pw_or1 (pt_cmpR op_ge (pv 1) (pe_callB call_len_str rfl T.b_len boot_len (pa_cons (pe_glob (v := .str "abcdefghijklmnopqrstuvwxyz") rfl c_ALPHABET ⟨_, rfl⟩) pa_nil)) (nomark _)))))
  (pss_one (ps_raise rfl (takes_of rfl rfl rfl rfl) (pmk_own PySem.F.excBase_ValueError x_NotAText.1 T.g_NotAText x_NotAText.2.1 (raises_own x_NotAText.2.2.1 x_NotAText.2.2.2) (by exact rfl))))
  pss_nil)
  (pss_one (ps_ret (pe_ix ix_str (pe_glob (v := .str "abcdefghijklmnopqrstuvwxyz") rfl c_ALPHABET ⟨_, rfl⟩) (pv 1) (fun _ _ => rfl)))))), ?_⟩
  obtain ⟨n, rfl, k1, k2⟩ := h
  have hlen : (Str.ofString "abcdefghijklmnopqrstuvwxyz").length = 26 := by decide +kernel
  refine ⟨_, rfl, _, _, rfl, rfl, _, rfl, _, _, rfl, rfl, _, rfl, ite2 (fun c => ?_) fun c => ?_⟩
  · have c1 : n - 97 < 0 := of_decide_eq_true c
    exact k1 (by omega)
  · have c1 : ¬ n - 97 < 0 := fun h => c (decide_eq_true h)
    refine ⟨_, rfl, _, rfl, by rw [hlen]; exact small (m := 30) (by decide), _, _, rfl, rfl, _, rfl, ite2 (fun d => ?_) fun d => ?_⟩
    · have d1 : (((Str.ofString "abcdefghijklmnopqrstuvwxyz").length : Nat) : Int) ≤ n - 97 := of_decide_eq_true d
      rw [hlen] at d1
      exact k1 (by omega)
    · have d1 : ¬ (((Str.ofString "abcdefghijklmnopqrstuvwxyz").length : Nat) : Int) ≤ n - 97 := fun h => d (decide_eq_true h)
      rw [hlen] at d1
      have hl : ∀ i, i < 26 → ((Str.ofString "abcdefghijklmnopqrstuvwxyz").cps.toList)[i]? = some (97 + i) := by decide +kernel
      refine ⟨_, rfl, _, _, n.toNat, rfl, rfl, by rw [hlen]; exact small (m := 30) (by decide), ?_, k2 (by omega)⟩
      obtain ⟨i, hi⟩ : ∃ i : Nat, n = 97 + i := ⟨(n - 97).toNat, by omega⟩
      subst hi
      have e1 : (97 : Int) + i - 97 = (i : Int) := by omega
      have e2 : ((97 : Int) + i).toNat = 97 + i := by omega
      show atI _ ((97 : Int) + i - 97) = _
      rw [e1, e2]
      exact atI_at (hl i (by omega))
theorem sc_read_text : FnScope ["told", "lines", "line", "byte"] ["told"] (defScope s_read_text) := ⟨rfl, rfl, rfl, by decide +kernel, rfl, by decide +kernel, by decide +kernel⟩
theorem ok_read_text (T : Txt K mg) : DOk P w K mg base (L2.CX P w) 2 "read_text" (spReadText K) := by
  obtain ⟨fd, F⟩ := T.f_read_text
  have sc := sc_read_text
  have K_letter_of : DOk P w K mg base (L2.CX P w) 1 "letter_of" (spLetter K) := ok_letter_of T
  obtain ⟨_, c_LETTERS_AT_MOST_texts⟩ := T.v_LETTERS_AT_MOST_texts; obtain ⟨_, c_LINES_AT_MOST_texts⟩ := T.v_LINES_AT_MOST_texts; obtain ⟨_, c_LINE_END⟩ := T.v_LINE_END
  have x_NotAText := excB_ok T.x_NotAText
  refine dok F T.g_read_text (fun _ _ _ _ _ _ us hl => match us, hl with | [_], _ => rfl) sc (fun vs H Q E h => by obtain ⟨_, _, rfl, _⟩ := h; rfl) (fun cdv A outer s H vs Q E hr h => ?_)
  refine ⟨_, (pss_cons (ps_set (i := 1) sc.nd rfl (Or.inl rfl) (pe_lst pa_nil))
  (pss_cons (ps_set (i := 2) sc.nd rfl (Or.inl rfl) pe_str)
  (pss_cons (ps_for (passes_of rfl) rfl (pi_listK (K := K) rfl (pv 0)) (pg_name (i := 3) sc.nd rfl (Or.inl rfl))
  (pss_cons (ps_if (pt_cmpR op_eq (pv 3) (pe_glob (v := .int (10)) rfl c_LINE_END ⟨_, rfl⟩) (nomark _))
    (pss_cons (ps_expr (pe_bmK (K := K) rfl PySem.F.plainAttrs_list PySem.F.slot_list_append PySem.F.type_list_append mt_append (pv 1) (pa_cons (pv 2) pa_nil)))
      (pss_one (ps_set (i := 2) sc.nd rfl (Or.inl rfl) pe_str)))
    (pss_one (ps_aug (i := 2) sc.nd rfl (Or.inl rfl) (pe_dS K_letter_of hr (by first | decide | omega) rfl (takes_of rfl rfl rfl rfl) (pa_cons (pv 3) pa_nil)) iop_add_str)))
    (pss_one (ps_if (PW.pt (pw_or (pt_cmpR op_gt (pe_callB call_len_str rfl T.b_len boot_len (pa_cons (pv 2) pa_nil)) (pe_glob (v := .int (16)) rfl c_LETTERS_AT_MOST_texts ⟨_, rfl⟩) (nomark _)) (pw_or1 (pt_cmpR op_gt (pe_callB (call_len_seqK (K := K) rfl) rfl T.b_len boot_len (pa_cons (pv 1) pa_nil)) (pe_glob (v := .int (24)) rfl c_LINES_AT_MOST_texts ⟨_, rfl⟩) (nomark _)))))
    (pss_one (ps_raise rfl (takes_of rfl rfl rfl rfl) (pmk_own PySem.F.excBase_ValueError x_NotAText.1 T.g_NotAText x_NotAText.2.1 (raises_own x_NotAText.2.2.1 x_NotAText.2.2.2) (by exact rfl))))
    pss_nil))))
  (pss_cons (ps_if (pt_truthK (K := K) rfl (pv 2) (fun _ => rfl))
  (pss_one (ps_raise rfl (takes_of rfl rfl rfl rfl) (pmk_own PySem.F.excBase_ValueError x_NotAText.1 T.g_NotAText x_NotAText.2.1 (raises_own x_NotAText.2.2.1 x_NotAText.2.2.2) (by exact rfl))))
  pss_nil)
  (pss_one (ps_ret (pv 1))))))), ?_⟩
  obtain ⟨a, bs, rfl, ha, hz, k1, k2⟩ := h
  refine ⟨small (m := 10) (by decide), fun p hp => ?_⟩
  have s0 := Same.new (o := HO.lst []) hp
  have em : Str.ofString "" = sOf [] := by decide +kernel
  refine ⟨_, rfl, a, rfl, ⟨_, s0.seq ha⟩, for_list (K := K) (a := a) (xs := bV bs) (fun i σ H' => ∃ (ls : List Ln) (l : Ln) (v : Option V), σ = [some (.ref a), some (.ref p), some (vS l), v] ∧ Same H H' ∧ H' p = some (.lst (tS ls)) ∧
      goText (bs.drop i) ls l = Vaseda.readText bs ∧ l.length ≤ 16 ∧ ls.length ≤ 24)
    ⟨[], [], none, by rw [em]; rfl, s0, upd_same, by rw [← goText_all]; rfl, by simp, by simp⟩ (fun i σ H' _ ⟨_, _, _, _, s5, _⟩ => s5.seq ha) ?_ ?_⟩
  · rintro i y σ H' hi ⟨ls, l, v, rfl, s5, h5, g5, hl, hls⟩
    obtain ⟨c, hc, rfl⟩ := bV_get hi
    have hdrop : bs.drop i = c :: bs.drop (i + 1) := by
      have hlt := get_lt hc
      rw [List.drop_eq_getElem_cons hlt]
      congr 1
      exact (List.getElem?_eq_some_iff.mp hc).2
    rw [hdrop] at g5
    refine ⟨_, rfl, rfl, _, rfl, ite2 (fun d => ?_) fun d => ?_⟩
    · have d1 : c = 10 := by
        have : V.int (c.toNat : Int) = V.int 10 := of_decide_eq_true d
        have h2 : (c.toNat : Int) = 10 := V.int.inj this
        exact UInt8.toNat_inj.mp (by show c.toNat = 10; omega)
      subst d1
      have e1 : goText (10 :: bs.drop (i + 1)) ls l = if 24 < ls.length + 1 then none else goText (bs.drop (i + 1)) (ls ++ [l]) [] := by simp [goText]
      rw [e1] at g5
      refine ⟨_, rfl, .inl ⟨rfl, _, SqL.of h5⟩, _, rfl, p, _, _, rfl, rfl, h5, smallLt (m := 1000) (by rw [tS_len]; omega), ?_⟩
      have s6 : Same H (upd H' p (.lst (tS (ls ++ [l])))) := Same.put s5 hp
      rw [show tS ls ++ [vS l] = tS (ls ++ [l]) by rw [tS_app]; rfl, em]
      refine ⟨_, rfl, _, rfl, small (m := 10) (by rw [sOf_len]; decide), _, _, rfl, rfl, _, rfl, ite2 (fun d => ?_) fun _ => ?_⟩
      · exact absurd (of_decide_eq_true d) (by rw [sOf_len]; decide)
      · refine ⟨_, rfl, _, _, rfl, .inl (SqL.of upd_same), _, _, rfl, rfl, _, rfl, ite2 (fun d => ?_) fun d => ?_⟩
        · have d1 : (24 : Int) < ((tS (ls ++ [l])).length : Int) := of_decide_eq_true d
          rw [tS_len, List.length_append, List.length_singleton] at d1
          rw [if_pos (by omega)] at g5
          exact k1 g5.symm _ s6
        · have d1 : ¬ (24 : Int) < ((tS (ls ++ [l])).length : Int) := fun h => d (decide_eq_true h)
          rw [tS_len, List.length_append, List.length_singleton] at d1
          rw [if_neg (by omega)] at g5
          exact ⟨_, _, _, rfl, s6, upd_same, g5, by simp, by simp; omega⟩
    · have d1 : ¬ c = 10 := fun e => by
        subst e
        exact d (decide_eq_true rfl)
      refine ⟨vS l, rfl, _, rfl, (c.toNat : Int), rfl, fun hn => ?_, fun hy => ?_⟩
      · have hc1 : ¬ VasedBase.isLetter c = true := fun h => hn ((letter_iff c).mp h)
        have e1 : goText (c :: bs.drop (i + 1)) ls l = none := by simp [goText, d1, hc1]
        rw [e1] at g5
        exact k1 g5.symm _ s5
      · have hc1 : VasedBase.isLetter c = true := (letter_iff c).mpr hy
        have e1 : goText (c :: bs.drop (i + 1)) ls l = if 16 < l.length + 1 then none else goText (bs.drop (i + 1)) ls (l ++ [c]) := by simp [goText, d1, hc1]
        rw [e1] at g5
        have e2 : sOf l ++ ⟨#[((c.toNat : Nat) : Int).toNat]⟩ = sOf (l ++ [c]) := by
          rw [← sOf_app]
          rfl
        refine ⟨_, _, rfl, rfl, small (m := 1000) (by rw [sOf_len]; show l.length + 1 ≤ 1000; omega), ?_⟩
        rw [e2]
        refine ⟨_, rfl, _, rfl, small (m := 1000) (by rw [sOf_len]; simp; omega), _, _, rfl, rfl, _, rfl, ite2 (fun d => ?_) fun d => ?_⟩
        · have d1 : (16 : Int) < ((sOf (l ++ [c])).length : Int) := of_decide_eq_true d
          rw [sOf_len, List.length_append, List.length_singleton] at d1
          rw [if_pos (by omega)] at g5
          exact k1 g5.symm _ s5
        · have d2 : ¬ (16 : Int) < ((sOf (l ++ [c])).length : Int) := fun h => d (decide_eq_true h)
          rw [sOf_len, List.length_append, List.length_singleton] at d2
          rw [if_neg (by omega)] at g5
          refine ⟨_, rfl, _, _, rfl, .inl (SqL.of h5), _, _, rfl, rfl, _, rfl, ite2 (fun d => ?_) fun _ => ?_⟩
          · have d3 : (24 : Int) < ((tS ls).length : Int) := of_decide_eq_true d
            rw [tS_len] at d3
            omega
          · exact ⟨_, _, _, rfl, s5, h5, g5, by simp; omega, hls⟩
  · rintro σ H' ⟨ls, l, v, rfl, s5, h5, g5, hl, hls⟩
    have hbl : (bV bs).length = bs.length := by simp [bV]
    rw [hbl, List.drop_length] at g5
    cases l with
    | nil =>
      have g6 : some ls = Vaseda.readText bs := by simpa [goText] using g5
      refine ⟨_, rfl, false, ?_, ?_⟩
      · exact ⟨small (m := 10) (by rw [sOf_len]; decide), rfl⟩
      · exact ⟨_, rfl, k2 ls g6.symm p H' hp s5 h5⟩
    | cons c l =>
      have g6 : none = Vaseda.readText bs := by simpa [goText] using g5
      refine ⟨_, rfl, true, ?_, ?_⟩
      · refine ⟨small (m := 20) (by rw [sOf_len]; omega), ?_⟩
        rw [sOf_len]
        show true = (((l.length + 1 : Nat) : Int) != 0)
        symm
        rw [bne_iff_ne]
        omega
      · exact k1 g6.symm _ s5
end
end Ls
set_option Elab.async false
set_option linter.all false
set_option maxRecDepth 100000
set_option maxHeartbeats 4000000
/-! scripts: Command, told_address, told_deed, told_command, one_form, told_script -/
namespace Ls
open PySem PySem.Spec PyProof.Rows L2
/-! ### mathematics: words with a blank between -/
/-- a value of a tuple as a word -/
def wordOf : V → Str
  | .str x => x
  | .int i => Str.ofString (toString i)
  | _ => Str.ofString ""
/-- may be made a word -/
def wordy : V → Prop
  | .str x => x.length ≤ 100
  | .int i => 0 ≤ i ∧ i < 100
  | _ => False
theorem num_len (n : Nat) (h : n < 100) : (VasedBase.showNat n).length ≤ 2 := by
  have : ∀ n : Fin 100, (VasedBase.showNat n.val).length ≤ 2 := by decide +kernel
  exact this ⟨n, h⟩
theorem wordOf_len : ∀ {v : V}, wordy v → (wordOf v).length ≤ 100
  | .str x, h => h
  | .int i, h => by
    obtain ⟨n, rfl⟩ : ∃ n : Nat, i = n := ⟨i.toNat, by have := h.1; omega⟩
    have h2 : n < 100 := by have := h.2; omega
    show (Str.ofString (toString (n : Int))).length ≤ 100
    rw [num_text n h2, sOf_len]
    have := num_len n h2
    omega
theorem join1 (a : Str) : Txt.join (Str.ofString " ") [a] = a := by rw [TL.join_eq]; rfl
theorem join2 (a b : Str) : Txt.join (Str.ofString " ") [a, b] = a ++ Str.ofString " " ++ b := by rw [TL.join_eq]; rfl
theorem join3 (a b c : Str) : Txt.join (Str.ofString " ") [a, b, c] = a ++ Str.ofString " " ++ (b ++ Str.ofString " " ++ c) := by rw [TL.join_eq]; rfl
/-- an address's tuple as its words -/
theorem showAddr_len : ∀ (a : VAddr), okA a → (Vaseda.showAddr a).length ≤ 110 + 4 * nots a
  | .all, _ => by show (VasedBase.word "all").length ≤ _; have : (VasedBase.word "all").length = 3 := by decide +kernel
                  omega
  | .last, _ => by show (VasedBase.word "last").length ≤ _; have : (VasedBase.word "last").length = 4 := by decide +kernel
                   omega
  | .line n, h => by
    show (VasedBase.word "line " ++ VasedBase.showNat n).length ≤ _
    have : (VasedBase.word "line ").length = 5 := by decide +kernel
    have := num_len n h
    rw [List.length_append]; omega
  | .span _ _, h => h.elim
  | .has w, h => by
    show (VasedBase.word "has " ++ w).length ≤ _
    have : (VasedBase.word "has ").length = 4 := by decide +kernel
    have h : w.length ≤ 100 := h
    rw [List.length_append]; omega
  | .is_ w, h => by
    show (VasedBase.word "is " ++ w).length ≤ _
    have : (VasedBase.word "is ").length = 3 := by decide +kernel
    have h : w.length ≤ 100 := h
    rw [List.length_append]; omega
  | .not a, h => by
    show (VasedBase.word "not " ++ Vaseda.showAddr a).length ≤ _
    have : (VasedBase.word "not ").length = 4 := by decide +kernel
    have := showAddr_len a h
    rw [List.length_append]; simp only [nots]; omega
/-! deeds as words -/
def dWords : VDeed → List Ln
  | .delete => [VasedBase.word "delete"]
  | .before w => [VasedBase.word "before", w]
  | .after w => [VasedBase.word "after", w]
  | .change w => [VasedBase.word "change", w]
  | .swap a b => [VasedBase.word "swap", a, b]
  | _ => []
theorem dItems_eq : ∀ {d : VDeed}, okD d → dItems d = tS (dWords d)
  | .delete, _ => by decide +kernel
  | .before w, _ => congrArg (· :: [vS w]) (show V.str (Str.ofString "before") = vS (VasedBase.word "before") by decide +kernel)
  | .after w, _ => congrArg (· :: [vS w]) (show V.str (Str.ofString "after") = vS (VasedBase.word "after") by decide +kernel)
  | .change w, _ => congrArg (· :: [vS w]) (show V.str (Str.ofString "change") = vS (VasedBase.word "change") by decide +kernel)
  | .swap a b, _ => congrArg (· :: [vS a, vS b]) (show V.str (Str.ofString "swap") = vS (VasedBase.word "swap") by decide +kernel)
theorem dWords_len : ∀ {d : VDeed}, okD d → (dWords d).length ≤ 3 ∧ ∀ x ∈ dWords d, x.length ≤ 100
  | .delete, _ => ⟨by simp [dWords], by simp only [dWords, List.mem_singleton]; rintro x rfl; decide +kernel⟩
  | .before w, h => ⟨by simp [dWords], by simp only [dWords, List.mem_cons, List.not_mem_nil, or_false]; rintro x (rfl | rfl); decide +kernel; exact h.1⟩
  | .after w, h => ⟨by simp [dWords], by simp only [dWords, List.mem_cons, List.not_mem_nil, or_false]; rintro x (rfl | rfl); decide +kernel; exact h.1⟩
  | .change w, h => ⟨by simp [dWords], by simp only [dWords, List.mem_cons, List.not_mem_nil, or_false]; rintro x (rfl | rfl); decide +kernel; exact h.1⟩
  | .swap a b, h => ⟨by simp [dWords], by simp only [dWords, List.mem_cons, List.not_mem_nil, or_false]; rintro x (rfl | rfl | rfl); decide +kernel; exact h.1.1; exact h.2⟩
theorem instead_some {w : Ln} (h : w ≠ []) : Vaseda.instead w = w := by
  cases w with
  | nil => exact absurd rfl h
  | cons _ _ => rfl
theorem instead_len (w : Ln) : (Vaseda.instead w).length ≤ w.length + 4 := by
  cases w with
  | nil => show (VasedBase.word "none").length ≤ _; have : (VasedBase.word "none").length = 4 := by decide +kernel
           omega
  | cons _ _ => show List.length (_ :: _) ≤ _; omega
theorem showDeed_eq : ∀ {d : VDeed}, okD d → Txt.join (Str.ofString " ") (((dWords d).map Vaseda.instead).map sOf) = sOf (Vaseda.showDeed d)
  | .delete, _ => by
    show Txt.join _ [sOf (Vaseda.instead (VasedBase.word "delete"))] = _
    rw [join1]; decide +kernel
  | .before w, h => by
    show Txt.join _ [sOf (Vaseda.instead (VasedBase.word "before")), sOf (Vaseda.instead w)] = sOf (VasedBase.word "before " ++ w)
    rw [join2, instead_some h.2, ← sOf_app]
    congr 1
  | .after w, h => by
    show Txt.join _ [sOf (Vaseda.instead (VasedBase.word "after")), sOf (Vaseda.instead w)] = sOf (VasedBase.word "after " ++ w)
    rw [join2, instead_some h.2, ← sOf_app]
    congr 1
  | .change w, h => by
    show Txt.join _ [sOf (Vaseda.instead (VasedBase.word "change")), sOf (Vaseda.instead w)] = sOf (VasedBase.word "change " ++ w)
    rw [join2, instead_some h.2, ← sOf_app]
    congr 1
  | .swap a b, h => by
    show Txt.join _ [sOf (Vaseda.instead (VasedBase.word "swap")), sOf (Vaseda.instead a), sOf (Vaseda.instead b)] = sOf (VasedBase.word "swap " ++ (a ++ (VasedBase.word " " ++ Vaseda.instead b)))
    have e1 : sOf (Vaseda.instead (VasedBase.word "swap")) ++ Str.ofString " " = sOf (VasedBase.word "swap ") := by decide +kernel
    rw [join3, instead_some h.1.2, e1, w_sp, sOf_app, sOf_app, sOf_app]
    simp only [List.append_assoc]
theorem showDeed_len {d : VDeed} (h : okD d) : (Vaseda.showDeed d).length ≤ 300 := by
  cases d with
  | delete => decide +kernel
  | before w => show (VasedBase.word "before " ++ w).length ≤ 300; have : (VasedBase.word "before ").length = 7 := by decide +kernel
                have := h.1; rw [List.length_append]; omega
  | after w => show (VasedBase.word "after " ++ w).length ≤ 300; have : (VasedBase.word "after ").length = 6 := by decide +kernel
               have := h.1; rw [List.length_append]; omega
  | change w => show (VasedBase.word "change " ++ w).length ≤ 300; have : (VasedBase.word "change ").length = 7 := by decide +kernel
                have := h.1; rw [List.length_append]; omega
  | swap a b =>
    show (VasedBase.word "swap " ++ (a ++ (VasedBase.word " " ++ Vaseda.instead b))).length ≤ 300
    have : (VasedBase.word "swap ").length = 5 := by decide +kernel
    have : (VasedBase.word " ").length = 1 := by decide +kernel
    have := instead_len b
    have := h.1.1
    have := h.2
    simp only [List.length_append]; omega
  | _ => exact h.elim
/-! ### an address as data -/
def dA : VAddr → PyData
  | .all => .tuple [.str "all"]
  | .last => .tuple [.str "last"]
  | .line n => .tuple [.str "line", .int n]
  | .span a b => .tuple [.str "from", .int a, .str "to", .int b]
  | .has w => .tuple [.str "has", .str (sOf w)]
  | .is_ w => .tuple [.str "is", .str (sOf w)]
  | .not a => .tuple [.str "not", dA a]
theorem dp_A {H : Hp} {K : PySem.W.Frag} : ∀ {a : VAddr} {v : V}, RepA H v a → Dp K H v (dA a)
  | .all, _, ⟨p, rfl, h⟩ => .tup (SqT.of h) (.cons (.str _) .nil)
  | .last, _, ⟨p, rfl, h⟩ => .tup (SqT.of h) (.cons (.str _) .nil)
  | .line _, _, ⟨p, rfl, h⟩ => .tup (SqT.of h) (.cons (.str _) (.cons (.int _) .nil))
  | .span _ _, _, ⟨p, rfl, h⟩ => .tup (SqT.of h) (.cons (.str _) (.cons (.int _) (.cons (.str _) (.cons (.int _) .nil))))
  | .has _, _, ⟨p, rfl, h⟩ => .tup (SqT.of h) (.cons (.str _) (.cons (.str _) .nil))
  | .is_ _, _, ⟨p, rfl, h⟩ => .tup (SqT.of h) (.cons (.str _) (.cons (.str _) .nil))
  | .not _, _, ⟨p, u, rfl, h, r⟩ => .tup (SqT.of h) (.cons (.str _) (.cons (dp_A r) .nil))
theorem strOk_sOf (x : Ln) : PyData.strOk (sOf x) = true := by
  unfold PyData.strOk sOf
  rw [Array.all_eq_true]
  intro i hi
  have h : (x.map UInt8.toNat).toArray[i] = (x.map UInt8.toNat)[i]'(by simpa using hi) := rfl
  rw [h, List.getElem_map]
  have := (x[i]'(by simpa using hi)).toNat_lt
  exact decide_eq_true (by omega)
theorem dA_can : ∀ a : VAddr, (dA a).canLay0 = true
  | .all => by decide +kernel
  | .last => by decide +kernel
  | .line n => by simp only [dA, PyData.canLay0, PyData.canLayAll0, Bool.and_true]; decide +kernel
  | .span a b => by simp only [dA, PyData.canLay0, PyData.canLayAll0, Bool.and_true]; decide +kernel
  | .has w => by simp only [dA, PyData.canLay0, PyData.canLayAll0, Bool.and_true]; rw [strOk_sOf]; decide +kernel
  | .is_ w => by simp only [dA, PyData.canLay0, PyData.canLayAll0, Bool.and_true]; rw [strOk_sOf]; decide +kernel
  | .not a => by simp only [dA, PyData.canLay0, PyData.canLayAll0, Bool.and_true, dA_can a]; decide +kernel
theorem dA_depth : ∀ a : VAddr, (dA a).depth = nots a + 1
  | .all => rfl
  | .last => rfl
  | .line n => rfl
  | .span a b => rfl
  | .has w => rfl
  | .is_ w => rfl
  | .not a => by
    have := dA_depth a
    simp only [dA, PyData.depth, PyData.depthAll, nots, this]
    omega
theorem dA_shaped {a : VAddr} (h : nots a ≤ 5) : SeqAt.shaped (dA a) = true := by
  unfold SeqAt.shaped
  rw [dA_can, dA_depth, Bool.true_and]
  exact decide_eq_true (by omega)
theorem dA_all (a : VAddr) : PyData.eqv (dA a) (.tuple [.str "all"]) = decide (a = .all) := by
  have e : ∀ x : String, (Str.ofString x == Str.ofString "all") = false → PyData.eqv (.tuple [.str x]) (.tuple [.str "all"]) = false := fun x h => by
    simp [PyData.eqv, PyData.eqvAll, h]
  cases a with
  | all => rw [decide_eq_true rfl]; decide +kernel
  | last => rw [decide_eq_false (by simp)]; exact e "last" (by decide +kernel)
  | _ => rw [decide_eq_false (by simp)]; simp [dA, PyData.eqv, PyData.eqvAll]
theorem lk_here {k : Str} {v : V} {r : List (Str × V)} : List.lookup k ((k, v) :: r) = some v := by
  simp [List.lookup]
theorem lk_past {k g : Str} {v : V} {r : List (Str × V)} (h : (k == g) = false) : List.lookup k ((g, v) :: r) = List.lookup k r := by
  simp only [List.lookup, h]
theorem cmd_a (va vd : V) : List.lookup (Str.ofString "address") [(Str.ofString "address", va), (Str.ofString "deed", vd)] = some va := lk_here
theorem cmd_d (va vd : V) : List.lookup (Str.ofString "deed") [(Str.ofString "address", va), (Str.ofString "deed", vd)] = some vd := (lk_past (by decide +kernel)).trans lk_here
/-! ### promises -/
def spCommandInit (K : PySem.W.Frag) : Sp := fun vs H Q _ => ∃ (p dx : Addr) (va vd : V), vs = [.ref p, va, vd] ∧ H p = some (.ins (He.ga K "Command") dx []) ∧
  Q .non (upd H p (.ins (He.ga K "Command") dx [("address", va), ("deed", vd)]))
def spToldAddr (d : Nat) : Sp := fun vs H Q _ => ∃ (v : V) (a : VAddr), vs = [v] ∧ RepA H v a ∧ nots a ≤ d ∧ d ≤ 5 ∧ okA a ∧ ∀ H', Same H H' → Q (vS (Vaseda.showAddr a)) H'
def spToldDeed : Sp := fun vs H Q _ => ∃ (v : V) (d : VDeed), vs = [v] ∧ RepD H v d ∧ okD d ∧ ∀ H', Same H H' → Q (vS (Vaseda.showDeed d)) H'
def spToldCmd (K : PySem.W.Frag) : Sp := fun vs H Q _ => ∃ (v : V) (c : VCmd), vs = [v] ∧ RepC K H v c ∧ okC c ∧ ∀ H', Same H H' → Q (vS (Vaseda.showCmd c)) H'
def spOneForm (K : PySem.W.Frag) : Sp := fun vs H Q _ => ∃ (a : Addr) (s : List VCmd), vs = [.ref a] ∧ RepS K H a s ∧ (∀ c ∈ s, okC c) ∧ s.length ≤ 20 ∧ ∀ H', Same H H' → Q (vS (Vaseda.shown s)) H'
def spToldScript (K : PySem.W.Frag) : Sp := fun vs H Q _ => ∃ (a : Addr) (s : List VCmd), vs = [.ref a] ∧ RepS K H a s ∧ (∀ c ∈ s, okC c) ∧ s.length ≤ 20 ∧ NewL (iV (VasedBase.textRow (Vaseda.shown s))) H Q
section
variable {P : Program} {w : World} {K : PySem.W.Frag} {mg : Str → Option Value} {base : Heap}
theorem sc_Command___init__ : FnScope ["self", "address", "deed"] ["self", "address", "deed"] (defScope s_Command___init__) := ⟨rfl, rfl, rfl, by decide +kernel, rfl, by decide +kernel, by decide +kernel⟩
theorem ok_Command (T : Txt K mg) : COk P w K mg base 1 "Command" (He.ga K "Command") (spCommandInit K) := by
  obtain ⟨fd, F⟩ := T.f_Command___init__
  have sc := sc_Command___init__
  refine cok F T.m_Command T.g_Command (fun _ _ _ _ _ _ us hl => match us, hl with | [_, _, _], _ => rfl) sc (fun vs H Q E h => by obtain ⟨_, _, _, _, rfl, _⟩ := h; rfl) (fun cdv A outer s H vs Q E hr h => ?_)
  refine ⟨_, PSs.nox (pss_cons (ps_fldK (K := K) rfl (pv 0) (pv 1) rfl)
  (pss_one (ps_fldK (K := K) rfl (pv 0) (pv 2) rfl))), ?_⟩
  obtain ⟨p, dx, va, vd, rfl, hp, k⟩ := h
  refine ⟨_, rfl, _, rfl, p, _, dx, _, rfl, hp, T.c_Command, T.n_Command_address, by show 0 < 1000; decide, ?_⟩
  refine ⟨_, rfl, _, rfl, p, _, dx, _, rfl, upd_same, T.c_Command, T.n_Command_deed, by show 1 < 1000; decide, ?_⟩
  rw [upd_upd]
  exact k
theorem sc_told_address : FnScope ["address", "word"] ["address"] (defScope s_told_address) := ⟨rfl, rfl, rfl, by decide +kernel, rfl, by decide +kernel, by decide +kernel⟩
theorem told_address_core (T : Txt K mg) (d : Nat) {sp : Sp} (K_told_address : DOk P w K mg base CX0 d "told_address" sp) (imp : ∀ vs H Q, 1 ≤ d → spToldAddr (d - 1) vs H Q E0 → sp vs H Q E0) :
    DOk P w K mg base CX0 (d + 1) "told_address" (spToldAddr d) := by
  obtain ⟨fd, F⟩ := T.f_told_address
  have sc := sc_told_address
  refine dok F T.g_told_address (fun _ _ _ _ _ _ us hl => match us, hl with | [_], _ => rfl) sc (fun vs H Q E h => by obtain ⟨_, _, rfl, _⟩ := h; rfl) (fun cdv A outer s H vs Q E hr h => ?_)
  have hu64 := units_of hr
  refine ⟨_, PSs.nox (pss_cons (ps_if (pt_cmpR op_eq (pe_ix (ix_tupK (K := K) rfl) (pv 0) pe_int (fun _ _ => rfl)) pe_str (nomark _))
  (pss_one (ps_ret (pe_op op_add_str pe_str (pe_d K_told_address hr (by first | decide | omega) rfl (pa_cons (pe_ix (ix_tupK (K := K) rfl) (pv 0) pe_int (fun _ _ => rfl)) pa_nil)))))
  pss_nil)
  (pss_one (ps_ret (pe_joinK (K := K) rfl pe_str (pe_lc (own := [("word", 1)]) rfl sc.nd (pi_tupK (K := K) rfl (pv 0)) (blkOk_by (N := ["address", "word"]) (sc := defScope s_told_address) (by decide +kernel)) (fun _ _ _ _ _ => (pg_name (i := 1) sc.nd rfl (Or.inl rfl))) (fun _ _ _ _ _ => pts_nil) (fun _ _ _ _ _ => (pe_callTy (CallR.or SkE.call_str_str call_str_int) rfl T.b_str boot_str (pa_cons (pv 1) pa_nil)))))))), ?_⟩
  obtain ⟨v, a, rfl, ha, hn, hd, hk, k⟩ := h
  by_cases hnot : ∃ b, a = .not b
  · obtain ⟨b, rfl⟩ := hnot
    obtain ⟨p, u, rfl, hp, hu⟩ := ha
    have hb : nots b + 1 ≤ d := hn
    refine ⟨_, rfl, p, _, ((0 : Nat) : Int), _, rfl, rfl, SqT.of hp, atI_at rfl, rfl, _, rfl, ?_⟩
    refine ⟨_, rfl, p, _, ((1 : Nat) : Int), _, rfl, rfl, SqT.of hp, atI_at rfl, ?_⟩
    refine imp _ _ _ (by omega) ⟨u, b, rfl, hu, by omega, by omega, hk, fun H' s' => ?_⟩
    have hl := showAddr_len b hk
    refine ⟨_, _, rfl, rfl, small (m := 1000) (by rw [sOf_len]; have : (Str.ofString "not ").length = 4 := by decide +kernel
                                                  omega), ?_⟩
    have e : Str.ofString "not " ++ sOf (Vaseda.showAddr b) = sOf (Vaseda.showAddr (.not b)) := by
      have e1 : Str.ofString "not " = sOf (VasedBase.word "not ") := by decide +kernel
      rw [e1, sOf_app]
      rfl
    rw [e]
    exact k _ s'
  · have plain : ∀ (p : Addr) (x0 : Str) (rest : List V), v = .ref p → H p = some (.tup (.str x0 :: rest)) → decide (V.str x0 = V.str (Str.ofString "not")) = false → (∀ y ∈ V.str x0 :: rest, wordy y) → rest.length ≤ 3 →
        Txt.join (Str.ofString " ") ((V.str x0 :: rest).map wordOf) = sOf (Vaseda.showAddr a) → tSeq (tIfS (tTest (tOp rEq (tOp (rIxT K) (tVar 0) (tC (V.int 0))) (tC (V.str (Str.ofString "not"))))) (tRet (tOp (fun x y H Q => ∃ i j, x = V.str i ∧ y = V.str j ∧ i.length + j.length ≤ sizeLine ∧ Q (V.str (i ++ j)) H) (tC (V.str (Str.ofString "not "))) (tCall sp [] E0 (tCons (tOp (rIxT K) (tVar 0) (tC (V.int 1))) tNil)))) tNext)
          (tRet (tM1 (fun x xs H_1 Q => ∃ a p, ∃ ys : List Str, x = V.str a ∧ xs = [V.ref p] ∧ (SqL K H_1 p (List.map V.str ys) ∨ SqT K H_1 p (List.map V.str ys)) ∧ (List.map (fun x => x.length) ys).sum + ys.length * a.length ≤ 16777216 ∧ Q (V.str (Txt.join a ys)) H_1) (tC (V.str (Str.ofString " ")))
            (tLc (iTup K (tVar 0)) (gName 1) tYes (tCB (fun xs H Q => (∃ a, xs = [V.str a] ∧ Q (V.str a) H) ∨ ∃ i : Int, xs = [V.int i] ∧ i.natAbs.log2 < 1920 ∧ Q (V.str (Str.ofString (toString i))) H) (tCons (tVar 1) tNil)) [1])))
          { nx := fun x H' => Q V.non H', rt := Q } (L2.start [Str.ofString "address", Str.ofString "word"] [v]) H := by
      rintro p x0 rest rfl h0 hne hw hl hj
      refine ⟨_, rfl, p, _, ((0 : Nat) : Int), _, rfl, rfl, SqT.of h0, atI_at rfl, rfl, _, rfl, ite2 (fun e => absurd e (by rw [hne]; decide)) fun _ => ?_⟩
      refine ⟨⟨_, rfl⟩, _, rfl, p, rfl, ⟨_, SqT.of h0⟩, fun D hD => ?_⟩
      have hxl : ((V.str x0 :: rest).map wordOf).length ≤ 4 := by simp; omega
      refine lc_it (walk_tup (xs := V.str x0 :: rest)) (fun i H' => Same H H' ∧ H' D = some (.lst (((((V.str x0 :: rest).map wordOf).take i)).map V.str))) ⟨Same.new hD, upd_same⟩ (fun i H1 _ ⟨s1, _⟩ => SqT.of (s1 _ _ h0)) ?_ ?_
      · rintro i y H1 H2 hi ⟨s1, h1⟩ ⟨rfl, hy⟩
        have hwy := hw y (List.mem_of_getElem? hy)
        have hm : ((V.str x0 :: rest).map wordOf)[i]? = some (wordOf y) := by rw [List.getElem?_map, hy]; rfl
        have fin : ∃ acc, H2 D = some (.lst acc) ∧ acc.length < sizeLine ∧ Same H (upd H2 D (.lst (acc ++ [V.str (wordOf y)]))) ∧ upd H2 D (.lst (acc ++ [V.str (wordOf y)])) D = some (.lst (((((V.str x0 :: rest).map wordOf).take (i + 1))).map V.str)) := by
          refine ⟨_, h1, smallLt (m := 100) (by rw [List.length_map, List.length_take]; omega), Same.put s1 hD, ?_⟩
          rw [upd_same, take_more hm, List.map_append]
          rfl
        cases y with
        | str x => exact ⟨rfl, _, rfl, .inl ⟨x, rfl, fin⟩⟩
        | int j =>
          refine ⟨rfl, _, rfl, .inr ⟨j, rfl, ?_, fin⟩⟩
          have h5 : j.natAbs < 100 := by have h6 : 0 ≤ j ∧ j < 100 := hwy; omega
          have h7 : ∀ n : Fin 100, n.val.log2 < 1920 := by decide +kernel
          exact h7 ⟨_, h5⟩
        | _ => exact hwy.elim
      · rintro H1 ⟨s1, h1⟩
        rw [List.take_of_length_le (by rw [List.length_map]; exact Nat.le_refl _)] at h1
        refine ⟨_, D, (V.str x0 :: rest).map wordOf, rfl, rfl, .inl (SqL.of h1), ?_, ?_⟩
        · have h2 : ∀ l : List V, (∀ y ∈ l, wordy y) → ((l.map wordOf).map (·.length)).sum ≤ 100 * l.length := by
            intro l
            induction l with
            | nil => intro _; simp
            | cons y l ih =>
              intro hy
              have h3 := wordOf_len (hy y (List.mem_cons_self ..))
              have h4 := ih fun z hz => hy z (List.mem_cons_of_mem _ hz)
              simp only [List.map_cons, List.sum_cons, List.length_cons]
              omega
          have h3 := h2 _ hw
          have h4 : (Str.ofString " ").length = 1 := by decide +kernel
          rw [h4]
          simp only [List.length_cons, List.length_map] at h3 ⊢
          omega
        · rw [hj]
          exact k _ s1
    have ne : ∀ x : String, (Str.ofString x == Str.ofString "not") = false → decide (V.str (Str.ofString x) = V.str (Str.ofString "not")) = false := fun x h => decide_eq_false fun e => by
      have := V.str.inj e
      rw [this] at h
      simp at h
    cases a with
    | all =>
      obtain ⟨p, e, hp⟩ := ha
      exact plain p _ _ e hp (by decide +kernel) (by simp [wordy]; decide +kernel) (by decide) (by rw [show ([V.str (Str.ofString "all")].map wordOf) = [Str.ofString "all"] from rfl, join1]; decide +kernel)
    | last =>
      obtain ⟨p, e, hp⟩ := ha
      exact plain p _ _ e hp (by decide +kernel) (by simp [wordy]; decide +kernel) (by decide) (by rw [show ([V.str (Str.ofString "last")].map wordOf) = [Str.ofString "last"] from rfl, join1]; decide +kernel)
    | line n =>
      obtain ⟨p, e, hp⟩ := ha
      have hn : n < 100 := hk
      refine plain p _ _ e hp (by decide +kernel) ?_ (by simp) ?_
      · intro y hy
        simp only [List.mem_cons, List.not_mem_nil, or_false] at hy
        rcases hy with rfl | rfl
        · show _ ≤ 100; decide +kernel
        · show 0 ≤ (n : Int) ∧ (n : Int) < 100; omega
      · rw [show ([V.str (Str.ofString "line"), V.int (n : Int)].map wordOf) = [Str.ofString "line", Str.ofString (toString (n : Int))] from rfl, join2, num_text n hn]
        have e1 : Str.ofString "line" ++ Str.ofString " " = sOf (VasedBase.word "line ") := by decide +kernel
        rw [e1, sOf_app]
        rfl
    | span b c => exact hk.elim
    | has w =>
      obtain ⟨p, e, hp⟩ := ha
      have hn : w.length ≤ 100 := hk
      refine plain p _ _ e hp (by decide +kernel) ?_ (by simp) ?_
      · intro y hy
        simp only [List.mem_cons, List.not_mem_nil, or_false] at hy
        rcases hy with rfl | rfl
        · show _ ≤ 100; decide +kernel
        · show (sOf w).length ≤ 100; rw [sOf_len]; exact hn
      · rw [show ([V.str (Str.ofString "has"), vS w].map wordOf) = [Str.ofString "has", sOf w] from rfl, join2]
        have e1 : Str.ofString "has" ++ Str.ofString " " = sOf (VasedBase.word "has ") := by decide +kernel
        rw [e1, sOf_app]
        rfl
    | is_ w =>
      obtain ⟨p, e, hp⟩ := ha
      have hn : w.length ≤ 100 := hk
      refine plain p _ _ e hp (by decide +kernel) ?_ (by simp) ?_
      · intro y hy
        simp only [List.mem_cons, List.not_mem_nil, or_false] at hy
        rcases hy with rfl | rfl
        · show _ ≤ 100; decide +kernel
        · show (sOf w).length ≤ 100; rw [sOf_len]; exact hn
      · rw [show ([V.str (Str.ofString "is"), vS w].map wordOf) = [Str.ofString "is", sOf w] from rfl, join2]
        have e1 : Str.ofString "is" ++ Str.ofString " " = sOf (VasedBase.word "is ") := by decide +kernel
        rw [e1, sOf_app]
        rfl
    | not b => exact absurd ⟨b, rfl⟩ hnot
theorem ok_told_address (T : Txt K mg) (d : Nat) : DOk P w K mg base CX0 (d + 1) "told_address" (spToldAddr d) := by
  induction d with
  | zero =>
    obtain ⟨fd, F⟩ := T.f_told_address
    exact told_address_core T 0 (dok_never (ps := ["address"]) F T.g_told_address (fun _ _ _ _ _ _ us hl => match us, hl with | [_], _ => rfl)) fun _ _ _ h _ => absurd h (by omega)
  | succ d ih => exact told_address_core T (d + 1) ih fun _ _ _ _ h => h
theorem sc_told_deed : FnScope ["deed", "word"] ["deed"] (defScope s_told_deed) := ⟨rfl, rfl, rfl, by decide +kernel, rfl, by decide +kernel, by decide +kernel⟩
theorem ok_told_deed (T : Txt K mg) : DOk P w K mg base CX0 1 "told_deed" spToldDeed := by
  obtain ⟨fd, F⟩ := T.f_told_deed
  have sc := sc_told_deed
  refine dok F T.g_told_deed (fun _ _ _ _ _ _ us hl => match us, hl with | [_], _ => rfl) sc (fun vs H Q E h => by obtain ⟨_, _, rfl, _⟩ := h; rfl) (fun cdv A outer s H vs Q E hr h => ?_)
  refine ⟨_, PSs.nox (pss_one (ps_ret (pe_joinK (K := K) rfl pe_str (pe_lc (own := [("word", 1)]) rfl sc.nd (pi_tupK (K := K) rfl (pv 0)) (blkOk_by (N := ["deed", "word"]) (sc := defScope s_told_deed) (by decide +kernel)) (fun _ _ _ _ _ => (pg_name (i := 1) sc.nd rfl (Or.inl rfl))) (fun _ _ _ _ _ => pts_nil) (fun _ _ _ _ _ => (pe_orTK (K := K) rfl (pe_callTy SkE.call_str_str rfl T.b_str boot_str (pa_cons (pv 1) pa_nil)) (pe_one pe_str))))))), ?_⟩
  obtain ⟨v, d, rfl, hv, hd, k⟩ := h
  obtain ⟨p, rfl⟩ : ∃ p, v = .ref p := let ⟨p, e, _⟩ := hv; ⟨p, e⟩
  have sq : ∀ H1, Same H H1 → SqT K H1 p (tS (dWords d)) := fun H1 s1 => dItems_eq hd ▸ (hv.mono (Same.tups s1)).sqt
  obtain ⟨hl, hm⟩ := dWords_len hd
  refine ⟨⟨_, rfl⟩, _, rfl, p, rfl, ⟨_, sq H (Same.refl _)⟩, fun D hD => ?_⟩
  refine lc_it (walk_tup (xs := tS (dWords d))) (fun i H' => Same H H' ∧ H' D = some (.lst (tS (((dWords d).map Vaseda.instead).take i)))) ⟨Same.new hD, upd_same⟩ (fun i H1 _ ⟨s1, _⟩ => sq H1 s1) ?_ ?_
  · rintro i y H1 H2 hi ⟨s1, h1⟩ ⟨rfl, hy⟩
    obtain ⟨x, hx, rfl⟩ := tS_get hy
    have hxl := hm x (List.mem_of_getElem? hx)
    have hm2 : ((dWords d).map Vaseda.instead)[i]? = some (Vaseda.instead x) := by rw [List.getElem?_map, hx]; rfl
    have fin : ∃ acc, H2 D = some (.lst acc) ∧ acc.length < sizeLine ∧ Same H (upd H2 D (.lst (acc ++ [vS (Vaseda.instead x)]))) ∧ upd H2 D (.lst (acc ++ [vS (Vaseda.instead x)])) D = some (.lst (tS (((dWords d).map Vaseda.instead).take (i + 1)))) := by
      refine ⟨_, h1, smallLt (m := 100) (by rw [tS_len, List.length_take, List.length_map]; omega), Same.put s1 hD, ?_⟩
      rw [upd_same, take_more hm2, tS_app]
      rfl
    cases x with
    | nil =>
      refine ⟨rfl, _, rfl, _, rfl, false, ⟨small (m := 10) (by rw [sOf_len]; decide), rfl⟩, ?_⟩
      have e : V.str (Str.ofString "none") = vS (Vaseda.instead []) := by decide +kernel
      rw [← e] at fin
      exact fin
    | cons c l =>
      refine ⟨rfl, _, rfl, _, rfl, true, ⟨small (m := 200) (by rw [sOf_len]; omega), ?_⟩, fin⟩
      rw [sOf_len]
      show true = (((l.length + 1 : Nat) : Int) != 0)
      symm
      rw [bne_iff_ne]
      omega
  · rintro H1 ⟨s1, h1⟩
    rw [tS_len, List.take_of_length_le (by rw [List.length_map]; exact Nat.le_refl _)] at h1
    refine ⟨_, D, ((dWords d).map Vaseda.instead).map sOf, rfl, rfl, .inl (SqL.of (by rw [h1]; simp [tS, vS])), ?_, ?_⟩
    · have h2 : ∀ l : List Ln, (∀ x ∈ l, x.length ≤ 100) → (((l.map Vaseda.instead).map sOf).map (·.length)).sum ≤ 104 * l.length := by
        intro l
        induction l with
        | nil => intro _; simp
        | cons y l ih =>
          intro hy
          have h3 := hy y (List.mem_cons_self ..)
          have h5 := instead_len y
          have h4 := ih fun z hz => hy z (List.mem_cons_of_mem _ hz)
          simp only [List.map_cons, List.sum_cons, List.length_cons, sOf_len]
          omega
      have h3 := h2 _ hm
      have h4 : (Str.ofString " ").length = 1 := by decide +kernel
      rw [h4]
      simp only [List.length_map] at h3 ⊢
      omega
    · rw [showDeed_eq hd]
      exact k _ s1
theorem sc_told_command : FnScope ["command", "deed", "address"] ["command"] (defScope s_told_command) := ⟨rfl, rfl, rfl, by decide +kernel, rfl, by decide +kernel, by decide +kernel⟩
theorem ok_told_command (T : Txt K mg) : DOk P w K mg base CX0 3 "told_command" (spToldCmd K) := by
  obtain ⟨fd, F⟩ := T.f_told_command
  have sc := sc_told_command
  have K_told_deed : DOk P w K mg base CX0 1 "told_deed" spToldDeed := ok_told_deed T
  have K_told_address : DOk P w K mg base CX0 2 "told_address" (spToldAddr 1) := ok_told_address T 1
  refine dok F T.g_told_command (fun _ _ _ _ _ _ us hl => match us, hl with | [_], _ => rfl) sc (fun vs H Q E h => by obtain ⟨_, _, rfl, _⟩ := h; rfl) (fun cdv A outer s H vs Q E hr h => ?_)
  have hu64 := units_of hr
  refine ⟨_, PSs.nox (pss_cons (ps_set (i := 1) sc.nd rfl (Or.inl rfl) (pe_d K_told_deed hr (by first | decide | omega) rfl (pa_cons (pe_fldK (K := K) rfl (pv 0) rfl) pa_nil)))
  (pss_cons (ps_if (pt_cmpR (op_eqDK (K := K) rfl hu64) (pe_fldK (K := K) rfl (pv 0) rfl) (pe_tup (pa_cons pe_str pa_nil)) (nomark _))
  (pss_one (ps_ret (pe_joined (.cons (pe_fmt (pv 1)) (.cons pe_str .nil)))))
  pss_nil)
  (pss_cons (ps_set (i := 2) sc.nd rfl (Or.inl rfl) (pe_d K_told_address hr (by first | decide | omega) rfl (pa_cons (pe_fldK (K := K) rfl (pv 0) rfl) pa_nil)))
  (pss_one (ps_ret (pe_joined (.cons pe_str (.cons (pe_fmt (pv 2)) (.cons pe_str (.cons (pe_fmt (pv 1)) (.cons pe_str .nil))))))))))), ?_⟩
  obtain ⟨v, c, rfl, ⟨p, dx, va, vd, rfl, hp, ra, rd⟩, ⟨oa, on, od⟩, k⟩ := h
  refine ⟨_, rfl, p, _, dx, _, _, rfl, hp, T.c_Command, T.n_Command_deed, cmd_d va vd, ?_⟩
  refine ⟨vd, c.d, rfl, rd, od, fun H1 s1 => ?_⟩
  have hp1 := s1 _ _ hp
  have hdl := showDeed_len od
  refine ⟨_, rfl, p, _, dx, _, _, rfl, hp1, T.c_Command, T.n_Command_address, cmd_a va vd, small (m := 10) (by show 1 ≤ 10; decide), fun q hq => ?_⟩
  have s2 := Same.new (o := HO.tup [V.str (Str.ofString "all")]) hq
  have s12 := s1.trans s2
  have e0 : Str.empty = sOf [] := by decide +kernel
  have eE : Str.ofString " ;\n" = sOf (VasedBase.word " ;" ++ [10]) := by decide +kernel
  have eI : Str.ofString "if " = sOf (VasedBase.word "if ") := by decide +kernel
  have lE : (VasedBase.word " ;" ++ [10] : Ln).length = 3 := by decide +kernel
  have lI : (VasedBase.word "if ").length = 3 := by decide +kernel
  have lS : (VasedBase.word " ").length = 1 := by decide +kernel
  refine ⟨_, _, dp_A (ra.mono (Same.tups s12)), .tup (SqT.of upd_same) (.cons (.str _) .nil), dA_shaped (by omega), by decide +kernel, _, rfl, ?_⟩
  rw [dA_all]
  refine ite2 (fun e => ?_) fun e => ?_
  · have e1 : c.a = .all := of_decide_eq_true e
    refine ⟨_, rfl, .inl ⟨_, rfl, small (m := 1000) (by rw [sOf_len]; omega), ?_⟩⟩
    refine ⟨_, rfl, by rw [e0, sOf_app, sOf_len]; exact small (m := 1000) (by simp only [List.length_append, List.length_nil]; omega), ?_⟩
    refine ⟨_, rfl, by rw [e0, eE, sOf_app, sOf_app, sOf_len]; exact small (m := 1000) (by simp only [List.length_append, List.length_nil] at lE ⊢; omega), ?_⟩
    have ef : V.str (Str.empty ++ sOf (Vaseda.showDeed c.d) ++ Str.ofString " ;\n") = vS (Vaseda.showCmd c) := by
      rw [e0, eE, sOf_app, sOf_app]
      unfold vS Vaseda.showCmd
      rw [if_pos e1]
      simp only [List.append_assoc]
    have kk := k _ s12
    rw [← ef] at kk
    exact kk
  · have e1 : c.a ≠ .all := fun h => e (decide_eq_true h)
    have hal := showAddr_len c.a oa
    refine ⟨_, rfl, p, _, dx, _, _, rfl, s2 _ _ hp1, T.c_Command, T.n_Command_address, cmd_a va vd, ?_⟩
    refine ⟨va, c.a, rfl, ra.mono (Same.tups s12), on, by omega, oa, fun H3 s3 => ?_⟩
    refine ⟨_, rfl, by rw [e0, eI, sOf_app, sOf_len]; exact small (m := 1000) (by simp only [List.length_append, List.length_nil]; omega), ?_⟩
    refine ⟨_, rfl, .inl ⟨_, rfl, small (m := 1000) (by rw [sOf_len]; omega), ?_⟩⟩
    refine ⟨_, rfl, by rw [e0, eI, sOf_app, sOf_app, sOf_len]; exact small (m := 1000) (by simp only [List.length_append, List.length_nil]; omega), ?_⟩
    refine ⟨_, rfl, by rw [e0, eI, w_sp, sOf_app, sOf_app, sOf_app, sOf_len]; exact small (m := 1000) (by simp only [List.length_append, List.length_nil]; omega), ?_⟩
    refine ⟨_, rfl, .inl ⟨_, rfl, small (m := 1000) (by rw [sOf_len]; omega), ?_⟩⟩
    refine ⟨_, rfl, by rw [e0, eI, w_sp, sOf_app, sOf_app, sOf_app, sOf_app, sOf_len]; exact small (m := 1000) (by simp only [List.length_append, List.length_nil]; omega), ?_⟩
    refine ⟨_, rfl, by rw [e0, eI, w_sp, eE, sOf_app, sOf_app, sOf_app, sOf_app, sOf_app, sOf_len]; exact small (m := 1000) (by simp only [List.length_append, List.length_nil] at lE ⊢; omega), ?_⟩
    have ef : V.str (Str.empty ++ Str.ofString "if " ++ sOf (Vaseda.showAddr c.a) ++ Str.ofString " " ++ sOf (Vaseda.showDeed c.d) ++ Str.ofString " ;\n") = vS (Vaseda.showCmd c) := by
      rw [e0, eI, w_sp, eE, sOf_app, sOf_app, sOf_app, sOf_app, sOf_app]
      unfold vS Vaseda.showCmd
      rw [if_neg e1]
      simp only [List.append_assoc, List.nil_append]
    have kk := k _ (s12.trans s3)
    rw [← ef] at kk
    exact kk
theorem showCmd_len {c : VCmd} (h : okC c) : (Vaseda.showCmd c).length ≤ 500 := by
  have h1 := showAddr_len c.a h.1
  have h2 := showDeed_len h.2.2
  have h3 := h.2.1
  have lE : (VasedBase.word " ;" ++ [10] : Ln).length = 3 := by decide +kernel
  have lI : (VasedBase.word "if ").length = 3 := by decide +kernel
  have lS : (VasedBase.word " ").length = 1 := by decide +kernel
  unfold Vaseda.showCmd
  split <;> simp only [List.length_append, List.length_nil] at lE ⊢ <;> omega
theorem shown_len : ∀ {s : List VCmd}, (∀ c ∈ s, okC c) → (Vaseda.shown s).length ≤ 500 * s.length
  | [], _ => by simp [Vaseda.shown]
  | c :: s, h => by
    have h1 := showCmd_len (h c (List.mem_cons_self ..))
    have h2 := shown_len (s := s) fun d hd => h d (List.mem_cons_of_mem _ hd)
    have e : Vaseda.shown (c :: s) = Vaseda.showCmd c ++ Vaseda.shown s := rfl
    rw [e, List.length_append, List.length_cons]
    omega
theorem sc_one_form : FnScope ["script", "command"] ["script"] (defScope s_one_form) := ⟨rfl, rfl, rfl, by decide +kernel, rfl, by decide +kernel, by decide +kernel⟩
theorem ok_one_form (T : Txt K mg) : DOk P w K mg base CX0 4 "one_form" (spOneForm K) := by
  obtain ⟨fd, F⟩ := T.f_one_form
  have sc := sc_one_form
  have K_told_command : DOk P w K mg base CX0 3 "told_command" (spToldCmd K) := ok_told_command T
  refine dok F T.g_one_form (fun _ _ _ _ _ _ us hl => match us, hl with | [_], _ => rfl) sc (fun vs H Q E h => by obtain ⟨_, _, rfl, _⟩ := h; rfl) (fun cdv A outer s H vs Q E hr h => ?_)
  refine ⟨_, PSs.nox (pss_one (ps_ret (pe_joinK (K := K) rfl pe_str (pe_lc (own := [("command", 1)]) rfl sc.nd (pi_listK (K := K) rfl (pv 0)) (blkOk_by (N := ["script", "command"]) (sc := defScope s_one_form) (by decide +kernel)) (fun _ _ _ _ _ => (pg_name (i := 1) sc.nd rfl (Or.inl rfl))) (fun _ _ _ _ _ => pts_nil) (fun _ _ _ _ _ => (pe_d K_told_command hr (by first | decide | omega) rfl (pa_cons (pv 1) pa_nil))))))), ?_⟩
  obtain ⟨a, cs, rfl, ⟨us, ha, hp⟩, hok, hl, k⟩ := h
  have hul := paired_len hp
  refine ⟨⟨_, rfl⟩, _, rfl, a, rfl, ⟨_, SqL.of ha⟩, fun D hD => ?_⟩
  refine lc_list (K := K) (a := a) (xs := us) (fun i H' => Same H H' ∧ H' D = some (.lst (tS ((cs.map Vaseda.showCmd).take i)))) ⟨Same.new hD, upd_same⟩ (fun i H1 _ ⟨s1, _⟩ => SqL.of (s1 _ _ ha)) ?_ ?_
  · rintro i y H1 hi ⟨s1, h1⟩
    obtain ⟨c, hc, rc⟩ := paired_get hp hi
    have hm2 : (cs.map Vaseda.showCmd)[i]? = some (Vaseda.showCmd c) := by rw [List.getElem?_map, hc]; rfl
    refine ⟨rfl, _, rfl, y, c, rfl, rc.mono (Same.imm s1), hok c (List.mem_of_getElem? hc), fun H2 s2 => ⟨_, s2 _ _ h1, smallLt (m := 100) (by rw [tS_len, List.length_take, List.length_map]; omega), Same.put (s1.trans s2) hD, ?_⟩⟩
    rw [upd_same, take_more hm2, tS_app]
    rfl
  · rintro H1 ⟨s1, h1⟩
    rw [List.take_of_length_le (by rw [List.length_map]; omega)] at h1
    refine ⟨_, D, (cs.map Vaseda.showCmd).map sOf, rfl, rfl, .inl (SqL.of (by rw [h1]; simp [tS, vS])), ?_, ?_⟩
    · have h2 : (((cs.map Vaseda.showCmd).map sOf).map (·.length)).sum = (Vaseda.shown cs).length := by
        show _ = (cs.flatMap Vaseda.showCmd).length
        rw [List.length_flatMap, List.map_map, List.map_map]
        congr 1
        apply List.map_congr_left
        intro z _
        exact sOf_len _
      have h3 := shown_len hok
      have h4 : (Str.ofString "").length = 0 := by decide +kernel
      rw [h2, h4]
      omega
    · rw [join_empty]
      exact k _ s1
theorem sc_told_script : FnScope ["script", "told"] ["script"] (defScope s_told_script) := ⟨rfl, rfl, rfl, by decide +kernel, rfl, by decide +kernel, by decide +kernel⟩
theorem ok_told_script (T : Txt K mg) : DOk P w K mg base CX0 5 "told_script" (spToldScript K) := by
  obtain ⟨fd, F⟩ := T.f_told_script
  have sc := sc_told_script
  have K_one_form : DOk P w K mg base CX0 4 "one_form" (spOneForm K) := ok_one_form T
  have K_bytes_of : DOk P w K mg base CX0 1 "bytes_of" spBytesOf := ok_bytes_of T
  refine dok F T.g_told_script (fun _ _ _ _ _ _ us hl => match us, hl with | [_], _ => rfl) sc (fun vs H Q E h => by obtain ⟨_, _, rfl, _⟩ := h; rfl) (fun cdv A outer s H vs Q E hr h => ?_)
  refine ⟨_, PSs.nox (pss_cons (ps_set (i := 1) sc.nd rfl (Or.inl rfl) (pe_d K_bytes_of hr (by first | decide | omega) rfl (pa_cons (pe_d K_one_form hr (by first | decide | omega) rfl (pa_cons (pv 0) pa_nil)) pa_nil)))
  (pss_one (ps_ret (pe_op op_cat (pe_lst (pa_cons (pe_callB (call_len_seqK (K := K) rfl) rfl T.b_len boot_len (pa_cons (pv 1) pa_nil)) pa_nil)) (pv 1))))), ?_⟩
  obtain ⟨a, cs, rfl, rs, hok, hl, k⟩ := h
  have h3 := shown_len hok
  refine ⟨_, rfl, a, cs, rfl, rs, hok, hl, fun H1 s1 => ?_⟩
  refine ⟨_, rfl, by rw [sOf_len]; omega, fun p H2 hp s2 h2 => ?_⟩
  have s12 := s1.trans s2
  refine ⟨_, rfl, p, _, rfl, .inl (SqL.of h2), small (m := 10) (by show 1 ≤ 10; decide), fun l hl => ?_⟩
  have s3 := Same.new (o := HO.lst [V.int ((cV (sOf (Vaseda.shown cs))).length : Nat)]) hl
  refine ⟨_, rfl, l, p, _, _, rfl, rfl, upd_same, s3 _ _ h2, small (m := 60000) (by rw [cV_len, sOf_len]; simp only [List.length_singleton]; omega), fun q hq => ?_⟩
  have hq0 : H q = none := (s12.trans s3).free hq
  refine k q _ hq0 (Same.put (s12.trans s3) hq0) ?_
  rw [upd_same, cV_len, sOf_len, cV_sOf]
  congr 1
  simp [iV, VasedBase.textRow]
end
end Ls
set_option Elab.async false
set_option linter.all false
set_option maxRecDepth 100000
set_option maxHeartbeats 4000000
/-! text.replace(deed[1], deed[2]) and .. , 1) -/
namespace PySem
open Builtin Builtin.Str
/-- the first alone -/
def rep1T (x y z : Str) : Str :=
  if ((occurrences x y 0 x.length 1).isEmpty || (y.length == 0 && z.length == 0)) = true then x
  else glued z (partsBetween x (occurrences x y 0 x.length 1) y.length)
theorem fits_rep1 {x z : Str} (y : Str) (hb : x.length + z.length ≤ 16777216) : (glued z (partsBetween x (occurrences x y 0 x.length 1) y.length)).length ≤ sizeLine := by
  have h1 := StrLaws.occ_length_le x y 0 x.length 1
  have hy : (glued y (partsBetween x (occurrences x y 0 x.length 1) y.length)).length = x.length := by rw [StrLaws.glued_between_self]
  rw [size_glued, length_partsBetween, Nat.add_sub_cancel] at hy
  rw [size_glued, length_partsBetween, Nat.add_sub_cancel, sizeLine_eq]
  have h2 : (occurrences x y 0 x.length 1).length * z.length ≤ 1 * z.length := Nat.mul_le_mul_right _ h1
  omega
theorem gives_rep1 (x y z : Str) (t u v k : Tok)
    (hf : ((occurrences x y 0 x.length 1).isEmpty || (y.length == 0 && z.length == 0)) = false →
      (u == 0 || v == 0) = false ∧ (u == v) = false ∧ tooLong (x.length + (occurrences x y 0 x.length 1).length * z.length) = false) :
    GivesAt (fun s => NoneBooked s.heap) («str.replace» ⟨[.str x t, .str y u, .str z v, .int 1 k], []⟩)
      (if ((occurrences x y 0 x.length 1).isEmpty || (y.length == 0 && z.length == 0)) = true then .val (.str x t)
       else if (y == z) = true then .either (.val (.str x t)) (.str (glued z (partsBetween x (occurrences x y 0 x.length 1) y.length)))
       else .str (glued z (partsBetween x (occurrences x y 0 x.length 1) y.length))) := by
  show GivesAt _ (if ((occurrences x y 0 x.length 1).isEmpty || (y.length == 0 && z.length == 0)) = true then (do rule "str.replace.nothing"; ret (.str x t)) else
          (do let same ← isSame (.str y u) (.str z v)
              if same = true then (do rule "str.replace.old-is-new"; ret (.str x t)) else
              if tooLong (x.length + (occurrences x y 0 x.length 1).length * z.length) = true then unsupported "str.replace:memory" else
              retStr (glued z (partsBetween x (occurrences x y 0 x.length 1) y.length)))) _
  cases hc : ((occurrences x y 0 x.length 1).isEmpty || (y.length == 0 && z.length == 0))
  · obtain ⟨h0, huv, hl⟩ := hf hc
    cases hyz : (y == z)
    · rw [isSame_str_other y z u v h0 huv hyz, hl]
      exact Gives.at (.of_eq rfl)
    · intro prog w A R s hb hq
      show wpAny _ _ (isSame (.str y u) (.str z v) >>= _) _ _ _
      refine wpAny_bind (wpAny_isSame_str h0 hb fun b => ?_)
      cases b
      · show wpAny _ _ (if tooLong (x.length + (occurrences x y 0 x.length 1).length * z.length) = true then _
                         else retStr (glued z (partsBetween x (occurrences x y 0 x.length 1) y.length))) _ _ _
        rw [hl]
        exact wpAny_bind (wpAny_mkStr (wpAny_pure hq.2.2) hq.2.1)
      · exact wpAny_bind (wpAny_rule (wpAny_pure hq.1))
  · exact Gives.at (.rule (.of_eq rfl))
namespace SC
variable {prog : Program} {w : World} {A : Around} {E : Value → Shared → Prop} {s : Shared} {x y z : Str} {t u v k : Tok} {Q : Value → Shared → Prop}
theorem rep1 (hu : u ≠ 0) (hv : v ≠ 0) (huv : u ≠ v) (hb : x.length + z.length ≤ 16777216) (hnb : NoneBooked s.heap)
    (hq : ∀ t' k, Q (.str (rep1T x y z) t') { s with toks := k }) : wpAny (model prog w) A (call (.builtin "str.replace") [.str x t, .str y u, .str z v, .int 1 k]) Q E s := by
  have hl : tooLong (x.length + (occurrences x y 0 x.length 1).length * z.length) = false := by
    have h1 := StrLaws.occ_length_le x y 0 x.length 1
    have h2 : (occurrences x y 0 x.length 1).length * z.length ≤ 1 * z.length := Nat.mul_le_mul_right _ h1
    unfold tooLong sizeLine
    exact decide_eq_false (by omega)
  refine call_givesAt F.slot_str_replace (typeIs_str _ _ _) F.entry_str_replace (F.args_str_replace_4 _ _ _ _)
    (gives_rep1 x y z t u v k fun _ => ⟨by simp [hu, hv], by simp [huv], hl⟩) hnb ?_
  have hq' := hq
  unfold rep1T at hq'
  cases hc : ((occurrences x y 0 x.length 1).isEmpty || (y.length == 0 && z.length == 0))
  · rw [hc] at hq'
    simp only [Bool.false_eq_true, if_false] at hq' ⊢
    cases hyz : (y == z)
    · simp only [Bool.false_eq_true, if_false]
      exact ⟨fits_rep1 y hb, hq' _ _⟩
    · simp only [if_true]
      have e : y = z := eq_of_beq hyz
      subst e
      rw [StrLaws.glued_between_self] at hq' ⊢
      dsimp only [Made.post]
      exact ⟨hq' t s.toks, by rw [sizeLine_eq]; omega, hq' _ _⟩
  · rw [hc] at hq'
    simp only [if_true] at hq' ⊢
    exact hq' t s.toks
end SC
end PySem
namespace Ls
open PySem PySem.Spec PyProof.Rows L2
open Builtin Builtin.Str StrLaws
theorem nb_of {K : PySem.W.Frag} {h : Heap} (e : bkB K = true) (X : K.In h) : NoneBooked h := by
  obtain ⟨e1, e2⟩ := He.ba e
  exact ⟨_, .of_isNs (PySem.W.isNs_of_in X e1), PySem.W.nsMap_none_of_in X e1 (of_decide_eq_true e2)⟩
def repT (once : Bool) (x y z : Str) : Str := if once then rep1T x y z else Txt.replace x y z
/-- text.replace(deed[1], deed[2]) | .. , 1): ip the deed's slot -/
def tRepT (K : PySem.W.Frag) (once : Bool) (to : TE) (ip : Nat) : TE := fun σ H Q => to σ H fun x H1 => ∃ (z a b kk : Str) (p : Addr) (ob : Obj), x = .str z ∧ σ[ip]? = some (some (.ref p)) ∧ H1 p = some (.frz ob (.tup [.str kk, .str a, .str b])) ∧ RawSw ob ∧ bkB K = true ∧
  z.length ≤ 100 ∧ b.length ≤ 100 ∧ Q (.str (repT once z a b)) H1
section
variable {X : Cx} {pins : List (Addr × Obj)} {σ : L2.St} {H : Hp} {s : Shared}
/-- what the deed's object is -/
theorem raw_deed {p : Addr} {ob : Obj} {kk a b : Str} (I : Inv X pins σ H s) (hp : H p = some (.frz ob (.tup [.str kk, .str a, .str b]))) (hr : RawSw ob) :
    ∃ t0 t u, IsTup s.heap p #[.str kk t0, .str a t, .str b u] ∧ t ≠ 0 ∧ u ≠ 0 ∧ t ≠ u := by
  obtain ⟨t0, t, u, k', a', b', n, hc, hd, h1, h2, h3⟩ := hr
  have h4 := I.hok p _ hp
  obtain ⟨h5, _, its, rv, o, ho, _, m, hm⟩ := h4
  rw [h5] at ho
  cases ho
  rw [hd] at hm
  have e2 : #[Value.str k' t0, .str a' t, .str b' u] = its.toArray := by injection hm
  have e : its = [.str k' t0, .str a' t, .str b' u] := by
    have := congrArg Array.toList e2
    simpa using this.symm
  subst e
  cases rv with
  | cons r1 rv =>
    cases rv with
    | cons r2 rv =>
      cases rv with
      | cons r3 rv =>
        obtain ⟨_, f1⟩ := r1
        obtain ⟨_, f2⟩ := r2
        obtain ⟨_, f3⟩ := r3
        injection f1 with f1 _
        injection f2 with f2 _
        injection f3 with f3 _
        rw [f1, f2, f3] at hd
        exact ⟨t0, t, u, ⟨ob, h5, hc, n, hd⟩, h1, h2, h3⟩
/-- an item at a written place of a tuple whose object is known -/
theorem raw_ixT {i : Nat} {x : Str} {a : Addr} {its : Array Value} {k : Int} {j : Nat} {w : Value} {p1 cp pos : Pos} {Q E : Value → Shared → Prop} (hN : X.N[i]? = some x) (hv : Vis X.env.scope x) (I : Inv X pins σ H s)
    (hσ : σ[i]? = some (some (.ref a))) (hl : IsTup s.heap a its) (h0 : 0 ≤ k) (hfit : k < 1000) (hx : its[k.toNat]? = some w) (fin : ∀ tk, Q w { s with toks := tk }) (hs : PlainIx (.Constant (.int k) j cp))
    (hd : (x == ("__debug__" : Str)) = false := by decide) (hcd : (x == ("__classdict__" : Str)) = false := by decide) :
    wpAny (model X.prog X.w) X.A (eval (.Subscript (.Name x p1) (.Constant (.int k) j cp) pos) X.env) Q E s := by
  refine Subscript_ (raw_name hN hv I hσ (fun v r => ?_) hd hcd)
  have e : v = Value.ref a := r
  subst e
  refine wpAny_Constant_int ?_
  have hlt : k.toNat < its.size := by
    rcases Nat.lt_or_ge k.toNat its.size with h | h
    · exact h
    · rw [Array.getElem?_eq_none h] at hx; cases hx
  refine subscriptTail_builtinR (x := w) hl.typeIs slot_tuple_getitem.lookup
    (getItem_tuple (j := k.toNat) (Q := fun r s' => r = w ∧ Q r s') (s := { s with toks := s.toks + 1 }) hl (by omega) (by omega) ?_ hx ⟨rfl, fin _⟩) (hs _ _)
  unfold seqIndex?
  simp only [ge_iff_le, h0, if_true]
  first | (rw [if_pos (by omega)]) | (simp; omega)
theorem pe_repT {o : Expr} {to : TE} {ip : Nat} {px : Str} {j0 j1 : Nat} {p2 p3 c0 c1 q0 q1 apos pos : Pos} {K : PySem.W.Frag} (hK : X.K = K) (ho : PE X o to) (hNp : X.N[ip]? = some px) (hvp : Vis X.env.scope px)
    (hdp : (px == ("__debug__" : Str)) = false := by decide) (hcp : (px == ("__classdict__" : Str)) = false := by decide)
    (hst : starEach [.Subscript (.Name px p2) (.Constant (.int 1) j0 c0) q0, .Subscript (.Name px p3) (.Constant (.int 2) j1 c1) q1] X.env =
      [(false, eval (.Subscript (.Name px p2) (.Constant (.int 1) j0 c0) q0) X.env), (false, eval (.Subscript (.Name px p3) (.Constant (.int 2) j1 c1) q1) X.env)] := by rfl)
    (hbase : attributeBase o "replace" X.env (eval o X.env) = eval o X.env := by rfl) (hline : (apos.endLine == pos.line) = true := by rfl) :
    PE X (.Call (.Attribute o "replace" apos) [.Subscript (.Name px p2) (.Constant (.int 1) j0 c0) q0, .Subscript (.Name px p3) (.Constant (.int 2) j1 c1) q1] [] pos) (tRepT K false to ip) := by
  subst hK
  refine ⟨fun pins s σ H Q I h => ?_⟩
  refine PySem.Call_method2 hbase hst hline (thn (ho.run pins s σ H _ I h) fun v s1 ⟨x, H1, I1, r1, q1⟩ => ?_)
  obtain ⟨z, a, b, kk, p, ob, rfl, hσ, hp, hr, hbk, hz, hb, q⟩ := q1
  obtain ⟨tx, rfl⟩ := r1
  obtain ⟨t0, t, u, hl, ht, hu, htu⟩ := raw_deed I1 hp hr
  refine ⟨"str", _, F.plainAttrs_str, F.slot_str_replace, F.type_str_replace, typeIs_str _ _ _, (fun _ e => nomatch e), Calls.callWith_builtin rfl (Calls.evalArgs_plain (Calls.spliced_cons ?_))⟩
  refine raw_ixT hNp hvp I1 hσ hl (by omega) (by omega) rfl (fun k1 => ?_) (fun _ _ => rfl) hdp hcp
  refine Calls.spliced_cons (raw_ixT hNp hvp (I1.tok k1) hσ hl (by omega) (by omega) rfl (fun k2 => ?_) (fun _ _ => rfl) hdp hcp)
  refine Calls.spliced_nil ?_
  have hm : (z.length + 1) * b.length ≤ 101 * 100 := Nat.mul_le_mul (by omega) hb
  exact PySem.SC.replaceA ht hu htu (by omega) (fun t' k => ⟨.str (Txt.replace z a b), H1, I1.tok k, ⟨t', rfl⟩, q⟩) (nb_of hbk (I1.tok k2).kIn)
theorem pe_repT1 {o : Expr} {to : TE} {ip : Nat} {px : Str} {j0 j1 j2 : Nat} {p2 p3 c0 c1 c2 q0 q1 apos pos : Pos} {K : PySem.W.Frag} (hK : X.K = K) (ho : PE X o to) (hNp : X.N[ip]? = some px) (hvp : Vis X.env.scope px)
    (hdp : (px == ("__debug__" : Str)) = false := by decide) (hcp : (px == ("__classdict__" : Str)) = false := by decide)
    (hst : starEach [.Subscript (.Name px p2) (.Constant (.int 1) j0 c0) q0, .Subscript (.Name px p3) (.Constant (.int 2) j1 c1) q1, .Constant (.int 1) j2 c2] X.env =
      [(false, eval (.Subscript (.Name px p2) (.Constant (.int 1) j0 c0) q0) X.env), (false, eval (.Subscript (.Name px p3) (.Constant (.int 2) j1 c1) q1) X.env), (false, eval (.Constant (.int 1) j2 c2) X.env)] := by rfl)
    (hbase : attributeBase o "replace" X.env (eval o X.env) = eval o X.env := by rfl) (hline : (apos.endLine == pos.line) = true := by rfl) :
    PE X (.Call (.Attribute o "replace" apos) [.Subscript (.Name px p2) (.Constant (.int 1) j0 c0) q0, .Subscript (.Name px p3) (.Constant (.int 2) j1 c1) q1, .Constant (.int 1) j2 c2] [] pos) (tRepT K true to ip) := by
  subst hK
  refine ⟨fun pins s σ H Q I h => ?_⟩
  refine wpAny_Call_method_lateS hbase (by rw [hst]; rfl) hline (thn (ho.run pins s σ H _ I h) fun v s1 ⟨x, H1, I1, r1, q1⟩ => ?_)
  obtain ⟨z, a, b, kk, p, ob, rfl, hσ, hp, hr, hbk, hz, hb, q⟩ := q1
  obtain ⟨tx, rfl⟩ := r1
  obtain ⟨t0, t, u, hl, ht, hu, htu⟩ := raw_deed I1 hp hr
  rw [hst]
  refine ⟨"str", _, F.plainAttrs_str, F.slot_str_replace, F.type_str_replace, typeIs_str _ _ _, (fun _ e => nomatch e), Calls.callWith_builtin rfl (Calls.evalArgs_plain (Calls.spliced_cons ?_))⟩
  refine raw_ixT hNp hvp I1 hσ hl (by omega) (by omega) rfl (fun k1 => ?_) (fun _ _ => rfl) hdp hcp
  refine Calls.spliced_cons (raw_ixT hNp hvp (I1.tok k1) hσ hl (by omega) (by omega) rfl (fun k2 => ?_) (fun _ _ => rfl) hdp hcp)
  refine Calls.spliced_cons ?_
  show wpAny _ _ (eval (.Constant (.int 1) j2 c2) X.env) _ _ _
  refine wpAny_Constant_int (Calls.spliced_nil ?_)
  exact PySem.SC.rep1 ht hu htu (by omega) (nb_of hbk (I1.tok _).kIn) fun t' k => ⟨.str (rep1T z a b), H1, I1.tok k, ⟨t', rfl⟩, q⟩
end
end Ls
set_option Elab.async false
set_option linter.all false
set_option maxRecDepth 100000
set_option maxHeartbeats 4000000
/-! has, swap, first: what Python's texts do is what is due -/
namespace Ls
open PySem PySem.Spec PyProof.Rows L2
open Builtin Builtin.Str StrLaws
open Vaseda (begins hasIn swapBy swapIn)
theorem map_beq (x y : Ln) : (x.map UInt8.toNat == y.map UInt8.toNat) = (x == y) := by
  by_cases h : x = y
  · subst h; simp
  · have h2 : ¬ x.map UInt8.toNat = y.map UInt8.toNat := fun e => h (u8_inj e)
    rw [beq_eq_false_iff_ne.mpr h, beq_eq_false_iff_ne.mpr h2]
theorem sub_begins (x w : Ln) (i : Nat) : subAt (sOf x) (sOf w) i = begins w (x.drop i) := by
  rw [subAt_eq, sOf_cps, sOf_cps, sOf_len, ← List.map_drop, ← List.map_take, map_beq]
  rfl
theorem begins_len {w x : Ln} (h : begins w x = true) : w.length ≤ x.length := by
  unfold begins at h
  have e : x.take w.length = w := eq_of_beq h
  have := congrArg List.length e
  rw [List.length_take] at this
  omega
theorem at_iff (x w : Ln) (i : Nat) : At (sOf x) (sOf w) (sOf x).length i ↔ i + w.length ≤ x.length ∧ begins w (x.drop i) = true := by
  unfold At
  rw [sub_begins, sOf_len, sOf_len]
theorem has_is (x w : Ln) : (!(occurrences (sOf x) (sOf w) 0 (sOf x).length 1).isEmpty) = hasIn w x := by
  symm
  rcases occ_head (sOf x) (sOf w) 1 (Nat.le_refl 1) with ⟨e, h⟩ | ⟨i, r, e, h, _⟩
  · rw [e]
    show hasIn w x = false
    unfold hasIn
    rw [List.any_eq_false]
    intro o ho
    have := h o
    rw [at_iff] at this
    simp only [Bool.and_eq_true, decide_eq_true_eq]
    exact fun ⟨h1, h2⟩ => this ⟨h2, h1⟩
  · rw [e]
    show hasIn w x = true
    unfold hasIn
    rw [List.any_eq_true]
    obtain ⟨h1, h2⟩ := (at_iff x w i).mp h
    exact ⟨i, List.mem_range.mpr (by omega), by rw [h2, decide_eq_true h1]; rfl⟩
theorem begins_map (w x : Ln) : begins w x = true ↔ (x.map UInt8.toNat).take (w.map UInt8.toNat).length = w.map UInt8.toNat := by
  unfold begins
  rw [List.length_map, ← List.map_take, ← map_beq]
  exact beq_iff_eq
theorem swap_repl {a b : Ln} (ha : a ≠ []) : ∀ (n : Nat) (x : Ln), x.length < n → (swapBy a b false n x).map UInt8.toNat = replL (a.map UInt8.toNat) (b.map UInt8.toNat) (x.map UInt8.toNat)
  | 0, x, h => absurd h (by omega)
  | n + 1, [], _ => by
    rw [swapBy, List.map_nil, replL_nil]
  | n + 1, c :: r, h => by
    have hal : 1 ≤ a.length := by
      cases a with
      | nil => exact absurd rfl ha
      | cons _ _ => simp
    have hna : a.map UInt8.toNat ≠ [] := by simpa using ha
    unfold swapBy
    by_cases hb : begins a (c :: r) = true
    · simp only [hb, if_true, Bool.false_eq_true, if_false]
      have ih := swap_repl (a := a) (b := b) ha n ((c :: r).drop a.length) (by rw [List.length_drop]; simp only [List.length_cons] at h ⊢; omega)
      rw [List.map_append, ih]
      have h1 := (begins_map a (c :: r)).mp hb
      rw [List.map_cons] at h1 ⊢
      rw [replL_hit hna h1]
      congr 2
      rw [← List.map_cons, List.map_drop, List.length_map]
    · simp only [hb, Bool.false_eq_true, if_false]
      have ih := swap_repl (a := a) (b := b) ha n r (by simp only [List.length_cons] at h; omega)
      rw [List.map_cons, ih, List.map_cons]
      have h1 := fun e => hb ((begins_map a (c :: r)).mpr e)
      rw [List.map_cons] at h1
      rw [replL_miss h1]
theorem swap_is {a b x : Ln} (ha : a ≠ []) : repT false (sOf x) (sOf a) (sOf b) = sOf (swapIn a b false x) := ext_cps (by
  show (Txt.replace _ _ _).cps.toList = _
  rw [replace_list (by rw [sOf_len]; cases a with | nil => exact absurd rfl ha | cons _ _ => simp), sOf_cps, sOf_cps, sOf_cps, sOf_cps]
  exact (swap_repl ha _ x (Nat.lt_succ_self _)).symm)
theorem once_no {a b : Ln} : ∀ (n : Nat) (x : Ln), (∀ k, k < x.length → begins a (x.drop k) = false) → swapBy a b true n x = x
  | 0, x, _ => rfl
  | n + 1, [], _ => rfl
  | n + 1, c :: r, h => by
    have h0 := h 0 (by simp)
    rw [List.drop_zero] at h0
    have ih := once_no (a := a) (b := b) n r fun k hk => by
      have := h (k + 1) (by simp only [List.length_cons]; omega)
      simpa using this
    unfold swapBy
    simp only [h0, Bool.false_eq_true, if_false, ih]
theorem once_at {a b : Ln} : ∀ (n : Nat) (x : Ln) (i : Nat), x.length < n → i < x.length → begins a (x.drop i) = true → (∀ k, k < i → begins a (x.drop k) = false) → swapBy a b true n x = x.take i ++ (b ++ x.drop (i + a.length))
  | 0, x, i, h, _, _, _ => absurd h (by omega)
  | n + 1, [], i, _, h, _, _ => by simp at h
  | n + 1, c :: r, 0, _, _, h, _ => by
    rw [List.drop_zero] at h
    unfold swapBy
    simp only [h, if_true, List.take_zero, List.nil_append, Nat.zero_add]
  | n + 1, c :: r, i + 1, hn, hi, h, hk => by
    have h0 := hk 0 (by omega)
    rw [List.drop_zero] at h0
    have ih := once_at (a := a) (b := b) n r i (by simp only [List.length_cons] at hn; omega) (by simp only [List.length_cons] at hi; omega) (by simpa using h) fun k hk' => by
      have := hk (k + 1) (by omega)
      simpa using this
    unfold swapBy
    simp only [h0, Bool.false_eq_true, if_false, ih]
    have e : i + 1 + a.length = (i + a.length) + 1 := by omega
    rw [e, List.drop_succ_cons, List.take_succ_cons, List.cons_append]
theorem first_is {a b x : Ln} (ha : a ≠ []) : repT true (sOf x) (sOf a) (sOf b) = sOf (swapIn a b true x) := by
  have hal : 1 ≤ a.length := by
    cases a with
    | nil => exact absurd rfl ha
    | cons _ _ => simp
  have hy0 : ((sOf a).length == 0) = false := beq_eq_false_iff_ne.mpr (by rw [sOf_len]; omega)
  show rep1T _ _ _ = _
  unfold rep1T
  have hl := occ_length_le (sOf x) (sOf a) 0 (sOf x).length 1
  rcases occ_head (sOf x) (sOf a) 1 (Nat.le_refl 1) with ⟨e, h⟩ | ⟨i, r, e, h, hk⟩
  · rw [e, if_pos (show ((([] : List Nat)).isEmpty || ((sOf a).length == 0 && (sOf b).length == 0)) = true from rfl)]
    unfold swapIn
    rw [once_no]
    intro k hk
    have := h k
    rw [at_iff] at this
    cases hb : begins a (x.drop k) with
    | false => rfl
    | true =>
      have h2 := begins_len hb
      rw [List.length_drop] at h2
      exact absurd ⟨by omega, hb⟩ this
  · have er : r = [] := by
      rw [e] at hl
      cases r with
      | nil => rfl
      | cons _ _ => simp at hl
    subst er
    rw [e, if_neg (show ¬ (([i]).isEmpty || ((sOf a).length == 0 && (sOf b).length == 0)) = true by rw [hy0]; exact Bool.false_ne_true)]
    obtain ⟨h1, h2⟩ := (at_iff x a i).mp h
    unfold swapIn
    rw [once_at (x.length + 1) x i (Nat.lt_succ_self _) (by omega) h2 fun k hki => ?_]
    · apply ext_cps
      rw [partsBetween_eq]
      show (glued (sOf b) [strSub (sOf x) 0 i, strSub (sOf x) (i + (sOf a).length) (sOf x).length]).cps.toList = _
      rw [glued_list, sOf_cps]
      show (strSub (sOf x) 0 i).cps.toList ++ ((sOf b).cps.toList ++ ((strSub (sOf x) (i + (sOf a).length) (sOf x).length).cps.toList ++ [])) = _
      simp only [strSub_toList, sOf_cps, sOf_len, List.append_nil, List.drop_zero, Nat.sub_zero, List.map_append, List.map_take, List.map_drop]
      congr 2
      exact List.take_of_length_le (by rw [List.length_drop, List.length_map]; exact Nat.le_refl _)
    · have := hk k hki
      rw [at_iff] at this
      cases hb : begins a (x.drop k) with
      | false => rfl
      | true =>
        have h3 := begins_len hb
        rw [List.length_drop] at h3
        exact absurd ⟨by omega, hb⟩ this
theorem rep1_len (x y z : Str) : (rep1T x y z).length ≤ x.length + z.length := by
  unfold rep1T
  split
  · omega
  · have h1 := occ_length_le x y 0 x.length 1
    have hy : (glued y (partsBetween x (occurrences x y 0 x.length 1) y.length)).length = x.length := by rw [glued_between_self]
    rw [size_glued, length_partsBetween, Nat.add_sub_cancel] at hy
    rw [size_glued, length_partsBetween, Nat.add_sub_cancel]
    have h2 : (occurrences x y 0 x.length 1).length * z.length ≤ 1 * z.length := Nat.mul_le_mul_right _ h1
    omega
theorem repT_len {o : Bool} {x y z : Str} (hx : x.length ≤ 100) (hz : z.length ≤ 100) : (repT o x y z).length ≤ 20000 := by
  have hm : (x.length + 1) * z.length ≤ 101 * 100 := Nat.mul_le_mul (by omega) hz
  cases o with
  | false =>
    have h : (repT false x y z).length ≤ x.length + (x.length + 1) * z.length := TK.replace_len x y z
    omega
  | true =>
    have h : (repT true x y z).length ≤ x.length + z.length := rep1_len x y z
    omega
end Ls
set_option Elab.async false
set_option linter.all false
set_option maxRecDepth 100000
set_option maxHeartbeats 4000000
/-! runs: Line, the addresses, the deeds -/
namespace Ls
open PySem PySem.Spec PyProof.Rows L2
open Vaseda (Work holds hasIn swapIn)
theorem if_no {b : Bool} {p q : Prop} (h : b = false) (k : q) : if b = true then p else q := by rw [h]; exact k
theorem if_yes {b : Bool} {p q : Prop} (h : b = true) (k : p) : if b = true then p else q := by rw [h]; exact k
/-- the fields of a line -/
def lineF (x h : Ln) (k : Int) (l c o : Bool) (n : Int) (ah be : Addr) : List (Str × V) :=
  [("letters", vS x), ("held", vS h), ("number", .int k), ("is_last", .bl l), ("comes", .bl c), ("is_over", .bl o), ("left_out", .int n), ("ahead", .ref ah), ("behind", .ref be)]
section
variable {x h : Ln} {k : Int} {l c o : Bool} {n : Int} {ah be : Addr}
theorem lf_letters : (lineF x h k l c o n ah be).lookup (Str.ofString "letters") = some (vS x) := rfl
theorem lf_held : (lineF x h k l c o n ah be).lookup (Str.ofString "held") = some (vS h) := rfl
theorem lf_number : (lineF x h k l c o n ah be).lookup (Str.ofString "number") = some (.int k) := rfl
theorem lf_last : (lineF x h k l c o n ah be).lookup (Str.ofString "is_last") = some (.bl l) := rfl
theorem lf_comes : (lineF x h k l c o n ah be).lookup (Str.ofString "comes") = some (.bl c) := rfl
theorem lf_over : (lineF x h k l c o n ah be).lookup (Str.ofString "is_over") = some (.bl o) := rfl
theorem lf_left : (lineF x h k l c o n ah be).lookup (Str.ofString "left_out") = some (.int n) := rfl
theorem lf_ahead : (lineF x h k l c o n ah be).lookup (Str.ofString "ahead") = some (.ref ah) := rfl
theorem lf_behind : (lineF x h k l c o n ah be).lookup (Str.ofString "behind") = some (.ref be) := rfl
theorem lp_letters (y : Ln) : putF (Str.ofString "letters") (vS y) (lineF x h k l c o n ah be) = lineF y h k l c o n ah be := rfl
theorem lp_held (y : Ln) : putF (Str.ofString "held") (vS y) (lineF x h k l c o n ah be) = lineF x y k l c o n ah be := rfl
theorem lp_comes (b : Bool) : putF (Str.ofString "comes") (.bl b) (lineF x h k l c o n ah be) = lineF x h k l b o n ah be := rfl
theorem lp_over (b : Bool) : putF (Str.ofString "is_over") (.bl b) (lineF x h k l c o n ah be) = lineF x h k l c b n ah be := rfl
theorem lp_left (m : Int) : putF (Str.ofString "left_out") (.int m) (lineF x h k l c o n ah be) = lineF x h k l c o m ah be := rfl
end
/-- a line as it is worked: its object, the lines put ahead and behind -/
structure LineAt (K : PySem.W.Frag) (H : Hp) (p dx ah be : Addr) (k : Int) (l : Bool) (w : Work) : Prop where
  ob : H p = some (.ins (He.ga K "Line") dx (lineF w.x w.held k l (!w.gone) w.halt w.left ah be))
  pre : H ah = some (.lst (tS (w.pre.map (·.x))))
  post : H be = some (.lst (tS (w.post.map (·.x))))
  ne : ah ≠ be
/-- all but the line's own stands -/
def Kp (p ah be : Addr) (H H' : Hp) : Prop := ∀ a o, H a = some o → a ≠ p → a ≠ ah → a ≠ be → H' a = some o
theorem Kp.refl {p ah be : Addr} {H : Hp} : Kp p ah be H H := fun _ _ h _ _ _ => h
theorem Kp.trans {p ah be : Addr} {H H1 H2 : Hp} (a : Kp p ah be H H1) (b : Kp p ah be H1 H2) : Kp p ah be H H2 := fun q o h n1 n2 n3 => b q o (a q o h n1 n2 n3) n1 n2 n3
theorem Kp.of {p ah be : Addr} {H H' : Hp} (s : Same H H') : Kp p ah be H H' := fun q o h _ _ _ => s q o h
theorem Kp.put {p ah be a : Addr} {H : Hp} {o : HO} (h : a = p ∨ a = ah ∨ a = be) : Kp p ah be H (upd H a o) := fun q u hq n1 n2 n3 => by
  rw [upd_ne (by rcases h with h | h | h <;> subst h <;> assumption)]
  exact hq
section
variable {K : PySem.W.Frag} {H : Hp} {p dx ah be : Addr} {k : Int} {l : Bool} {w w' : Work}
theorem LineAt.pah (L : LineAt K H p dx ah be k l w) : ah ≠ p := ne_of L.pre L.ob (by intro z; cases z)
theorem LineAt.pbe (L : LineAt K H p dx ah be k l w) : be ≠ p := ne_of L.post L.ob (by intro z; cases z)
theorem LineAt.put (L : LineAt K H p dx ah be k l w) (w' : Work) (h : w'.pre = w.pre) (h2 : w'.post = w.post) {fs : List (Str × V)} (e : fs = lineF w'.x w'.held k l (!w'.gone) w'.halt w'.left ah be) : LineAt K (upd H p (.ins (He.ga K "Line") dx fs)) p dx ah be k l w' :=
  ⟨by rw [upd_same, e], by rw [upd_ne L.pah, h]; exact L.pre, by rw [upd_ne L.pbe, h2]; exact L.post, L.ne⟩
theorem LineAt.same {H' : Hp} (s : Same H H') (L : LineAt K H p dx ah be k l w) : LineAt K H' p dx ah be k l w := ⟨s _ _ L.ob, s _ _ L.pre, s _ _ L.post, L.ne⟩
theorem LineAt.congr (L : LineAt K H p dx ah be k l w) (h1 : w'.x = w.x) (h2 : w'.held = w.held) (h3 : w'.pre = w.pre) (h4 : w'.post = w.post) (h5 : w'.gone = w.gone) (h6 : w'.halt = w.halt) (h7 : w'.left = w.left) : LineAt K H p dx ah be k l w' :=
  ⟨by rw [h1, h2, h5, h6, h7]; exact L.ob, by rw [h3]; exact L.pre, by rw [h4]; exact L.post, L.ne⟩
end
/-- bounds -/
def okR : VDeed → Prop
  | .before y => y.length ≤ 16
  | .after y => y.length ≤ 16
  | .change y => y.length ≤ 16
  | .swap a b => a ≠ [] ∧ a.length ≤ 16 ∧ b.length ≤ 16
  | .first a b => a ≠ [] ∧ a.length ≤ 16 ∧ b.length ≤ 16
  | .skip n => n ≤ 9
  | _ => True
structure OkW (w : Work) (n : Nat) : Prop where
  bad : w.bad = false
  x : w.x.length ≤ 16
  held : w.held.length ≤ 16
  pre : w.pre.length ≤ n
  post : w.post.length ≤ n
  left : w.left ≤ 9
def spOfALine (K : PySem.W.Frag) : Sp := fun vs H Q E => ∃ x : Ln, vs = [vS x] ∧ x.length ≤ 30000 ∧ (x.length ≤ 16 → Q (vS x) H) ∧ (16 < x.length → E (.ref (He.ga K "TooMuch")) none H)
def letD : VDeed → Bool
  | .change _ => true
  | .swap _ _ => true
  | .first _ _ => true
  | .keep => true
  | .trade => true
  | _ => false
/-- what a deed's promise says: the state as it becomes, or that it's too much -/
def Deeds (K : PySem.W.Frag) (H : Hp) (p dx ah be : Addr) (k : Int) (l : Bool) (w' : Work) (Q : VK) (E : XK) : Prop :=
  (w'.bad = false → ∀ H', Kp p ah be H H' → LineAt K H' p dx ah be k l w' → Q .non H') ∧ (w'.bad = true → ∀ H', Kp p ah be H H' → E (.ref (He.ga K "TooMuch")) none H')
def spLetDeed (K : PySem.W.Frag) : Sp := fun vs H Q E => ∃ (vd : V) (p dx ah be : Addr) (k : Int) (l : Bool) (w : Work) (n kk c : Nat) (d : VDeed), vs = [vd, .ref p] ∧ RepD H vd d ∧ letD d = true ∧ okR d ∧ LineAt K H p dx ah be k l w ∧ OkW w n ∧
  Deeds K H p dx ah be k l (Vaseda.deed kk c w d) Q E
def spDeed (K : PySem.W.Frag) : Sp := fun vs H Q E => ∃ (vd : V) (p dx ah be : Addr) (k : Int) (l : Bool) (w : Work) (n kk c : Nat) (d : VDeed), vs = [vd, .ref p] ∧ RepD H vd d ∧ okR d ∧ LineAt K H p dx ah be k l w ∧ OkW w n ∧ n ≤ 100 ∧
  Deeds K H p dx ah be k l (Vaseda.deed kk c w d) Q E
section
variable {P : Program} {w : World} {K : PySem.W.Frag} {mg : Str → Option Value} {base : Heap}
theorem sc_of_a_line : FnScope ["letters"] ["letters"] (defScope s_of_a_line) := ⟨rfl, rfl, rfl, by decide +kernel, rfl, by decide +kernel, by decide +kernel⟩
theorem ok_of_a_line (T : Txt K mg) : DOk P w K mg base (L2.CX P w) 1 "of_a_line" (spOfALine K) := by
  obtain ⟨fd, F⟩ := T.f_of_a_line
  have sc := sc_of_a_line
  obtain ⟨_, c_LETTERS_AT_MOST_texts⟩ := T.v_LETTERS_AT_MOST_texts
  have x_TooMuch := excB_ok T.x_TooMuch
  refine dok F T.g_of_a_line (fun _ _ _ _ _ _ us hl => match us, hl with | [_], _ => rfl) sc (fun vs H Q E h => by obtain ⟨_, rfl, _⟩ := h; rfl) (fun cdv A outer s H vs Q E hr h => ?_)
  refine ⟨_, (pss_cons (ps_if (pt_cmpR op_gt (pe_callB call_len_str rfl T.b_len boot_len (pa_cons (pv 0) pa_nil)) (pe_glob (v := .int (16)) rfl c_LETTERS_AT_MOST_texts ⟨_, rfl⟩) (nomark _))
  (pss_one (ps_raise rfl (takes_of rfl rfl rfl rfl) (pmk_own PySem.F.excBase_ValueError x_TooMuch.1 T.g_TooMuch x_TooMuch.2.1 (raises_own x_TooMuch.2.2.1 x_TooMuch.2.2.2) (by exact rfl))))
  pss_nil)
  (pss_one (ps_ret (pv 0)))), ?_⟩
  obtain ⟨x, rfl, hx, k1, k2⟩ := h
  refine ⟨_, rfl, _, rfl, small (m := 30000) (by rw [sOf_len]; exact hx), _, _, rfl, rfl, _, rfl, ite2 (fun c => ?_) fun c => ?_⟩
  · have c1 : (16 : Int) < ((sOf x).length : Nat) := of_decide_eq_true c
    rw [sOf_len] at c1
    exact k2 (by omega)
  · have c1 : ¬ (16 : Int) < ((sOf x).length : Nat) := fun h => c (decide_eq_true h)
    rw [sOf_len] at c1
    exact ⟨_, rfl, k1 (by omega)⟩
theorem sc_do_letters_deed : FnScope ["deed", "line", "kind", "held"] ["deed", "line"] (defScope s_do_letters_deed) := ⟨rfl, rfl, rfl, by decide +kernel, rfl, by decide +kernel, by decide +kernel⟩
theorem ok_do_letters_deed (T : Txt K mg) : DOk P w K mg base (L2.CX P w) 2 "do_letters_deed" (spLetDeed K) := by
  obtain ⟨fd, F⟩ := T.f_do_letters_deed
  have sc := sc_do_letters_deed
  have K_of_a_line : DOk P w K mg base (L2.CX P w) 1 "of_a_line" (spOfALine K) := ok_of_a_line T
  refine dok F T.g_do_letters_deed (fun _ _ _ _ _ _ us hl => match us, hl with | [_, _], _ => rfl) sc (fun vs H Q E h => by obtain ⟨_, _, _, _, _, _, _, _, _, _, _, _, rfl, _⟩ := h; rfl) (fun cdv A outer s H vs Q E hr h => ?_)
  refine ⟨_, (pss_cons (ps_set (i := 2) sc.nd rfl (Or.inl rfl) (pe_ix (ix_tupK (K := K) rfl) (pv 0) pe_int (fun _ _ => rfl)))
  (pss_one (ps_if (pt_cmpR op_eq (pv 2) pe_str (nomark _))
  (pss_one (ps_fldK (K := K) rfl (pv 1) (pe_ix (ix_tupK (K := K) rfl) (pv 0) pe_int (fun _ _ => rfl)) rfl))
  (pss_one (ps_if (pt_cmpR op_eq (pv 2) pe_str (nomark _))
    (pss_one (ps_fldK (K := K) rfl (pv 1) (pe_dS K_of_a_line hr (by first | decide | omega) rfl (takes_of rfl rfl rfl rfl) (pa_cons (pe_repT (ip := 0) (K := K) rfl (pe_fldK (K := K) rfl (pv 1) rfl) rfl (Or.inl rfl)) pa_nil)) rfl))
    (pss_one (ps_if (pt_cmpR op_eq (pv 2) pe_str (nomark _))
      (pss_one (ps_fldK (K := K) rfl (pv 1) (pe_dS K_of_a_line hr (by first | decide | omega) rfl (takes_of rfl rfl rfl rfl) (pa_cons (pe_repT1 (ip := 0) (K := K) rfl (pe_fldK (K := K) rfl (pv 1) rfl) rfl (Or.inl rfl)) pa_nil)) rfl))
      (pss_one (ps_if (pt_cmpR op_eq (pv 2) pe_str (nomark _))
        (pss_one (ps_fldK (K := K) rfl (pv 1) (pe_fldK (K := K) rfl (pv 1) rfl) rfl))
        (pss_cons (ps_set (i := 3) sc.nd rfl (Or.inl rfl) (pe_fldK (K := K) rfl (pv 1) rfl))
          (pss_cons (ps_fldK (K := K) rfl (pv 1) (pe_fldK (K := K) rfl (pv 1) rfl) rfl)
          (pss_one (ps_fldK (K := K) rfl (pv 1) (pv 3) rfl))))))))))))), ?_⟩
  obtain ⟨vd, p, dx, ah, be, k, l, w, n, kk, c, d, rfl, hd, hl, hok, L, ow, k1, k2⟩ := h
  obtain ⟨q, rfl⟩ : ∃ q, vd = .ref q := let ⟨p, e, _⟩ := hd; ⟨p, e⟩
  have hsq := hd.sqt (K := K)
  cases d with
  | change y =>
    refine ⟨_, rfl, q, _, ((0 : Nat) : Int), _, rfl, rfl, hsq, atI_at rfl, _, rfl, rfl, _, rfl, if_yes (by decide +kernel) ?_⟩
    refine ⟨_, rfl, q, _, ((1 : Nat) : Int), _, rfl, rfl, hsq, atI_at rfl, _, rfl, p, _, dx, _, rfl, L.ob, T.c_Line, T.n_Line_letters, by show 9 < 1000; decide, ?_⟩
    exact k1 ow.bad _ (Kp.put (.inl rfl)) (L.put (Vaseda.deed kk c w (.change y)) rfl rfl rfl)
  | swap a b =>
    obtain ⟨p', ep, ob, hob, hraw⟩ := hd
    cases ep
    obtain ⟨ha, hal, hbl⟩ := hok
    have hx := ow.x
    have hrl : (repT false (sOf w.x) (sOf a) (sOf b)).length ≤ 20000 := repT_len (by rw [sOf_len]; omega) (by rw [sOf_len]; omega)
    rw [swap_is ha, sOf_len] at hrl
    have hbad : (Vaseda.deed kk c w (.swap a b)).bad = decide (16 < (swapIn a b false w.x).length) := by
      show (w.bad || _) = _
      rw [ow.bad, Bool.false_or]
      rfl
    rw [hbad] at k1 k2
    refine ⟨_, rfl, q, _, ((0 : Nat) : Int), _, rfl, rfl, hsq, atI_at rfl, _, rfl, rfl, _, rfl, if_no (by decide +kernel) ?_⟩
    refine ⟨_, rfl, rfl, _, rfl, if_yes (by decide +kernel) ?_⟩
    refine ⟨_, rfl, p, _, dx, _, _, rfl, L.ob, T.c_Line, T.n_Line_letters, lf_letters, sOf w.x, sOf a, sOf b, _, q, ob, rfl, rfl, hob, hraw, T.k_bk, by rw [sOf_len]; omega, by rw [sOf_len]; omega, ?_⟩
    refine ⟨swapIn a b false w.x, congrArg (fun z => [V.str z]) (swap_is ha), by omega, fun h1 => ?_, fun h1 => ?_⟩
    · refine ⟨_, rfl, p, _, dx, _, rfl, L.ob, T.c_Line, T.n_Line_letters, by show 9 < 1000; decide, ?_⟩
      exact k1 (decide_eq_false (by omega)) _ (Kp.put (.inl rfl)) (L.put (Vaseda.deed kk c w (.swap a b)) rfl rfl rfl)
    · exact k2 (decide_eq_true h1) _ Kp.refl
  | first a b =>
    obtain ⟨p', ep, ob, hob, hraw⟩ := hd
    cases ep
    obtain ⟨ha, hal, hbl⟩ := hok
    have hx := ow.x
    have hrl : (repT true (sOf w.x) (sOf a) (sOf b)).length ≤ 20000 := repT_len (by rw [sOf_len]; omega) (by rw [sOf_len]; omega)
    rw [first_is ha, sOf_len] at hrl
    have hbad : (Vaseda.deed kk c w (.first a b)).bad = decide (16 < (swapIn a b true w.x).length) := by
      show (w.bad || _) = _
      rw [ow.bad, Bool.false_or]
      rfl
    rw [hbad] at k1 k2
    refine ⟨_, rfl, q, _, ((0 : Nat) : Int), _, rfl, rfl, hsq, atI_at rfl, _, rfl, rfl, _, rfl, if_no (by decide +kernel) ?_⟩
    refine ⟨_, rfl, rfl, _, rfl, if_no (by decide +kernel) ?_⟩
    refine ⟨_, rfl, rfl, _, rfl, if_yes (by decide +kernel) ?_⟩
    refine ⟨_, rfl, p, _, dx, _, _, rfl, L.ob, T.c_Line, T.n_Line_letters, lf_letters, sOf w.x, sOf a, sOf b, _, q, ob, rfl, rfl, hob, hraw, T.k_bk, by rw [sOf_len]; omega, by rw [sOf_len]; omega, ?_⟩
    refine ⟨swapIn a b true w.x, congrArg (fun z => [V.str z]) (first_is ha), by omega, fun h1 => ?_, fun h1 => ?_⟩
    · refine ⟨_, rfl, p, _, dx, _, rfl, L.ob, T.c_Line, T.n_Line_letters, by show 9 < 1000; decide, ?_⟩
      exact k1 (decide_eq_false (by omega)) _ (Kp.put (.inl rfl)) (L.put (Vaseda.deed kk c w (.first a b)) rfl rfl rfl)
    · exact k2 (decide_eq_true h1) _ Kp.refl
  | keep =>
    refine ⟨_, rfl, q, _, ((0 : Nat) : Int), _, rfl, rfl, hsq, atI_at rfl, _, rfl, rfl, _, rfl, if_no (by decide +kernel) ?_⟩
    refine ⟨_, rfl, rfl, _, rfl, if_no (by decide +kernel) ?_⟩
    refine ⟨_, rfl, rfl, _, rfl, if_no (by decide +kernel) ?_⟩
    refine ⟨_, rfl, rfl, _, rfl, if_yes (by decide +kernel) ?_⟩
    refine ⟨_, rfl, p, _, dx, _, _, rfl, L.ob, T.c_Line, T.n_Line_letters, lf_letters, _, rfl, p, _, dx, _, rfl, L.ob, T.c_Line, T.n_Line_held, by show 9 < 1000; decide, ?_⟩
    exact k1 ow.bad _ (Kp.put (.inl rfl)) (L.put (Vaseda.deed kk c w .keep) rfl rfl rfl)
  | trade =>
    refine ⟨_, rfl, q, _, ((0 : Nat) : Int), _, rfl, rfl, hsq, atI_at rfl, _, rfl, rfl, _, rfl, if_no (by decide +kernel) ?_⟩
    refine ⟨_, rfl, rfl, _, rfl, if_no (by decide +kernel) ?_⟩
    refine ⟨_, rfl, rfl, _, rfl, if_no (by decide +kernel) ?_⟩
    refine ⟨_, rfl, rfl, _, rfl, if_no (by decide +kernel) ?_⟩
    refine ⟨_, rfl, p, _, dx, _, _, rfl, L.ob, T.c_Line, T.n_Line_held, lf_held, ?_⟩
    refine ⟨_, rfl, p, _, dx, _, _, rfl, L.ob, T.c_Line, T.n_Line_letters, lf_letters, _, rfl, p, _, dx, _, rfl, L.ob, T.c_Line, T.n_Line_held, by show 9 < 1000; decide, ?_⟩
    have L1 := L.put { w with held := w.x } rfl rfl (fs := lineF w.x w.x k l (!w.gone) w.halt w.left ah be) rfl
    refine ⟨_, rfl, _, rfl, p, _, dx, _, rfl, L1.ob, T.c_Line, T.n_Line_letters, by show 9 < 1000; decide, ?_⟩
    exact k1 ow.bad _ ((Kp.put (.inl rfl)).trans (Kp.put (.inl rfl))) (L1.put (Vaseda.deed kk c w .trade) rfl rfl rfl)
  | _ => cases hl
end
end Ls
set_option Elab.async false
set_option linter.all false
set_option maxRecDepth 100000
set_option maxHeartbeats 4000000
/-! runs: plain_address_holds, address_holds, do_deed -/
namespace Ls
open PySem PySem.Spec PyProof.Rows L2
open Vaseda (Work holds hasIn swapIn)
def okAR : VAddr → Prop
  | .has w => w.length ≤ 100
  | .is_ w => w.length ≤ 100
  | .not a => okAR a
  | _ => True
def notNot : VAddr → Bool
  | .not _ => false
  | _ => true
/-- a line's object, as it is read -/
def LineO (K : PySem.W.Frag) (H : Hp) (p : Addr) (k : Nat) (l : Bool) (x : Ln) : Prop := ∃ dx h c o n ah be, H p = some (.ins (He.ga K "Line") dx (lineF x h k l c o n ah be))
theorem LineAt.o {K : PySem.W.Frag} {H : Hp} {p dx ah be : Addr} {k : Nat} {l : Bool} {w : Work} (L : LineAt K H p dx ah be k l w) : LineO K H p k l w.x := ⟨_, _, _, _, _, _, _, L.ob⟩
def spPlainHolds (K : PySem.W.Frag) : Sp := fun vs H Q _ => ∃ (va : V) (p : Addr) (k : Nat) (l : Bool) (x : Ln) (a : VAddr), vs = [va, .ref p] ∧ RepA H va a ∧ notNot a = true ∧ LineO K H p k l x ∧ Q (.bl (holds k l x a)) H
def spHolds (K : PySem.W.Frag) (d : Nat) : Sp := fun vs H Q _ => ∃ (va : V) (p : Addr) (k : Nat) (l : Bool) (x : Ln) (a : VAddr), vs = [va, .ref p] ∧ RepA H va a ∧ nots a ≤ d ∧ LineO K H p k l x ∧ Q (.bl (holds k l x a)) H
theorem eq_vS (x y : Ln) : decide (vS x = vS y) = (x == y) := by
  by_cases h : x = y
  · subst h; simp
  · rw [decide_eq_false (fun e => h (vS_eq.mp e)), beq_eq_false_iff_ne.mpr h]
theorem eq_int (a b : Nat) : decide (V.int (a : Int) = V.int (b : Int)) = (a == b) := by
  by_cases h : a = b
  · subst h; simp
  · rw [decide_eq_false (fun e => h (by injection e with e; omega)), beq_eq_false_iff_ne.mpr h]
theorem plain_head {H : Hp} {va : V} : ∀ {a : VAddr}, notNot a = true → RepA H va a → ∃ q x0 rest, va = .ref q ∧ H q = some (.tup (.str x0 :: rest)) ∧ decide (V.str x0 = V.str (Str.ofString "not")) = false
  | .all, _, ⟨q, e, h⟩ => ⟨q, _, _, e, h, by decide +kernel⟩
  | .last, _, ⟨q, e, h⟩ => ⟨q, _, _, e, h, by decide +kernel⟩
  | .line _, _, ⟨q, e, h⟩ => ⟨q, _, _, e, h, by decide +kernel⟩
  | .span _ _, _, ⟨q, e, h⟩ => ⟨q, _, _, e, h, by decide +kernel⟩
  | .has _, _, ⟨q, e, h⟩ => ⟨q, _, _, e, h, by decide +kernel⟩
  | .is_ _, _, ⟨q, e, h⟩ => ⟨q, _, _, e, h, by decide +kernel⟩
section
variable {P : Program} {w : World} {K : PySem.W.Frag} {mg : Str → Option Value} {base : Heap}
theorem sc_plain_address_holds : FnScope ["address", "line", "kind"] ["address", "line"] (defScope s_plain_address_holds) := ⟨rfl, rfl, rfl, by decide +kernel, rfl, by decide +kernel, by decide +kernel⟩
theorem ok_plain_address_holds (T : Txt K mg) : DOk P w K mg base CX0 1 "plain_address_holds" (spPlainHolds K) := by
  obtain ⟨fd, F⟩ := T.f_plain_address_holds
  have sc := sc_plain_address_holds
  refine dok F T.g_plain_address_holds (fun _ _ _ _ _ _ us hl => match us, hl with | [_, _], _ => rfl) sc (fun vs H Q E h => by obtain ⟨_, _, _, _, _, _, rfl, _⟩ := h; rfl) (fun cdv A outer s H vs Q E hr h => ?_)
  refine ⟨_, PSs.nox (pss_cons (ps_set (i := 2) sc.nd rfl (Or.inl rfl) (pe_ix (ix_tupK (K := K) rfl) (pv 0) pe_int (fun _ _ => rfl)))
  (pss_cons (ps_if (pt_cmpR op_eq (pv 2) pe_str (nomark _))
  (pss_one (ps_ret pe_bl))
  pss_nil)
  (pss_cons (ps_if (pt_cmpR op_eq (pv 2) pe_str (nomark _))
  (pss_one (ps_ret (pe_fldK (K := K) rfl (pv 1) rfl)))
  pss_nil)
  (pss_cons (ps_if (pt_cmpR op_eq (pv 2) pe_str (nomark _))
  (pss_one (ps_ret (pe_cmpR op_eq (pe_fldK (K := K) rfl (pv 1) rfl) (pe_ix (ix_tupK (K := K) rfl) (pv 0) pe_int (fun _ _ => rfl)) (nomark _))))
  pss_nil)
  (pss_cons (ps_if (pt_cmpR op_eq (pv 2) pe_str (nomark _))
  (pss_one (ps_ret (pe_chain op_le op_le (pe_ix (ix_tupK (K := K) rfl) (pv 0) pe_int (fun _ _ => rfl)) (pe_fldK (K := K) rfl (pv 1) rfl) (pe_ix (ix_tupK (K := K) rfl) (pv 0) pe_int (fun _ _ => rfl)))))
  pss_nil)
  (pss_cons (ps_if (pt_cmpR op_eq (pv 2) pe_str (nomark _))
  (pss_one (ps_ret (pe_cmpR op_eq (pe_fldK (K := K) rfl (pv 1) rfl) (pe_ix (ix_tupK (K := K) rfl) (pv 0) pe_int (fun _ _ => rfl)) (nomark _))))
  pss_nil)
  (pss_one (ps_ret (pe_cmpR op_in_str (pe_ix (ix_tupK (K := K) rfl) (pv 0) pe_int (fun _ _ => rfl)) (pe_fldK (K := K) rfl (pv 1) rfl) rfl))))))))), ?_⟩
  obtain ⟨va, p, k, l, x, a, rfl, ra, hn, ⟨dx, hh, c, o, n, ah, be, hp⟩, kq⟩ := h
  cases a with
  | not _ => cases hn
  | all =>
    obtain ⟨q, rfl, hq⟩ := ra
    refine ⟨_, rfl, q, _, ((0 : Nat) : Int), _, rfl, rfl, SqT.of hq, atI_at rfl, _, rfl, rfl, _, rfl, if_yes (by decide +kernel) kq⟩
  | last =>
    obtain ⟨q, rfl, hq⟩ := ra
    refine ⟨_, rfl, q, _, ((0 : Nat) : Int), _, rfl, rfl, SqT.of hq, atI_at rfl, _, rfl, rfl, _, rfl, if_no (by decide +kernel) ?_⟩
    refine ⟨_, rfl, rfl, _, rfl, if_yes (by decide +kernel) ?_⟩
    exact ⟨_, rfl, p, _, dx, _, _, rfl, hp, T.c_Line, T.n_Line_is_last, lf_last, kq⟩
  | line m =>
    obtain ⟨q, rfl, hq⟩ := ra
    refine ⟨_, rfl, q, _, ((0 : Nat) : Int), _, rfl, rfl, SqT.of hq, atI_at rfl, _, rfl, rfl, _, rfl, if_no (by decide +kernel) ?_⟩
    refine ⟨_, rfl, rfl, _, rfl, if_no (by decide +kernel) ?_⟩
    refine ⟨_, rfl, rfl, _, rfl, if_yes (by decide +kernel) ?_⟩
    refine ⟨_, rfl, p, _, dx, _, _, rfl, hp, T.c_Line, T.n_Line_number, lf_number, _, rfl, q, _, ((1 : Nat) : Int), _, rfl, rfl, SqT.of hq, atI_at rfl, rfl, ?_⟩
    rw [eq_int]
    exact kq
  | span a b =>
    obtain ⟨q, rfl, hq⟩ := ra
    refine ⟨_, rfl, q, _, ((0 : Nat) : Int), _, rfl, rfl, SqT.of hq, atI_at rfl, _, rfl, rfl, _, rfl, if_no (by decide +kernel) ?_⟩
    refine ⟨_, rfl, rfl, _, rfl, if_no (by decide +kernel) ?_⟩
    refine ⟨_, rfl, rfl, _, rfl, if_no (by decide +kernel) ?_⟩
    refine ⟨_, rfl, rfl, _, rfl, if_yes (by decide +kernel) ?_⟩
    refine ⟨_, rfl, q, _, ((1 : Nat) : Int), _, rfl, rfl, SqT.of hq, atI_at rfl, _, rfl, p, _, dx, _, _, rfl, hp, T.c_Line, T.n_Line_number, lf_number, _, _, rfl, rfl, _, rfl, ite2 (fun c1 => ?_) fun c1 => ?_⟩
    · have d1 : (a : Int) ≤ (k : Int) := of_decide_eq_true c1
      refine ⟨_, rfl, q, _, ((3 : Nat) : Int), _, rfl, rfl, SqT.of hq, atI_at rfl, _, _, rfl, rfl, ?_⟩
      have e : holds k l x (.span a b) = decide ((k : Int) ≤ (b : Int)) := by
        show decide (a ≤ k ∧ k ≤ b) = _
        apply Bool.eq_iff_iff.mpr
        simp only [decide_eq_true_eq]
        omega
      rw [e] at kq
      exact kq
    · have d1 : ¬ (a : Int) ≤ (k : Int) := fun h => c1 (decide_eq_true h)
      have e : holds k l x (.span a b) = false := by
        show decide (a ≤ k ∧ k ≤ b) = _
        exact decide_eq_false (by omega)
      rw [e] at kq
      exact kq
  | has y =>
    obtain ⟨q, rfl, hq⟩ := ra
    refine ⟨_, rfl, q, _, ((0 : Nat) : Int), _, rfl, rfl, SqT.of hq, atI_at rfl, _, rfl, rfl, _, rfl, if_no (by decide +kernel) ?_⟩
    refine ⟨_, rfl, rfl, _, rfl, if_no (by decide +kernel) ?_⟩
    refine ⟨_, rfl, rfl, _, rfl, if_no (by decide +kernel) ?_⟩
    refine ⟨_, rfl, rfl, _, rfl, if_no (by decide +kernel) ?_⟩
    refine ⟨_, rfl, rfl, _, rfl, if_no (by decide +kernel) ?_⟩
    refine ⟨_, rfl, q, _, ((1 : Nat) : Int), _, rfl, rfl, SqT.of hq, atI_at rfl, _, rfl, p, _, dx, _, _, rfl, hp, T.c_Line, T.n_Line_letters, lf_letters, _, _, rfl, rfl, ?_⟩
    rw [has_is]
    exact kq
  | is_ y =>
    obtain ⟨q, rfl, hq⟩ := ra
    refine ⟨_, rfl, q, _, ((0 : Nat) : Int), _, rfl, rfl, SqT.of hq, atI_at rfl, _, rfl, rfl, _, rfl, if_no (by decide +kernel) ?_⟩
    refine ⟨_, rfl, rfl, _, rfl, if_no (by decide +kernel) ?_⟩
    refine ⟨_, rfl, rfl, _, rfl, if_no (by decide +kernel) ?_⟩
    refine ⟨_, rfl, rfl, _, rfl, if_no (by decide +kernel) ?_⟩
    refine ⟨_, rfl, rfl, _, rfl, if_yes (by decide +kernel) ?_⟩
    refine ⟨_, rfl, p, _, dx, _, _, rfl, hp, T.c_Line, T.n_Line_letters, lf_letters, _, rfl, q, _, ((1 : Nat) : Int), _, rfl, rfl, SqT.of hq, atI_at rfl, rfl, ?_⟩
    rw [eq_vS]
    exact kq
theorem sc_address_holds : FnScope ["address", "line"] ["address", "line"] (defScope s_address_holds) := ⟨rfl, rfl, rfl, by decide +kernel, rfl, by decide +kernel, by decide +kernel⟩
theorem address_holds_core (T : Txt K mg) (d j : Nat) (hj : j ≤ d + 1) {sp : Sp} (K_address_holds : DOk P w K mg base CX0 j "address_holds" sp) (imp : ∀ vs H Q, 1 ≤ d → spHolds K (d - 1) vs H Q E0 → sp vs H Q E0) :
    DOk P w K mg base CX0 (d + 2) "address_holds" (spHolds K d) := by
  obtain ⟨fd, F⟩ := T.f_address_holds
  have sc := sc_address_holds
  have K_plain_address_holds : DOk P w K mg base CX0 1 "plain_address_holds" (spPlainHolds K) := ok_plain_address_holds T
  refine dok F T.g_address_holds (fun _ _ _ _ _ _ us hl => match us, hl with | [_, _], _ => rfl) sc (fun vs H Q E h => by obtain ⟨_, _, _, _, _, _, rfl, _⟩ := h; rfl) (fun cdv A outer s H vs Q E hr h => ?_)
  refine ⟨_, PSs.nox (pss_cons (ps_if (pt_cmpR op_eq (pe_ix (ix_tupK (K := K) rfl) (pv 0) pe_int (fun _ _ => rfl)) pe_str (nomark _))
  (pss_one (ps_ret (pe_not (pe_d K_address_holds hr (by first | decide | omega) rfl (pa_cons (pe_ix (ix_tupK (K := K) rfl) (pv 0) pe_int (fun _ _ => rfl)) (pa_cons (pv 1) pa_nil))))))
  pss_nil)
  (pss_one (ps_ret (pe_d K_plain_address_holds hr (by first | decide | omega) rfl (pa_cons (pv 0) (pa_cons (pv 1) pa_nil)))))), ?_⟩
  obtain ⟨va, p, k, l, x, a, rfl, ra, hn, hp, kq⟩ := h
  by_cases hnot : ∃ b, a = .not b
  · obtain ⟨b, rfl⟩ := hnot
    obtain ⟨q, u, rfl, hq, hu⟩ := ra
    have hb : nots b + 1 ≤ d := hn
    refine ⟨_, rfl, q, _, ((0 : Nat) : Int), _, rfl, rfl, SqT.of hq, atI_at rfl, rfl, _, rfl, if_yes (by decide +kernel) ?_⟩
    refine ⟨_, rfl, q, _, ((1 : Nat) : Int), _, rfl, rfl, SqT.of hq, atI_at rfl, _, rfl, ?_⟩
    exact imp _ _ _ (by omega) ⟨u, p, k, l, x, b, rfl, hu, by omega, hp, _, rfl, kq⟩
  · have hp0 : notNot a = true := by
      cases a with
      | not b => exact absurd ⟨b, rfl⟩ hnot
      | _ => rfl
    obtain ⟨q, x0, rest, rfl, hq, hx⟩ := plain_head hp0 ra
    refine ⟨_, rfl, q, _, ((0 : Nat) : Int), _, rfl, rfl, SqT.of hq, atI_at rfl, rfl, _, rfl, if_no hx ?_⟩
    exact ⟨_, rfl, _, rfl, _, p, k, l, x, a, rfl, ra, hp0, hp, kq⟩
theorem ok_address_holds (T : Txt K mg) (d : Nat) : DOk P w K mg base CX0 (d + 2) "address_holds" (spHolds K d) := by
  induction d with
  | zero =>
    obtain ⟨fd, F⟩ := T.f_address_holds
    exact address_holds_core T 0 0 (by omega) (dok_never (ps := ["address", "line"]) F T.g_address_holds (fun _ _ _ _ _ _ us hl => match us, hl with | [_, _], _ => rfl)) (fun _ _ _ h _ => absurd h (by omega))
  | succ d ih => exact address_holds_core T (d + 1) (d + 2) (by omega) ih fun _ _ _ _ h => h
end
end Ls
set_option Elab.async false
set_option linter.all false
set_option maxRecDepth 100000
set_option maxHeartbeats 4000000
/-! runs: do_deed, do_script, lines_that_come -/
namespace Ls
open PySem PySem.Spec PyProof.Rows L2
open Vaseda (Work holds hasIn swapIn)
section
variable {P : Program} {w : World} {K : PySem.W.Frag} {mg : Str → Option Value} {base : Heap}
theorem LineAt.addPre {H : Hp} {p dx ah be : Addr} {k : Int} {l : Bool} {w : Work} (L : LineAt K H p dx ah be k l w) (o : Vaseda.Out) : LineAt K (upd H ah (.lst (tS (w.pre.map (·.x)) ++ [vS o.x]))) p dx ah be k l { w with pre := w.pre ++ [o] } :=
  ⟨by rw [upd_ne (Ne.symm L.pah)]; exact L.ob, by rw [upd_same]; simp [tS], by rw [upd_ne (Ne.symm L.ne)]; exact L.post, L.ne⟩
theorem LineAt.addPost {H : Hp} {p dx ah be : Addr} {k : Int} {l : Bool} {w : Work} (L : LineAt K H p dx ah be k l w) (o : Vaseda.Out) : LineAt K (upd H be (.lst (tS (w.post.map (·.x)) ++ [vS o.x]))) p dx ah be k l { w with post := w.post ++ [o] } :=
  ⟨by rw [upd_ne (Ne.symm L.pbe)]; exact L.ob, by rw [upd_ne L.ne]; exact L.pre, by rw [upd_same]; simp [tS], L.ne⟩
theorem sc_do_deed : FnScope ["deed", "line", "kind"] ["deed", "line"] (defScope s_do_deed) := ⟨rfl, rfl, rfl, by decide +kernel, rfl, by decide +kernel, by decide +kernel⟩
theorem ok_do_deed (T : Txt K mg) : DOk P w K mg base (L2.CX P w) 3 "do_deed" (spDeed K) := by
  obtain ⟨fd, F⟩ := T.f_do_deed
  have sc := sc_do_deed
  have K_do_letters_deed : DOk P w K mg base (L2.CX P w) 2 "do_letters_deed" (spLetDeed K) := ok_do_letters_deed T
  refine dok F T.g_do_deed (fun _ _ _ _ _ _ us hl => match us, hl with | [_, _], _ => rfl) sc (fun vs H Q E h => by obtain ⟨_, _, _, _, _, _, _, _, _, _, _, _, rfl, _⟩ := h; rfl) (fun cdv A outer s H vs Q E hr h => ?_)
  refine ⟨_, (pss_cons (ps_set (i := 2) sc.nd rfl (Or.inl rfl) (pe_ix (ix_tupK (K := K) rfl) (pv 0) pe_int (fun _ _ => rfl)))
  (pss_one (ps_if (pt_cmpR op_eq (pv 2) pe_str (nomark _))
  (pss_cons (ps_fldK (K := K) rfl (pv 1) pe_bl rfl)
    (pss_one (ps_fldK (K := K) rfl (pv 1) pe_bl rfl)))
  (pss_one (ps_if (pt_cmpR op_eq (pv 2) pe_str (nomark _))
    (pss_one (ps_fldK (K := K) rfl (pv 1) pe_bl rfl))
    (pss_one (ps_if (pt_cmpR op_eq (pv 2) pe_str (nomark _))
      (pss_one (ps_fldK (K := K) rfl (pv 1) (pe_ix (ix_tupK (K := K) rfl) (pv 0) pe_int (fun _ _ => rfl)) rfl))
      (pss_one (ps_if (pt_cmpR op_eq (pv 2) pe_str (nomark _))
        (pss_one (ps_expr (pe_bmK (K := K) rfl PySem.F.plainAttrs_list PySem.F.slot_list_append PySem.F.type_list_append mt_append (pe_fldK (K := K) rfl (pv 1) rfl) (pa_cons (pe_ix (ix_tupK (K := K) rfl) (pv 0) pe_int (fun _ _ => rfl)) pa_nil))))
        (pss_one (ps_if (pt_cmpR op_eq (pv 2) pe_str (nomark _))
          (pss_one (ps_expr (pe_bmK (K := K) rfl PySem.F.plainAttrs_list PySem.F.slot_list_append PySem.F.type_list_append mt_append (pe_fldK (K := K) rfl (pv 1) rfl) (pa_cons (pe_ix (ix_tupK (K := K) rfl) (pv 0) pe_int (fun _ _ => rfl)) pa_nil))))
          (pss_one (ps_if (pt_cmpR op_eq (pv 2) pe_str (nomark _))
            (pss_one (ps_expr (pe_bmK (K := K) rfl PySem.F.plainAttrs_list PySem.F.slot_list_append PySem.F.type_list_append mt_append (pe_fldK (K := K) rfl (pv 1) rfl) (pa_cons (pe_fldK (K := K) rfl (pv 1) rfl) pa_nil))))
            (pss_one (ps_expr (pe_dS K_do_letters_deed hr (by first | decide | omega) rfl (takes_of rfl rfl rfl rfl) (pa_cons (pv 0) (pa_cons (pv 1) pa_nil)))))))))))))))))), ?_⟩
  obtain ⟨vd, p, dx, ah, be, k, l, w, n, kk, c, d, rfl, hd, hok, L, ow, hn, k1, k2⟩ := h
  obtain ⟨q, rfl⟩ : ∃ q, vd = .ref q := let ⟨p, e, _⟩ := hd; ⟨p, e⟩
  have hsq := hd.sqt (K := K)
  have hpre := ow.pre
  have hpost := ow.post
  have lpre : (tS (w.pre.map (·.x))).length ≤ 100 := by rw [tS_len, List.length_map]; omega
  have lpost : (tS (w.post.map (·.x))).length ≤ 100 := by rw [tS_len, List.length_map]; omega
  cases d with
  | delete =>
    refine ⟨_, rfl, q, _, ((0 : Nat) : Int), _, rfl, rfl, hsq, atI_at rfl, _, rfl, rfl, _, rfl, if_yes (by decide +kernel) ?_⟩
    have L1 := L.put { w with gone := true } rfl rfl (fs := lineF w.x w.held k l false w.halt w.left ah be) rfl
    refine ⟨_, rfl, p, _, dx, _, rfl, L.ob, T.c_Line, T.n_Line_comes, by show 9 < 1000; decide, ?_⟩
    refine ⟨_, rfl, p, _, dx, _, rfl, L1.ob, T.c_Line, T.n_Line_is_over, by show 9 < 1000; decide, ?_⟩
    exact k1 ow.bad _ ((Kp.put (.inl rfl)).trans (Kp.put (.inl rfl))) (L1.put (Vaseda.deed kk c w .delete) rfl rfl rfl)
  | halt_ =>
    refine ⟨_, rfl, q, _, ((0 : Nat) : Int), _, rfl, rfl, hsq, atI_at rfl, _, rfl, rfl, _, rfl, if_no (by decide +kernel) ?_⟩
    refine ⟨_, rfl, rfl, _, rfl, if_yes (by decide +kernel) ?_⟩
    refine ⟨_, rfl, p, _, dx, _, rfl, L.ob, T.c_Line, T.n_Line_is_over, by show 9 < 1000; decide, ?_⟩
    exact k1 ow.bad _ (Kp.put (.inl rfl)) (L.put (Vaseda.deed kk c w .halt_) rfl rfl rfl)
  | skip m =>
    refine ⟨_, rfl, q, _, ((0 : Nat) : Int), _, rfl, rfl, hsq, atI_at rfl, _, rfl, rfl, _, rfl, if_no (by decide +kernel) ?_⟩
    refine ⟨_, rfl, rfl, _, rfl, if_no (by decide +kernel) ?_⟩
    refine ⟨_, rfl, rfl, _, rfl, if_yes (by decide +kernel) ?_⟩
    refine ⟨_, rfl, q, _, ((1 : Nat) : Int), _, rfl, rfl, hsq, atI_at rfl, _, rfl, p, _, dx, _, rfl, L.ob, T.c_Line, T.n_Line_left_out, by show 9 < 1000; decide, ?_⟩
    exact k1 ow.bad _ (Kp.put (.inl rfl)) (L.put (Vaseda.deed kk c w (.skip m)) rfl rfl rfl)
  | before y =>
    refine ⟨_, rfl, q, _, ((0 : Nat) : Int), _, rfl, rfl, hsq, atI_at rfl, _, rfl, rfl, _, rfl, if_no (by decide +kernel) ?_⟩
    refine ⟨_, rfl, rfl, _, rfl, if_no (by decide +kernel) ?_⟩
    refine ⟨_, rfl, rfl, _, rfl, if_no (by decide +kernel) ?_⟩
    refine ⟨_, rfl, rfl, _, rfl, if_yes (by decide +kernel) ?_⟩
    refine ⟨_, rfl, p, _, dx, _, _, rfl, L.ob, T.c_Line, T.n_Line_ahead, lf_ahead, .inl ⟨rfl, _, SqL.of L.pre⟩, ?_⟩
    refine ⟨_, rfl, q, _, ((1 : Nat) : Int), _, rfl, rfl, hsq, atI_at rfl, ah, _, _, rfl, rfl, L.pre, smallLt (m := 200) (by omega), ?_⟩
    exact k1 ow.bad _ (Kp.put (.inr (.inl rfl))) (L.addPre ⟨y, kk, some c⟩)
  | after y =>
    refine ⟨_, rfl, q, _, ((0 : Nat) : Int), _, rfl, rfl, hsq, atI_at rfl, _, rfl, rfl, _, rfl, if_no (by decide +kernel) ?_⟩
    refine ⟨_, rfl, rfl, _, rfl, if_no (by decide +kernel) ?_⟩
    refine ⟨_, rfl, rfl, _, rfl, if_no (by decide +kernel) ?_⟩
    refine ⟨_, rfl, rfl, _, rfl, if_no (by decide +kernel) ?_⟩
    refine ⟨_, rfl, rfl, _, rfl, if_yes (by decide +kernel) ?_⟩
    refine ⟨_, rfl, p, _, dx, _, _, rfl, L.ob, T.c_Line, T.n_Line_behind, lf_behind, .inl ⟨rfl, _, SqL.of L.post⟩, ?_⟩
    refine ⟨_, rfl, q, _, ((1 : Nat) : Int), _, rfl, rfl, hsq, atI_at rfl, be, _, _, rfl, rfl, L.post, smallLt (m := 200) (by omega), ?_⟩
    exact k1 ow.bad _ (Kp.put (.inr (.inr rfl))) (L.addPost ⟨y, kk, some c⟩)
  | bring =>
    refine ⟨_, rfl, q, _, ((0 : Nat) : Int), _, rfl, rfl, hsq, atI_at rfl, _, rfl, rfl, _, rfl, if_no (by decide +kernel) ?_⟩
    refine ⟨_, rfl, rfl, _, rfl, if_no (by decide +kernel) ?_⟩
    refine ⟨_, rfl, rfl, _, rfl, if_no (by decide +kernel) ?_⟩
    refine ⟨_, rfl, rfl, _, rfl, if_no (by decide +kernel) ?_⟩
    refine ⟨_, rfl, rfl, _, rfl, if_no (by decide +kernel) ?_⟩
    refine ⟨_, rfl, rfl, _, rfl, if_yes (by decide +kernel) ?_⟩
    refine ⟨_, rfl, p, _, dx, _, _, rfl, L.ob, T.c_Line, T.n_Line_behind, lf_behind, .inl ⟨rfl, _, SqL.of L.post⟩, ?_⟩
    refine ⟨_, rfl, p, _, dx, _, _, rfl, L.ob, T.c_Line, T.n_Line_held, lf_held, be, _, _, rfl, rfl, L.post, smallLt (m := 200) (by omega), ?_⟩
    exact k1 ow.bad _ (Kp.put (.inr (.inr rfl))) (L.addPost ⟨w.held, kk, some c⟩)
  | _ =>
    refine ⟨_, rfl, q, _, ((0 : Nat) : Int), _, rfl, rfl, hsq, atI_at rfl, _, rfl, rfl, _, rfl, if_no (by decide +kernel) ?_⟩
    refine ⟨_, rfl, rfl, _, rfl, if_no (by decide +kernel) ?_⟩
    refine ⟨_, rfl, rfl, _, rfl, if_no (by decide +kernel) ?_⟩
    refine ⟨_, rfl, rfl, _, rfl, if_no (by decide +kernel) ?_⟩
    refine ⟨_, rfl, rfl, _, rfl, if_no (by decide +kernel) ?_⟩
    refine ⟨_, rfl, rfl, _, rfl, if_no (by decide +kernel) ?_⟩
    exact ⟨_, rfl, _, rfl, _, p, dx, ah, be, k, l, w, n, kk, c, _, rfl, hd, rfl, hok, L, ow, k1, k2⟩
end
end Ls
set_option Elab.async false
set_option linter.all false
set_option maxRecDepth 100000
set_option maxHeartbeats 4000000
/-! runs: do_script, lines_that_come -/
namespace Ls
open PySem PySem.Spec PyProof.Rows L2
open Vaseda (Work holds hasIn swapIn work)
def okRC (c : VCmd) : Prop := nots c.a ≤ 3 ∧ okR c.d
/-- after i commands -/
def workTo (s : List VCmd) (k : Nat) (l : Bool) (w : Work) (i : Nat) : Work := (s.zipIdx.take i).foldl (work k l) w
theorem zip_get {s : List VCmd} {i : Nat} {c : VCmd} (h : s[i]? = some c) : s.zipIdx[i]? = some (c, i) := by
  rw [List.getElem?_zipIdx, h]
  simp
theorem workTo_succ {s : List VCmd} {k : Nat} {l : Bool} {w : Work} {i : Nat} {c : VCmd} (h : s[i]? = some c) : workTo s k l w (i + 1) = work k l (workTo s k l w i) (c, i) := by
  unfold workTo
  rw [take_more (zip_get h), List.foldl_append]
  rfl
theorem work_stop {k : Nat} {l : Bool} {w : Work} (h : (w.halt || w.bad) = true) : ∀ cs : List (VCmd × Nat), cs.foldl (work k l) w = w
  | [] => rfl
  | c :: cs => by
    have e : work k l w c = w := by
      unfold work
      rw [if_pos h]
    rw [List.foldl_cons, e, work_stop h cs]
theorem workTo_stop {s : List VCmd} {k : Nat} {l : Bool} {w : Work} {i : Nat} (h : ((workTo s k l w i).halt || (workTo s k l w i).bad) = true) : s.zipIdx.foldl (work k l) w = workTo s k l w i := by
  have e : s.zipIdx = s.zipIdx.take i ++ s.zipIdx.drop i := (List.take_append_drop ..).symm
  rw [e, List.foldl_append]
  exact work_stop h _
theorem workTo_all (s : List VCmd) (k : Nat) (l : Bool) (w : Work) : workTo s k l w s.length = s.zipIdx.foldl (work k l) w := by
  unfold workTo
  rw [List.take_of_length_le (by simp)]
theorem okW_deed {w : Work} {n kk c : Nat} {d : VDeed} (o : OkW w n) (hd : okR d) (hb : (Vaseda.deed kk c w d).bad = false) : OkW (Vaseda.deed kk c w d) (n + 1) := by
  have h1 := o.pre
  have h2 := o.post
  cases d with
  | delete => exact ⟨hb, o.x, o.held, Nat.le_succ_of_le o.pre, Nat.le_succ_of_le o.post, o.left⟩
  | before y => exact ⟨hb, o.x, o.held, by show (w.pre ++ [_]).length ≤ _; simp; exact h1, Nat.le_succ_of_le o.post, o.left⟩
  | after y => exact ⟨hb, o.x, o.held, Nat.le_succ_of_le o.pre, by show (w.post ++ [_]).length ≤ _; simp; exact h2, o.left⟩
  | change y => exact ⟨hb, hd, o.held, Nat.le_succ_of_le o.pre, Nat.le_succ_of_le o.post, o.left⟩
  | swap a b =>
    have h3 : (w.bad || decide (16 < (swapIn a b false w.x).length)) = false := hb
    rw [o.bad, Bool.false_or] at h3
    have h4 := of_decide_eq_false h3
    exact ⟨hb, by show (swapIn a b false w.x).length ≤ 16; omega, o.held, Nat.le_succ_of_le o.pre, Nat.le_succ_of_le o.post, o.left⟩
  | first a b =>
    have h3 : (w.bad || decide (16 < (swapIn a b true w.x).length)) = false := hb
    rw [o.bad, Bool.false_or] at h3
    have h4 := of_decide_eq_false h3
    exact ⟨hb, by show (swapIn a b true w.x).length ≤ 16; omega, o.held, Nat.le_succ_of_le o.pre, Nat.le_succ_of_le o.post, o.left⟩
  | keep => exact ⟨hb, o.x, o.x, Nat.le_succ_of_le o.pre, Nat.le_succ_of_le o.post, o.left⟩
  | bring => exact ⟨hb, o.x, o.held, Nat.le_succ_of_le o.pre, by show (w.post ++ [_]).length ≤ _; simp; exact h2, o.left⟩
  | trade => exact ⟨hb, o.held, o.x, Nat.le_succ_of_le o.pre, Nat.le_succ_of_le o.post, o.left⟩
  | skip m => exact ⟨hb, o.x, o.held, Nat.le_succ_of_le o.pre, Nat.le_succ_of_le o.post, hd⟩
  | halt_ => exact ⟨hb, o.x, o.held, Nat.le_succ_of_le o.pre, Nat.le_succ_of_le o.post, o.left⟩
theorem OkW.more {w w' : Work} {n : Nat} (o : OkW w n) (h1 : w'.x = w.x) (h2 : w'.held = w.held) (h3 : w'.pre = w.pre) (h4 : w'.post = w.post) (h5 : w'.bad = w.bad) (h6 : w'.left ≤ w.left) : OkW w' (n + 1) :=
  ⟨by rw [h5]; exact o.bad, by rw [h1]; exact o.x, by rw [h2]; exact o.held, by rw [h3]; exact Nat.le_succ_of_le o.pre, by rw [h4]; exact Nat.le_succ_of_le o.post, Nat.le_trans h6 o.left⟩
section
variable {K : PySem.W.Frag} {H H' : Hp} {p dx ah be : Addr} {k : Int} {l : Bool} {w : Work}
theorem LineAt.tups (L : LineAt K H p dx ah be k l w) (s : Kp p ah be H H') : Tups H H' := fun q o h t => by
  refine s q o h ?_ ?_ ?_
  · exact ne_of h L.ob (by intro z; subst z; exact t)
  · exact ne_of h L.pre (by intro z; subst z; exact t)
  · exact ne_of h L.post (by intro z; subst z; exact t)
theorem LineAt.cmd (L : LineAt K H p dx ah be k l w) (s : Kp p ah be H H') {v : V} {c : VCmd} (r : RepC K H v c) : RepC K H' v c := by
  obtain ⟨q, dx', va, vd, e, h, ra, rd⟩ := r
  refine ⟨q, dx', va, vd, e, s q _ h ?_ ?_ ?_, ra.mono (L.tups s), rd.mono (L.tups s)⟩
  · exact ne_of h L.ob (by intro z; injection z with _ _ z; simp [lineF] at z)
  · exact ne_of h L.pre (by intro z; cases z)
  · exact ne_of h L.post (by intro z; cases z)
end
def spScript (K : PySem.W.Frag) : Sp := fun vs H Q E => ∃ (a p dx ah be : Addr) (k : Nat) (l : Bool) (w : Work) (s : List VCmd), vs = [.ref a, .ref p] ∧ RepS K H a s ∧ (∀ c ∈ s, okRC c) ∧ s.length ≤ 16 ∧ a ≠ ah ∧ a ≠ be ∧ LineAt K H p dx ah be k l w ∧ OkW w 0 ∧ w.halt = false ∧
  Deeds K H p dx ah be k l (s.zipIdx.foldl (work k l) w) Q E
section
variable {P : Program} {w : World} {K : PySem.W.Frag} {mg : Str → Option Value} {base : Heap}
theorem sc_do_script : FnScope ["script", "line", "command"] ["script", "line"] (defScope s_do_script) := ⟨rfl, rfl, rfl, by decide +kernel, rfl, by decide +kernel, by decide +kernel⟩
theorem ok_do_script (T : Txt K mg) : DOk P w K mg base (L2.CX P w) 6 "do_script" (spScript K) := by
  obtain ⟨fd, F⟩ := T.f_do_script
  have sc := sc_do_script
  have K_do_deed : DOk P w K mg base (L2.CX P w) 3 "do_deed" (spDeed K) := ok_do_deed T
  have K_address_holds : DOk P w K mg base CX0 5 "address_holds" (spHolds K 3) := ok_address_holds T 3
  refine dok F T.g_do_script (fun _ _ _ _ _ _ us hl => match us, hl with | [_, _], _ => rfl) sc (fun vs H Q E h => by obtain ⟨_, _, _, _, _, _, _, _, _, rfl, _⟩ := h; rfl) (fun cdv A outer s H vs Q E hr h => ?_)
  refine ⟨_, (pss_one (ps_for (passes_of rfl) rfl (pi_listK (K := K) rfl (pv 0)) (pg_name (i := 2) sc.nd rfl (Or.inl rfl))
  (pss_cons (ps_if (pt_cmpR op_gt (pe_fldK (K := K) rfl (pv 1) rfl) pe_int (nomark _))
    (pss_one (ps_fldaugK (K := K) rfl (pv 1) pe_int in_sub))
    (pss_one (ps_if (pt_val (pe_d K_address_holds hr (by first | decide | omega) rfl (pa_cons (pe_fldK (K := K) rfl (pv 2) rfl) (pa_cons (pv 1) pa_nil))))
      (pss_one (ps_expr (pe_dS K_do_deed hr (by first | decide | omega) rfl (takes_of rfl rfl rfl rfl) (pa_cons (pe_fldK (K := K) rfl (pv 2) rfl) (pa_cons (pv 1) pa_nil)))))
      pss_nil)))
    (pss_one (ps_if (pt_val (pe_fldK (K := K) rfl (pv 1) rfl))
    (pss_one ps_retN)
    pss_nil))))), ?_⟩
  obtain ⟨a, p, dx, ah, be, k, l, w0, cs, rfl, ⟨us, ha, hp⟩, hok, hlen, na, nb, L0, o0, hh, k1, k2⟩ := h
  have hul := paired_len hp
  have nap : a ≠ p := ne_of ha L0.ob (by intro z; cases z)
  refine ⟨_, rfl, a, rfl, ⟨_, SqL.of ha⟩, for_list (K := K) (a := a) (xs := us) (fun i σ H' => ∃ v2 : Option V, σ = [some (.ref a), some (.ref p), v2] ∧ Kp p ah be H H' ∧ LineAt K H' p dx ah be k l (workTo cs k l w0 i) ∧
    OkW (workTo cs k l w0 i) i ∧ (workTo cs k l w0 i).halt = false) ⟨none, rfl, Kp.refl, L0, o0, hh⟩ (fun i σ H' _ ⟨_, _, s, _⟩ => SqL.of (s _ _ ha nap na nb)) ?_ ?_⟩
  · rintro i x σ H1 hi ⟨v2, rfl, s1, L, ow, hnh⟩
    obtain ⟨c, hc, rc⟩ := paired_get hp hi
    have hcm := List.mem_of_getElem? hc
    obtain ⟨hn3, hokd⟩ := hok c hcm
    have rc1 := L0.cmd s1 rc
    have hstep := workTo_succ (k := k) (l := l) (w := w0) hc
    have hil : i < cs.length := get_lt hc
    generalize hw : workTo cs k l w0 i = w at *
    have hcond : (w.halt || w.bad) = false := by rw [hnh, ow.bad]; rfl
    -- behind a command
    have after : ∀ (H2 : Hp) (v : Option V), Kp p ah be H1 H2 → LineAt K H2 p dx ah be k l (workTo cs k l w0 (i + 1)) → OkW (workTo cs k l w0 (i + 1)) (i + 1) →
        ∀ D : Ends, D.rt = Q → (D.nx = fun σ H' => ∃ v2 : Option V, σ = [some (.ref a), some (.ref p), v2] ∧ Kp p ah be H H' ∧ LineAt K H' p dx ah be k l (workTo cs k l w0 (i + 1)) ∧ OkW (workTo cs k l w0 (i + 1)) (i + 1) ∧ (workTo cs k l w0 (i + 1)).halt = false) →
        tIfS (tB (tFld K (tVar 1) (Str.ofString "is_over"))) tRetN tNext D [some (.ref a), some (.ref p), v] H2 := by
      intro H2 v s2 L2 o2 D e1 e2
      refine ⟨_, rfl, p, _, dx, _, _, rfl, L2.ob, T.c_Line, T.n_Line_is_over, lf_over, _, rfl, ite2 (fun c => ?_) fun c => ?_⟩
      · show D.rt _ _
        rw [e1]
        have e := workTo_stop (s := cs) (k := k) (l := l) (w := w0) (i := i + 1) (by rw [c]; rfl)
        rw [e] at k1
        exact k1 o2.bad _ (s1.trans s2) L2
      · show D.nx _ _
        rw [e2]
        exact ⟨_, rfl, s1.trans s2, L2, o2, by simpa using c⟩
    have hwork : work k l w (c, i) = if 0 < w.left then { w with left := w.left - 1 } else if holds k l w.x c.a = true then Vaseda.deed k i { w with did := w.did ++ [i] } c.d else w := by
      unfold work
      rw [if_neg (by rw [hcond]; exact Bool.false_ne_true)]
    rw [hwork] at hstep
    refine ⟨_, rfl, p, _, dx, _, _, rfl, L.ob, T.c_Line, T.n_Line_left_out, lf_left, _, _, rfl, rfl, _, rfl, ite2 (fun c1 => ?_) fun c1 => ?_⟩
    · have d1 : (0 : Int) < (w.left : Int) := of_decide_eq_true c1
      rw [if_pos (by omega)] at hstep
      refine ⟨_, rfl, p, _, dx, _, _, rfl, L.ob, T.c_Line, T.n_Line_left_out, lf_left, _, _, rfl, rfl, dx, _, L.ob, by show 9 < 1000; decide, ?_⟩
      refine after _ _ (Kp.put (.inl rfl)) ?_ ?_ _ rfl rfl
      · rw [hstep]
        refine L.put { w with left := w.left - 1 } rfl rfl ?_
        rw [lp_left]
        show lineF w.x w.held k l (!w.gone) w.halt ((w.left : Int) - 1) ah be = lineF w.x w.held k l (!w.gone) w.halt ((w.left - 1 : Nat) : Int) ah be
        congr 1
        omega
      · rw [hstep]
        exact ow.more rfl rfl rfl rfl rfl (Nat.sub_le _ _)
    · have d1 : ¬ (0 : Int) < (w.left : Int) := fun h => c1 (decide_eq_true h)
      rw [if_neg (by omega)] at hstep
      obtain ⟨q, dx', va, vd, rfl, hq, ra, rd⟩ := rc1
      refine ⟨_, rfl, q, _, dx', _, _, rfl, hq, T.c_Command, T.n_Command_address, cmd_a _ _, _, rfl, va, p, k, l, w.x, c.a, rfl, ra, hn3, L.o, _, rfl, ite2 (fun c2 => ?_) fun c2 => ?_⟩
      · rw [if_pos c2] at hstep
        refine ⟨_, rfl, q, _, dx', _, _, rfl, hq, T.c_Command, T.n_Command_deed, cmd_d _ _, _, rfl, vd, p, dx, ah, be, k, l, { w with did := w.did ++ [i] }, i, k, i, c.d, rfl, rd, hokd, L.congr rfl rfl rfl rfl rfl rfl rfl, ⟨ow.bad, ow.x, ow.held, ow.pre, ow.post, ow.left⟩, by omega, ?_, ?_⟩
        · intro hb H2 s2 L2
          refine after _ _ s2 (by rw [hstep]; exact L2) ?_ _ rfl rfl
          rw [hstep]
          exact okW_deed ⟨ow.bad, ow.x, ow.held, ow.pre, ow.post, ow.left⟩ hokd hb
        · intro hb H2 s2
          rw [← hstep] at hb
          refine k2 ?_ H2 (s1.trans s2)
          rw [workTo_stop (i := i + 1) (by rw [hb, Bool.or_true])]
          exact hb
      · rw [if_neg c2] at hstep
        refine after _ _ Kp.refl (by rw [hstep]; exact L) ?_ _ rfl rfl
        rw [hstep]
        exact ow.more rfl rfl rfl rfl rfl (Nat.le_refl _)
  · rintro σ H1 ⟨v2, rfl, s1, L, ow, hnh⟩
    rw [hul, workTo_all] at L ow
    exact k1 ow.bad _ s1 L
end
end Ls
set_option Elab.async false
set_option linter.all false
set_option maxRecDepth 100000
set_option maxHeartbeats 4000000
/-! for i, x in enumerate(xs, start=1) over a list -/
namespace Ls
open PySem PySem.Spec PyProof.Rows L2
theorem callWith_typeKW {M : Model} {A : Around} {E : Value → Shared → Prop} {s : Shared} {pos : Pos} {T : String} {first : List Value} {args : List (Bool × Sem Value)} {keywords : List (Option Str × Sem Value)} {Q : Value → Shared → Prop}
    (hplain : args.any (·.1) = false) (hkw : keywords.any (·.1.isNone) = false)
    (h : wpAny M A (evalArgs (.type T) true args keywords) (fun a s₁ => wpAny M A (call (.type T) (first ++ a.pos) a.kw) Q E s₁) E s) :
    wpAny M A (callWith pos (.type T) first args keywords) Q E s := by
  unfold callWith
  refine wpAny_bind (wpAny_holding (wpAny_mono h (fun a s₁ h₁ => wpAny_bind (wpAny_standAt ?_)) fun _ _ x => x))
  simp only [hplain, hkw, Bool.or_false]
  refine wpAny_bind (wpAny_pure ?_)
  exact wpAny_bind (wpAny_mono h₁ (fun r s₂ hr => wpAny_bind (wpAny_holding (wpAny_point (wpAny_pure hr)))) fun _ _ x => x)
/-- the list at a as it stands at each turn, each item in a new pair, counted from 1 -/
def Ite1 (K : PySem.W.Frag) (a : Addr) : It :=
  ⟨fun i H => ∃ (xs : List V) (x : V), SqL K H a xs ∧ xs[i]? = some x, fun i H v H' => ∃ T x, v = .ref T ∧ H T = none ∧ H' = upd H T (.tup [.int ((i + 1 : Nat) : Int), x]) ∧ ∀ xs, SqL K H a xs → xs[i]? = some x, fun i H => ∃ xs : List V, SqL K H a xs ∧ xs.length = i⟩
theorem turn_enum1 {P : Program} {w : World} {K : PySem.W.Frag} {elts : List Expr} {kk : Nat} {tpos : Pos} (a e it : Addr) :
    Turn P w K (.Tuple elts kk tpos) (Ite1 K a) [e, it] e (fun i h => (∃ old, IsEnum h e it ((i + 1 : Nat) : Int) old) ∧ h.IsListIter it a i ∧ e ≠ it) where
  mem := by simp
  obj := fun i h st b hb => by
    obtain ⟨⟨old, he⟩, ⟨o, ho, hc, hd⟩, _⟩ := st
    have e' : b = e ∨ b = it := by simpa using hb
    rcases e' with z | z
    · rw [z]; exact ⟨_, he, fun v q => nomatch q⟩
    · rw [z]; exact ⟨o, ho, fun v q => by rw [hd] at q; cases q⟩
  keep := fun i h h' st k => let ⟨⟨old, he⟩, hi, hne⟩ := st; ⟨⟨old, k e (by simp) _ he⟩, hi.at fun o q => k it (by simp) o q, hne⟩
  item := by
    intro X hP hw hK hc i pins s σ H E I hf st hg
    subst hP hw hK
    obtain ⟨⟨old, he⟩, hit, hne⟩ := st
    obtain ⟨xs, x, hq, hx⟩ := hg
    obtain ⟨its, rv, p, hz⟩ := I.list hq
    obtain ⟨u, hu, ru⟩ := rv.get hx
    have hel : e < s.heap.objs.size := Heap.lt_size he
    have hil : it < s.heap.objs.size := by obtain ⟨_, q, _⟩ := hit; exact Heap.lt_size q
    have hae : a ≠ e := fun z => by
      obtain ⟨o, ho, hcl, _⟩ := p.isList
      rw [z, he] at ho
      cases ho
      exact absurd hcl (by intro q; injection q with q; exact absurd q (by decide))
    have hai : a ≠ it := fun z => by
      obtain ⟨o, ho, hcl, _⟩ := p.isList
      obtain ⟨o2, ho2, hc2, _⟩ := hit
      rw [z, ho2] at ho
      cases ho
      rw [hc2] at hcl
      exact absurd hcl (by intro q; injection q with q; exact absurd q (by decide))
    refine wpAny_pyNext_enum_itemC (Draws.list (A := X.A.in1) (show X.A.in1.handled = none from I.ok.hd hc) it a hai its.toArray) he ⟨hit, p.isList⟩ (by have := get_lt hu; simpa using this) hne (by simp; exact ⟨hne, Ne.symm hae⟩) fun x' h' tk hx' ho hst' hT hsz hk => ?_
    have ex : x' = u := by
      have h1 : its.toArray[i]? = some u := by simpa using hu
      rw [h1] at hx'
      exact (Option.some.inj hx').symm
    subst ex
    refine ⟨_, rfl, wpAny_letOwnedTupleGo_enum (s := { s with heap := h', toks := tk + 1 }) ho fun h'' he' sb => ?_⟩
    have hT2 : h''.get? s.heap.objs.size = some { cls := .type "tuple", data := .seq #[.int ((i + 1 : Nat) : Int) tk, x'] } := (sb.2 _ (Nat.ne_of_gt hel)).trans hT
    have new : ObjOk X.prog X.w (upd H s.heap.objs.size (.tup [.int ((i + 1 : Nat) : Int), x])) h'' s.heap.objs.size (.tup [.int ((i + 1 : Nat) : Int), x]) :=
      ⟨by show 2 ≤ sizeLine; decide, [.int ((i + 1 : Nat) : Int) tk, x'], .cons ⟨_, rfl⟩ (.cons ru .nil), ⟨_, hT2, rfl, _, rfl⟩⟩
    have I1 : Inv X pins σ (upd H s.heap.objs.size (.tup [.int ((i + 1 : Nat) : Int), x])) { s with heap := h'', toks := tk + 1 } :=
      I.turnedNew (ch := [e, it]) (fun b ob hb q => (sb.2 b (fun z => hb (by simp [z]))).trans (hk b ob (fun z => hb (by simp [z])) (fun z => hb (by simp [z])) q)) hf (Nat.le_refl _) new
    refine ⟨.ref s.heap.objs.size, _, I1, rfl, ⟨_, x, rfl, I.hok.fresh (Nat.le_refl _), rfl, fun ys hy => by rw [I.list_inj hy hq]; exact hx⟩, ⟨⟨x', ?_⟩, hst'.1.at fun o q => (sb.2 it (Ne.symm hne)).trans q, hne⟩, fun b hb => ?_⟩
    · have e1 : ((i + 1 + 1 : Nat) : Int) = ((i + 1 : Nat) : Int) + 1 := by omega
      rw [e1]; exact he'
    · have hb' : b < s.heap.objs.size := by
        have e' : b = e ∨ b = it := by simpa using hb
        rcases e' with z | z
        · rw [z]; exact hel
        · rw [z]; exact hil
      rw [upd_ne (Nat.ne_of_lt hb')]
      exact (hf b hb).1
  done := by
    intro X hP hw hK hc i pins s σ H E I hf st hg
    subst hP hw hK
    obtain ⟨⟨old, he⟩, hit, hne⟩ := st
    obtain ⟨xs, hq, hx⟩ := hg
    obtain ⟨its, rv, p, hz⟩ := I.list hq
    obtain ⟨f0, f1, f2, f3, f4, f5⟩ := hf it (by simp)
    have hl := rv.length
    have hai : a ≠ it := fun z => by
      obtain ⟨o, ho, hcl, _⟩ := p.isList
      obtain ⟨o2, ho2, hc2, _⟩ := hit
      rw [z, ho2] at ho
      cases ho
      rw [hc2] at hcl
      exact absurd hcl (by intro q; injection q with q; exact absurd q (by decide))
    have hi : i = its.toArray.size := by rw [List.size_toArray, ← hl]; exact hx.symm
    subst hi
    exact wpAny_pyNext_enum_endD (Draws.list (A := X.A.in1) (show X.A.in1.handled = none from I.ok.hd hc) it a hai its.toArray) he ⟨hit, p.isList⟩ fun h' eb => ⟨rfl, I.turned (t' := s.toks) (fun b o hb q => eb b o hb q) f0 f1 f3 f4 f5⟩
  self := fun A i s Q E st h => let ⟨⟨_, he⟩, _⟩ := st; wpAny_pyIter_enum he h
def iEnum1 (K : PySem.W.Frag) (ta : TA) : TI := fun σ H R => ta σ H fun vs H1 => ∃ a xs, vs = [.ref a] ∧ SqL K H1 a xs ∧ R (Ite1 K a) H1
theorem pi_enumS {X : Cx} {K : PySem.W.Frag} (hK : X.K = K) {e : Expr} {ta : TA} {p pos tpos kpos cpos : Pos} {elts : List Expr} {kk j : Nat} (hg : Gl X "enumerate") (hm : X.mg "enumerate" = none) (ha : PA X [e] ta)
    (he : backTo pos (starEach [e] X.env) = (false, eval e X.env) :: backTo pos (starEach [] X.env) := by rfl) (hpl : (backTo pos (starEach [e] X.env)).any (·.1) = false := by rfl)
    (hall : (backToKw pos (keywordEach [⟨some "start", .Constant (.int 1) j cpos, kpos⟩] X.env)).all (·.1.isSome) = true := by rfl) (hnone : (backToKw pos (keywordEach [⟨some "start", .Constant (.int 1) j cpos, kpos⟩] X.env)).any (·.1.isNone) = false := by rfl)
    (hks : (backToKw pos (keywordEach [⟨some "start", .Constant (.int 1) j cpos, kpos⟩] X.env)).filterMap (·.1) = [Str.ofString "start"] := by rfl) :
    PI X (.Tuple elts kk tpos) (.Call (.Name "enumerate" p) [e] [⟨some "start", .Constant (.int 1) j cpos, kpos⟩] pos) (iEnum1 K ta) := by
  subst hK
  refine ⟨fun pins s σ H R I h => ?_⟩
  refine wpAny_Call_Name_kw (ld_blt I hg hm boot_enumerate ?_)
  refine callWith_typeKW hpl hnone ?_
  rw [he]
  refine evalArgs_kwB hall ?_
  rw [← he, hks]
  refine thn (ha.run pos pins s σ H _ I h) fun us s1 ⟨vs, H1, I1, r1, q1⟩ => ?_
  obtain ⟨a, xs, ex, hq, q⟩ := q1
  subst ex
  cases r1 with
  | cons r rr =>
    cases rr
    cases r
    obtain ⟨its, rv, p', hz⟩ := I1.list hq
    refine thn ((pk_cons (X := X) (nm := some "start") (kpos := kpos) (pe_int (X := X)) pk_nil).run pos pins s1 σ H1 (fun zs H2 => zs = [.int 1] ∧ H2 = H1) I1 ⟨rfl, rfl⟩) fun ws s2 hh => ?_
    obtain ⟨zs, H2, I2, rz, ez, eh⟩ := hh
    subst ez
    subst eh
    obtain ⟨w1, rfl, t, rfl⟩ := vals1 rz
    obtain ⟨its2, rv2, p2, hz2⟩ := I2.list hq
    show wpAny _ _ (call (.type "enumerate") [.ref a] [(Str.ofString "start", .int 1 t)]) _ _ _
    refine enum_begins_start (begins_list a its2.toArray) p2.isList (by decide) (by decide) fun h' he' hit hsz hk => wpAny_pyIter_enum he' ?_
    have I3 : Inv X pins σ H2 { s2 with heap := h' } := I2.kept (t' := s2.toks) hk
    refine ⟨s2.heap.objs.size + 1, [s2.heap.objs.size + 1, s2.heap.objs.size], _, _, H2, rfl, I3, turn_enum1 a (s2.heap.objs.size + 1) s2.heap.objs.size, ⟨⟨.none, he'⟩, ⟨_, hit, rfl, rfl⟩, Nat.succ_ne_self _⟩, fun b hb => ?_, q⟩
    have e' : b = s2.heap.objs.size + 1 ∨ b = s2.heap.objs.size := by simpa using hb
    have hle : s2.heap.objs.size ≤ b := by
      rcases e' with z | z
      · rw [z]; exact Nat.le_add_right _ _
      · rw [z]; exact Nat.le_refl _
    exact I2.fpOk hle (I2.hok.fresh hle)
/-- walked by its pairs -/
theorem walk_enum1 {K : PySem.W.Frag} {a : Addr} {xs : List V} : Walk (Ite1 K a) xs.length (fun H => SqL K H a xs) (YPair (fun i => some (.int ((i + 1 : Nat) : Int))) (fun i => xs[i]?)) := by
  refine ⟨fun i _ hi q => ⟨xs, xs[i], q, by simp [hi]⟩, fun _ q => ⟨xs, q, rfl⟩, fun i H v H' _ q y => ?_⟩
  obtain ⟨T, x, h1, h2, h3, h4⟩ := y
  exact ⟨T, .int ((i + 1 : Nat) : Int), x, h1, h2, h3, rfl, h4 xs q⟩
end Ls
set_option Elab.async false
set_option linter.all false
set_option maxRecDepth 100000
set_option maxHeartbeats 4000000
/-! runs: Line, lines_that_come, result_of -/
namespace Ls
open PySem PySem.Spec PyProof.Rows L2
open Vaseda (Work holds hasIn swapIn work)
abbrev work0 (x h : Ln) : Work := ⟨x, h, [], [], false, false, 0, [], false⟩
def spLineInit (K : PySem.W.Frag) : Sp := fun vs H Q _ => ∃ (p dx : Addr) (x h : Ln) (k : Nat) (l : Bool), vs = [.ref p, vS x, vS h, .int k, .bl l] ∧ H p = some (.ins (He.ga K "Line") dx []) ∧
  ∀ H' ah be, (∀ a o, H a = some o → a ≠ p → H' a = some o) → LineAt K H' p dx ah be k l (work0 x h) → H ah = none → H be = none → Q .non H'
/-- what comes of a line -/
def comes (w : Work) : List Ln := w.pre.map (·.x) ++ ((if w.gone = true then [] else [w.x]) ++ w.post.map (·.x))
def spCome (K : PySem.W.Frag) : Sp := fun vs H Q _ => ∃ (p dx ah be : Addr) (k : Int) (l : Bool) (w : Work), vs = [.ref p] ∧ LineAt K H p dx ah be k l w ∧ w.pre.length ≤ 100 ∧ w.post.length ≤ 100 ∧ NewL (tS (comes w)) H Q
section
variable {P : Program} {w : World} {K : PySem.W.Frag} {mg : Str → Option Value} {base : Heap}
theorem sc_Line___init__ : FnScope ["self", "letters", "held", "number", "is_last"] ["self", "letters", "held", "number", "is_last"] (defScope s_Line___init__) := ⟨rfl, rfl, rfl, by decide +kernel, rfl, by decide +kernel, by decide +kernel⟩
theorem ok_Line (T : Txt K mg) : COk P w K mg base 1 "Line" (He.ga K "Line") (spLineInit K) := by
  obtain ⟨fd, F⟩ := T.f_Line___init__
  have sc := sc_Line___init__
  refine cok F T.m_Line T.g_Line (fun _ _ _ _ _ _ us hl => match us, hl with | [_, _, _, _, _], _ => rfl) sc (fun vs H Q E h => by obtain ⟨_, _, _, _, _, _, rfl, _⟩ := h; rfl) (fun cdv A outer s H vs Q E hr h => ?_)
  refine ⟨_, PSs.nox (pss_cons (ps_fldK (K := K) rfl (pv 0) (pv 1) rfl)
  (pss_cons (ps_fldK (K := K) rfl (pv 0) (pv 2) rfl)
  (pss_cons (ps_fldK (K := K) rfl (pv 0) (pv 3) rfl)
  (pss_cons (ps_fldK (K := K) rfl (pv 0) (pv 4) rfl)
  (pss_cons (ps_fldK (K := K) rfl (pv 0) pe_bl rfl)
  (pss_cons (ps_fldK (K := K) rfl (pv 0) pe_bl rfl)
  (pss_cons (ps_fldK (K := K) rfl (pv 0) pe_int rfl)
  (pss_cons (ps_fldK (K := K) rfl (pv 0) (pe_lst pa_nil) rfl)
  (pss_one (ps_fldK (K := K) rfl (pv 0) (pe_lst pa_nil) rfl)))))))))), ?_⟩
  obtain ⟨p, dx, x, h, k, l, rfl, hp, kq⟩ := h
  refine ⟨_, rfl, _, rfl, p, _, dx, _, rfl, hp, T.c_Line, T.n_Line_letters, by show 0 < 1000; decide, ?_⟩
  refine ⟨_, rfl, _, rfl, p, _, dx, _, rfl, upd_same, T.c_Line, T.n_Line_held, by show 1 < 1000; decide, ?_⟩
  rw [upd_upd]
  refine ⟨_, rfl, _, rfl, p, _, dx, _, rfl, upd_same, T.c_Line, T.n_Line_number, by show 2 < 1000; decide, ?_⟩
  rw [upd_upd]
  refine ⟨_, rfl, _, rfl, p, _, dx, _, rfl, upd_same, T.c_Line, T.n_Line_is_last, by show 3 < 1000; decide, ?_⟩
  rw [upd_upd]
  refine ⟨_, rfl, p, _, dx, _, rfl, upd_same, T.c_Line, T.n_Line_comes, by show 4 < 1000; decide, ?_⟩
  rw [upd_upd]
  refine ⟨_, rfl, p, _, dx, _, rfl, upd_same, T.c_Line, T.n_Line_is_over, by show 5 < 1000; decide, ?_⟩
  rw [upd_upd]
  refine ⟨_, rfl, p, _, dx, _, rfl, upd_same, T.c_Line, T.n_Line_left_out, by show 6 < 1000; decide, ?_⟩
  rw [upd_upd]
  refine ⟨small (m := 10) (by show 0 ≤ 10; decide), fun ah hah => ?_⟩
  have nah : ah ≠ p := fun e => by rw [e, upd_same] at hah; cases hah
  have hah0 : H ah = none := by rw [upd_ne nah] at hah; exact hah
  refine ⟨_, rfl, p, _, dx, _, rfl, by rw [upd_ne (Ne.symm nah)]; exact upd_same, T.c_Line, T.n_Line_ahead, by show 7 < 1000; decide, ?_⟩
  refine ⟨small (m := 10) (by show 0 ≤ 10; decide), fun be hbe => ?_⟩
  have nbe : be ≠ p := fun e => by rw [e, upd_same] at hbe; cases hbe
  have nba : be ≠ ah := fun e => by rw [e, upd_ne nah, upd_same] at hbe; cases hbe
  have hbe0 : H be = none := by rw [upd_ne nbe, upd_ne nba, upd_ne nbe] at hbe; exact hbe
  refine ⟨_, rfl, p, _, dx, _, rfl, by rw [upd_ne (Ne.symm nbe)]; exact upd_same, T.c_Line, T.n_Line_behind, by show 8 < 1000; decide, ?_⟩
  refine kq _ ah be (fun a o ha hn => ?_) ⟨upd_same, ?_, ?_, Ne.symm nba⟩ hah0 hbe0
  · rw [upd_ne hn, upd_ne (ne_of_none ha hbe0), upd_ne hn, upd_ne (ne_of_none ha hah0), upd_ne hn]
    exact ha
  · rw [upd_ne nah, upd_ne (Ne.symm nba), upd_ne nah]
    exact upd_same
  · rw [upd_ne nbe]
    exact upd_same
theorem sc_lines_that_come : FnScope ["line"] ["line"] (defScope s_lines_that_come) := ⟨rfl, rfl, rfl, by decide +kernel, rfl, by decide +kernel, by decide +kernel⟩
theorem ok_lines_that_come (T : Txt K mg) : DOk P w K mg base CX0 1 "lines_that_come" (spCome K) := by
  obtain ⟨fd, F⟩ := T.f_lines_that_come
  have sc := sc_lines_that_come
  refine dok F T.g_lines_that_come (fun _ _ _ _ _ _ us hl => match us, hl with | [_], _ => rfl) sc (fun vs H Q E h => by obtain ⟨_, _, _, _, _, _, _, rfl, _⟩ := h; rfl) (fun cdv A outer s H vs Q E hr h => ?_)
  refine ⟨_, PSs.nox (pss_cons (ps_if (pt_val (pe_fldK (K := K) rfl (pv 0) rfl))
  (pss_one (ps_ret (pe_op op_cat (pe_op op_cat (pe_fldK (K := K) rfl (pv 0) rfl) (pe_lst (pa_cons (pe_fldK (K := K) rfl (pv 0) rfl) pa_nil))) (pe_fldK (K := K) rfl (pv 0) rfl))))
  pss_nil)
  (pss_one (ps_ret (pe_op op_cat (pe_fldK (K := K) rfl (pv 0) rfl) (pe_fldK (K := K) rfl (pv 0) rfl))))), ?_⟩
  obtain ⟨p, dx, ah, be, k, l, w, rfl, L, hl1, hl2, kq⟩ := h
  refine ⟨_, rfl, p, _, dx, _, _, rfl, L.ob, T.c_Line, T.n_Line_comes, lf_comes, _, rfl, ite2 (fun c => ?_) fun c => ?_⟩
  · have hg : w.gone = false := by simpa using c
    refine ⟨_, rfl, p, _, dx, _, _, rfl, L.ob, T.c_Line, T.n_Line_ahead, lf_ahead, ?_⟩
    refine ⟨_, rfl, p, _, dx, _, _, rfl, L.ob, T.c_Line, T.n_Line_letters, lf_letters, small (m := 10) (by show 1 ≤ 10; decide), fun q1 h1 => ?_⟩
    have s1 := Same.new (o := HO.lst [vS w.x]) h1
    refine ⟨ah, q1, _, _, rfl, rfl, s1 _ _ L.pre, upd_same, small (m := 1000) (by rw [tS_len, List.length_map]; simp only [List.length_singleton]; omega), fun q2 h2 => ?_⟩
    have s2 := Same.new (o := HO.lst (tS (w.pre.map (·.x)) ++ [vS w.x])) h2
    have L2 := L.same (s1.trans s2)
    refine ⟨_, rfl, p, _, dx, _, _, rfl, L2.ob, T.c_Line, T.n_Line_behind, lf_behind, q2, be, _, _, rfl, rfl, upd_same, L2.post, small (m := 1000) (by rw [List.length_append, tS_len, tS_len, List.length_map, List.length_map]; simp only [List.length_singleton]; omega), fun q3 h3 => ?_⟩
    have s12 := s1.trans s2
    refine kq q3 _ (s12.free h3) (Same.put s12 (s12.free h3)) ?_
    rw [upd_same]
    congr 2
    unfold comes
    rw [hg]
    simp [tS]
  · have hg : w.gone = true := by simpa using c
    refine ⟨_, rfl, p, _, dx, _, _, rfl, L.ob, T.c_Line, T.n_Line_ahead, lf_ahead, ?_⟩
    refine ⟨_, rfl, p, _, dx, _, _, rfl, L.ob, T.c_Line, T.n_Line_behind, lf_behind, ah, be, _, _, rfl, rfl, L.pre, L.post, small (m := 1000) (by rw [tS_len, tS_len, List.length_map, List.length_map]; omega), fun q3 h3 => ?_⟩
    refine kq q3 _ h3 (Same.new h3) ?_
    rw [upd_same]
    congr 2
    unfold comes
    rw [hg]
    simp [tS]
end
end Ls
set_option Elab.async false
set_option linter.all false
set_option maxRecDepth 100000
set_option maxHeartbeats 4000000
/-! family: may_be_letters, lines_of, letters_of -/
namespace Ls
open PySem PySem.Spec PyProof.Rows L2
open Vasedf (asWord linesIn lettersIn)
/-! ### mathematics -/
def addW (acc : List Ln) (x : Ln) : List Ln := if asWord x && !acc.contains x then acc ++ [x] else acc
theorem addW_loop : ∀ (l acc : List Ln), List.eraseDupsBy.loop (· == ·) (l.filter asWord) acc.reverse = l.foldl addW acc
  | [], acc => by simp [List.eraseDupsBy.loop]
  | x :: l, acc => by
    rw [List.foldl_cons]
    by_cases h : asWord x = true
    · rw [List.filter_cons, if_pos h]
      unfold List.eraseDupsBy.loop
      have e : (acc.reverse.any fun b => x == b) = acc.contains x := by
        rw [List.any_reverse, List.contains_eq_any_beq]
      cases hc : acc.contains x with
      | true =>
        rw [hc] at e
        simp only [e]
        rw [addW_loop l acc]
        congr 1
        unfold addW
        rw [hc, h]
        rfl
      | false =>
        rw [hc] at e
        simp only [e]
        have e2 : x :: acc.reverse = (acc ++ [x]).reverse := by simp
        rw [e2, addW_loop l (acc ++ [x])]
        congr 1
        unfold addW
        rw [hc, h]
        rfl
    · rw [List.filter_cons, if_neg h, addW_loop l acc]
      congr 1
      unfold addW
      have hf : asWord x = false := by simpa using h
      rw [hf]
      rfl
theorem addW_all (l : List Ln) : (l.filter asWord).eraseDups = l.foldl addW [] := addW_loop l []
theorem linesIn_eq (ts : List (List Ln)) : linesIn ts = (ts.flatten.foldl addW []).take 12 := by
  unfold linesIn
  rw [addW_all]
  rfl
theorem addW_len (l : List Ln) : ∀ acc : List Ln, (l.foldl addW acc).length ≤ acc.length + l.length := by
  induction l with
  | nil => intro acc; simp
  | cons x l ih =>
    intro acc
    have h1 := ih (addW acc x)
    have h2 : (addW acc x).length ≤ acc.length + 1 := by
      unfold addW
      split <;> simp
    simp only [List.foldl_cons, List.length_cons]
    omega
theorem own_V (K : PySem.W.Frag) : tup_OWN_WORDS.map (He.Dv.v K) = VasedBase.RESERVED.map vS := by
  have h : (["if", "all", "line", "from", "to", "last", "has", "is", "not", "delete", "before", "after", "change", "swap", "first", "keep", "bring", "trade", "skip", "stop", "none"].map fun x : String => V.str (Str.ofString x)) = VasedBase.RESERVED.map vS := by decide +kernel
  exact h
theorem eqV_vS (x y : Ln) : eqV (vS y) (vS x) = (x == y) := by
  show (sOf y == sOf x) = (x == y)
  by_cases h : x = y
  · subst h; simp
  · have h2 : ¬ sOf y = sOf x := fun e => h (sOf_inj e).symm
    rw [beq_eq_false_iff_ne.mpr h, beq_eq_false_iff_ne.mpr h2]
theorem inV_vS (x : Ln) (l : List Ln) : inV (vS x) (tS l) = l.contains x := by
  unfold inV tS
  rw [List.any_map, List.contains_eq_any_beq]
  congr 1
  funext y
  exact eqV_vS x y
theorem flat_tS (l : List Ln) : (tS l).all flatV = true := by
  simp [tS, List.all_map, Function.comp_def, vS, flatV]
theorem cutV_take (xs : List V) (n : Nat) : cutV xs none (some (n : Int)) = xs.take n := by
  unfold cutV
  rw [HT.sIx_none, HT.sIx_nat, List.drop_zero, Nat.sub_zero]
  by_cases h : n ≤ xs.length
  · rw [Nat.min_eq_left h]
  · rw [Nat.min_eq_right (by omega), List.take_of_length_le (Nat.le_refl _), List.take_of_length_le (by omega)]
theorem alph_get (i : Nat) (h : i < 26) : Vasedf.alphabet[i]? = some (UInt8.ofNat (97 + i)) ∧ vS [UInt8.ofNat (97 + i)] = V.str ⟨#[97 + i]⟩ ∧ (UInt8.ofNat (97 + i)).toNat = 97 + i := by
  have : ∀ i : Fin 26, Vasedf.alphabet[i.val]? = some (UInt8.ofNat (97 + i.val)) ∧ vS [UInt8.ofNat (97 + i.val)] = V.str ⟨#[97 + i.val]⟩ ∧ (UInt8.ofNat (97 + i.val)).toNat = 97 + i.val := by decide +kernel
  exact this ⟨i, h⟩
theorem ALPH : (Str.ofString "abcdefghijklmnopqrstuvwxyz").cps = ((List.range 26).map fun k => 97 + k).toArray := by decide +kernel
theorem mem_u8 {c : UInt8} {l : Ln} : c.toNat ∈ l.map UInt8.toNat ↔ c ∈ l := by
  rw [List.mem_map]
  constructor
  · rintro ⟨d, hd, e⟩
    rw [← UInt8.toNat_inj.mp e]
    exact hd
  · intro h
    exact ⟨c, h, rfl⟩
theorem stands (ts : List (List Ln)) (c : UInt8) : decide (c.toNat ∈ (sOf ((ts.map List.flatten).flatten)).cps.toList) = ts.any fun t => t.any fun x => x.contains c := by
  rw [sOf_cps]
  apply Bool.eq_iff_iff.mpr
  rw [decide_eq_true_eq, mem_u8]
  simp only [List.mem_flatten, List.mem_map, List.any_eq_true, List.contains_iff_mem]
  constructor
  · rintro ⟨l, ⟨t, ht, rfl⟩, hc⟩
    obtain ⟨x, hx, hc⟩ := List.mem_flatten.mp hc
    exact ⟨t, ht, x, hx, hc⟩
  · rintro ⟨t, ht, x, hx, hc⟩
    exact ⟨_, ⟨t, ht, rfl⟩, List.mem_flatten.mpr ⟨x, hx, hc⟩⟩
theorem sum_lens (l : List Ln) (n : Nat) (h : ∀ x ∈ l, x.length ≤ n) : ((l.map sOf).map (·.length)).sum ≤ n * l.length := by
  induction l with
  | nil => simp
  | cons x l ih =>
    have h1 := h x (List.mem_cons_self ..)
    have h2 := ih fun y hy => h y (List.mem_cons_of_mem _ hy)
    simp only [List.map_cons, List.sum_cons, List.length_cons, sOf_len]
    rw [Nat.mul_add]
    omega
theorem flat_len (l : List Ln) (n : Nat) (h : ∀ x ∈ l, x.length ≤ n) : l.flatten.length ≤ n * l.length := by
  induction l with
  | nil => simp
  | cons x l ih =>
    have h1 := h x (List.mem_cons_self ..)
    have h2 := ih fun y hy => h y (List.mem_cons_of_mem _ hy)
    simp only [List.flatten_cons, List.length_append, List.length_cons]
    rw [Nat.mul_add]
    omega
/-! ### promises -/
def RepT (H : Hp) (v : V) (t : List Ln) : Prop := ∃ b, v = .ref b ∧ H b = some (.lst (tS t))
theorem RepT.same {H H' : Hp} (s : Same H H') {v : V} {t : List Ln} : RepT H v t → RepT H' v t := fun ⟨b, e, h⟩ => ⟨b, e, s _ _ h⟩
def RepTs (H : Hp) (a : Addr) (ts : List (List Ln)) : Prop := ∃ vs, H a = some (.lst vs) ∧ Paired (RepT H) vs ts
def spMayBe : Sp := fun vs H Q _ => ∃ x : Ln, vs = [vS x] ∧ x.length ≤ 100 ∧ ∀ H', Same H H' → Q (.bl (asWord x)) H'
def spLinesOf : Sp := fun vs H Q _ => ∃ (a : Addr) (ts : List (List Ln)), vs = [.ref a] ∧ RepTs H a ts ∧ ts.flatten.length ≤ 1000 ∧ (∀ t ∈ ts, ∀ x ∈ t, x.length ≤ 100) ∧ NewL (tS (linesIn ts)) H Q
def spLettersOf : Sp := fun vs H Q _ => ∃ (a : Addr) (ts : List (List Ln)), vs = [.ref a] ∧ RepTs H a ts ∧ ts.length ≤ 10 ∧ (∀ t ∈ ts, t.length ≤ 100) ∧ (∀ t ∈ ts, ∀ x ∈ t, x.length ≤ 100) ∧ NewL (tS ((lettersIn ts).map fun c => [c])) H Q
section
variable {P : Program} {w : World} {K : PySem.W.Frag} {mg : Str → Option Value} {base : Heap}
theorem sc_may_be_letters : FnScope ["line"] ["line"] (defScope s_may_be_letters) := ⟨rfl, rfl, rfl, by decide +kernel, rfl, by decide +kernel, by decide +kernel⟩
theorem ok_may_be_letters (T : Txt K mg) : DOk P w K mg base CX0 1 "may_be_letters" spMayBe := by
  obtain ⟨fd, F⟩ := T.f_may_be_letters
  have sc := sc_may_be_letters
  obtain ⟨_, c_WORD_LETTERS_AT_MOST_family⟩ := T.v_WORD_LETTERS_AT_MOST_family
  refine dok F T.g_may_be_letters (fun _ _ _ _ _ _ us hl => match us, hl with | [_], _ => rfl) sc (fun vs H Q E h => by obtain ⟨_, rfl, _⟩ := h; rfl) (fun cdv A outer s H vs Q E hr h => ?_)
  refine ⟨_, PSs.nox (pss_one (ps_ret (pe_and (pe_chain op_le op_le pe_int (pe_callB call_len_str rfl T.b_len boot_len (pa_cons (pv 0) pa_nil)) (pe_glob (v := .int (8)) rfl c_WORD_LETTERS_AT_MOST_family ⟨_, rfl⟩)) (pe_one (pe_cmpR (op_notInK (K := K) rfl) (pv 0) (pe_glob (v := .ref (He.ga K "OWN_WORDS")) rfl T.g_OWN_WORDS rfl) rfl))))), ?_⟩
  obtain ⟨x, rfl, hx, k⟩ := h
  have hsz : (sOf x).length ≤ sizeLine := small (m := 1000) (by rw [sOf_len]; omega)
  have hown := He.tupB_ok T.t_OWN_WORDS H
  rw [own_V] at hown
  refine ⟨_, rfl, _, rfl, hsz, _, _, rfl, rfl, _, rfl, ite2 (fun c1 => ?_) fun c1 => ?_⟩
  · have d1 : (1 : Int) ≤ ((sOf x).length : Int) := of_decide_eq_true c1
    rw [sOf_len] at d1
    have he : x.isEmpty = false := by cases x with | nil => simp at d1 | cons _ _ => rfl
    refine ⟨_, _, rfl, rfl, _, rfl, ite2 (fun c2 => ?_) fun c2 => ?_⟩
    · have d2 : ((sOf x).length : Int) ≤ 8 := of_decide_eq_true c2
      rw [sOf_len] at d2
      refine ⟨_, rfl, _, _, rfl, .inr hown, rfl, flat_tS _, ?_⟩
      have e : (if true = true then !inV (vS x) (VasedBase.RESERVED.map vS) else inV (vS x) (VasedBase.RESERVED.map vS)) = asWord x := by
        rw [if_pos rfl, show inV (vS x) (VasedBase.RESERVED.map vS) = VasedBase.RESERVED.contains x from inV_vS x _]
        unfold asWord
        rw [he, decide_eq_true (show x.length ≤ VasedBase.NAME from by show x.length ≤ 8; omega)]
        simp
      show Q (.bl (if true = true then !inV (vS x) (VasedBase.RESERVED.map vS) else inV (vS x) (VasedBase.RESERVED.map vS))) H
      rw [e]
      exact k _ (Same.refl _)
    · have d2 : ¬ ((sOf x).length : Int) ≤ 8 := fun h => c2 (decide_eq_true h)
      rw [sOf_len] at d2
      have e : asWord x = false := by
        unfold asWord
        rw [decide_eq_false (show ¬ x.length ≤ VasedBase.NAME from by show ¬ x.length ≤ 8; omega)]
        simp
      have kk := k _ (Same.refl _)
      rw [e] at kk
      exact kk
  · have d1 : ¬ (1 : Int) ≤ ((sOf x).length : Int) := fun h => c1 (decide_eq_true h)
    rw [sOf_len] at d1
    have he : x.isEmpty = true := by cases x with | nil => rfl | cons _ _ => simp at d1; omega
    have e : asWord x = false := by
      unfold asWord
      rw [he]
      rfl
    have kk := k _ (Same.refl _)
    rw [e] at kk
    exact ⟨false, rfl, kk⟩
theorem sc_lines_of : FnScope ["texts", "lines", "text", "line"] ["texts"] (defScope s_lines_of) := ⟨rfl, rfl, rfl, by decide +kernel, rfl, by decide +kernel, by decide +kernel⟩
theorem ok_lines_of (T : Txt K mg) : DOk P w K mg base CX0 2 "lines_of" spLinesOf := by
  obtain ⟨fd, F⟩ := T.f_lines_of
  have sc := sc_lines_of
  have K_may_be_letters : DOk P w K mg base CX0 1 "may_be_letters" spMayBe := ok_may_be_letters T
  obtain ⟨_, c_LINES_AT_MOST_family⟩ := T.v_LINES_AT_MOST_family
  refine dok F T.g_lines_of (fun _ _ _ _ _ _ us hl => match us, hl with | [_], _ => rfl) sc (fun vs H Q E h => by obtain ⟨_, _, rfl, _⟩ := h; rfl) (fun cdv A outer s H vs Q E hr h => ?_)
  refine ⟨_, PSs.nox (pss_cons (ps_set (i := 1) sc.nd rfl (Or.inl rfl) (pe_lst pa_nil))
  (pss_cons (ps_for PassesOwn.never rfl (pi_listK (K := K) rfl (pv 0)) (pg_name (i := 2) sc.nd rfl (Or.inl rfl))
  (pss_one (ps_for PassesOwn.never rfl (pi_listK (K := K) rfl (pv 2)) (pg_name (i := 3) sc.nd rfl (Or.inl rfl))
    (pss_one (ps_if (PW.pt (pw_and (pt_val (pe_d K_may_be_letters hr (by first | decide | omega) rfl (pa_cons (pv 3) pa_nil))) (pw_and1 (pt_cmpR (op_notInK (K := K) rfl) (pv 3) (pv 1) rfl))))
      (pss_one (ps_expr (pe_bmK (K := K) rfl PySem.F.plainAttrs_list PySem.F.slot_list_append PySem.F.type_list_append mt_append (pv 1) (pa_cons (pv 3) pa_nil))))
      pss_nil)))))
  (pss_one (ps_ret (pe_slice (sl_listK (K := K) rfl) (pv 1) po_none (po_some (pe_glob (v := .int (12)) rfl c_LINES_AT_MOST_family ⟨_, rfl⟩))))))), ?_⟩
  obtain ⟨a, ts, rfl, ⟨us, ha, hp⟩, hz, hx, k⟩ := h
  have hul := paired_len hp
  refine ⟨small (m := 10) (by decide), fun p hn => ?_⟩
  have s0 := Same.new (o := HO.lst []) hn
  refine ⟨_, rfl, a, rfl, ⟨_, SqL.of (s0 _ _ ha)⟩, for_list (K := K) (a := a) (xs := us) (fun i σ H' => ∃ v2 v3 : Option V, σ = [some (.ref a), some (.ref p), v2, v3] ∧ Same H H' ∧ H' p = some (.lst (tS ((ts.take i).flatten.foldl addW []))))
    ⟨none, none, rfl, s0, upd_same⟩ (fun i σ H' _ ⟨_, _, _, s5, _⟩ => SqL.of (s5 _ _ ha)) ?_ ?_⟩
  · rintro i y σ H' hi ⟨v2, v3, rfl, s5, h5⟩
    obtain ⟨t, ht, b, rfl, hb⟩ := paired_get hp hi
    have htm := List.mem_of_getElem? ht
    have hlen : ∀ j, (((ts.take i).flatten ++ t.take j).foldl addW []).length ≤ 1000 := fun j => by
      have h1 := addW_len ((ts.take i).flatten ++ t.take j) []
      have h2 : (ts.take (i + 1)).flatten.length ≤ ts.flatten.length := by
        have e : ts.flatten = (ts.take (i + 1)).flatten ++ (ts.drop (i + 1)).flatten := by rw [← List.flatten_append, List.take_append_drop]
        rw [e, List.length_append]
        omega
      rw [take_more ht] at h2
      simp only [List.flatten_append, List.flatten_cons, List.flatten_nil, List.append_nil, List.length_append, List.length_nil, List.length_take] at h1 h2
      have h3 : min j t.length ≤ t.length := Nat.min_le_right _ _
      omega
    refine ⟨_, rfl, b, rfl, ⟨_, SqL.of (s5 _ _ hb)⟩, for_list (K := K) (a := b) (xs := tS t) (fun j σ H' => ∃ v3 : Option V, σ = [some (.ref a), some (.ref p), some (.ref b), v3] ∧ Same H H' ∧ H' p = some (.lst (tS (((ts.take i).flatten ++ t.take j).foldl addW []))))
      ⟨v3, rfl, s5, by rw [List.take_zero, List.append_nil]; exact h5⟩ (fun i σ H' _ ⟨_, _, s6, _⟩ => SqL.of (s6 _ _ hb)) ?_ ?_⟩
    · rintro j z σ H7 hj ⟨v3, rfl, s7, h7⟩
      obtain ⟨x, hx1, rfl⟩ := tS_get hj
      have hxm := List.mem_of_getElem? hx1
      have hl := hlen j
      have hfold : ((ts.take i).flatten ++ t.take (j + 1)).foldl addW [] = addW (((ts.take i).flatten ++ t.take j).foldl addW []) x := by
        rw [take_more hx1, ← List.append_assoc, List.foldl_append]
        rfl
      generalize hacc : ((ts.take i).flatten ++ t.take j).foldl addW [] = acc at *
      refine ⟨_, rfl, x, rfl, hx t htm x hxm, fun H8 s8 => ?_⟩
      have h8 := s8 _ _ h7
      refine ⟨_, rfl, ite2 (fun cw => ?_) fun cw => ?_⟩
      · refine ⟨_, rfl, _, rfl, p, _, rfl, .inl (SqL.of h8), rfl, flat_tS _, _, rfl, ?_⟩
        have ec : (if true = true then !inV (vS x) (tS acc) else inV (vS x) (tS acc)) = !acc.contains x := by rw [if_pos rfl, inV_vS]
        show if (if true = true then !inV (vS x) (tS acc) else inV (vS x) (tS acc)) = true then _ else _
        rw [ec]
        refine ite2 (fun ci => ?_) fun ci => ?_
        · refine ⟨_, rfl, .inl ⟨rfl, _, SqL.of h8⟩, _, rfl, p, _, _, rfl, rfl, h8, smallLt (m := 2000) (by rw [tS_len]; omega), ?_⟩
          refine ⟨_, rfl, Same.put (s7.trans s8) hn, ?_⟩
          rw [upd_same, hfold]
          have e : addW acc x = acc ++ [x] := by
            unfold addW
            rw [cw, ci]
            rfl
          rw [e, tS_app]
          rfl
        · refine ⟨_, rfl, s7.trans s8, ?_⟩
          rw [hfold]
          have e : addW acc x = acc := by
            unfold addW
            have : (!acc.contains x) = false := by simpa using ci
            rw [this, Bool.and_false]
            rfl
          rw [e]
          exact h8
      · refine ⟨_, rfl, s7.trans s8, ?_⟩
        rw [hfold]
        have e : addW acc x = acc := by
          unfold addW
          have : asWord x = false := by simpa using cw
          rw [this]
          rfl
        rw [e]
        exact h8
    · rintro σ H7 ⟨v3, rfl, s7, h7⟩
      refine ⟨_, _, rfl, s7, ?_⟩
      rw [h7, tS_len, List.take_length, take_more ht]
      simp
  · rintro σ H' ⟨v2, v3, rfl, s5, h5⟩
    rw [hul, List.take_length] at h5
    refine ⟨_, rfl, _, rfl, p, _, rfl, SqL.of h5, fun q hq => ?_⟩
    have hq0 := s5.free hq
    refine k q _ hq0 (Same.put s5 hq0) ?_
    have e := cutV_take (tS (ts.flatten.foldl addW [])) 12
    rw [upd_same]
    show some (HO.lst (cutV _ none (some ((12 : Nat) : Int)))) = _
    rw [e, linesIn_eq]
    simp [tS]
theorem sc_letters_of : FnScope ["texts", "text", "written", "letter"] ["texts"] (defScope s_letters_of) := ⟨rfl, rfl, rfl, by decide +kernel, rfl, by decide +kernel, by decide +kernel⟩
theorem ok_letters_of (T : Txt K mg) : DOk P w K mg base CX0 1 "letters_of" spLettersOf := by
  obtain ⟨fd, F⟩ := T.f_letters_of
  have sc := sc_letters_of
  obtain ⟨_, c_ALPHABET⟩ := T.v_ALPHABET; obtain ⟨_, c_LETTERS_AT_MOST_family⟩ := T.v_LETTERS_AT_MOST_family
  refine dok F T.g_letters_of (fun _ _ _ _ _ _ us hl => match us, hl with | [_], _ => rfl) sc (fun vs H Q E h => by obtain ⟨_, _, rfl, _⟩ := h; rfl) (fun cdv A outer s H vs Q E hr h => ?_)
  refine ⟨_, PSs.nox (pss_cons (ps_set (i := 2) sc.nd rfl (Or.inr rfl) (pe_joinK (K := K) rfl pe_str (pe_lc (own := [("text", 1)]) rfl sc.nd (pi_listK (K := K) rfl (pv 0)) (blkOk_by (N := ["texts", "text", "written", "letter"]) (sc := defScope s_letters_of) (by decide +kernel)) (fun _ _ _ _ _ => (pg_name (i := 1) sc.nd rfl (Or.inl rfl))) (fun _ _ _ _ _ => pts_nil) (fun _ _ _ _ _ => (pe_joinK (K := K) rfl pe_str (pv 1))))))
  (pss_one (ps_ret (pe_slice (sl_listK (K := K) rfl) (pe_lc (own := [("letter", 3)]) rfl sc.nd (pi_str (pe_glob (v := .str "abcdefghijklmnopqrstuvwxyz") rfl c_ALPHABET ⟨_, rfl⟩)) (blkOk_by (N := ["texts", "text", "written", "letter"]) (sc := defScope s_letters_of) (by decide +kernel)) (fun _ _ _ _ _ => (pg_name (i := 3) sc.nd rfl (Or.inl rfl))) (fun _ _ _ _ _ => (pts_one (pt_cmpR op_in_sign (pv 3) (pv 2) rfl))) (fun _ _ _ _ _ => (pv 3))) po_none (po_some (pe_glob (v := .int (6)) rfl c_LETTERS_AT_MOST_family ⟨_, rfl⟩)))))), ?_⟩
  obtain ⟨a, ts, rfl, ⟨us, ha, hp⟩, hl1, hl2, hx, k⟩ := h
  have hul := paired_len hp
  have hem : (Str.ofString "").length = 0 := by decide +kernel
  have hfl : ∀ t ∈ ts, t.flatten.length ≤ 10000 := fun t ht => by
    have h1 := flat_len t 100 (hx t ht)
    have h2 := hl2 t ht
    omega
  refine ⟨⟨_, rfl⟩, _, rfl, a, rfl, ⟨_, SqL.of ha⟩, fun D hD => ?_⟩
  refine lc_list (K := K) (a := a) (xs := us) (fun i H' => Same H H' ∧ H' D = some (.lst (tS ((ts.map List.flatten).take i)))) ⟨Same.new hD, upd_same⟩ (fun i H' _ ⟨s1, _⟩ => SqL.of (s1 _ _ ha)) ?_ ?_
  · rintro i y H1 hi ⟨s1, h1⟩
    obtain ⟨t, ht, b, rfl, hb⟩ := paired_get hp hi
    have htm := List.mem_of_getElem? ht
    have hm2 : (ts.map List.flatten)[i]? = some t.flatten := by rw [List.getElem?_map, ht]; rfl
    have h2 := sum_lens t 100 (hx t htm)
    have h3 := hl2 t htm
    refine ⟨rfl, ⟨_, rfl⟩, _, rfl, _, b, t.map sOf, rfl, rfl, .inl (SqL.of (by rw [s1 _ _ hb]; simp [tS, vS])), by rw [hem]; omega, ?_⟩
    rw [join_empty]
    refine ⟨_, h1, smallLt (m := 100) (by rw [tS_len, List.length_take, List.length_map]; omega), Same.put s1 hD, ?_⟩
    rw [upd_same, take_more hm2, tS_app]
    rfl
  · rintro H1 ⟨s1, h1⟩
    rw [List.take_of_length_le (by rw [List.length_map]; omega)] at h1
    have h2 := sum_lens (ts.map List.flatten) 10000 (by
      intro x hx
      obtain ⟨t, ht, rfl⟩ := List.mem_map.mp hx
      exact hfl t ht)
    rw [List.length_map] at h2
    refine ⟨_, D, (ts.map List.flatten).map sOf, rfl, rfl, .inl (SqL.of (by rw [h1]; simp [tS, vS])), by rw [hem]; omega, ?_⟩
    rw [join_empty]
    refine ⟨_, rfl, fun D2 hD2 => ?_⟩
    have hD20 := s1.free hD2
    refine lc_it walk_str (fun i H' => Same H H' ∧ H' D2 = some (.lst (tS (((Vasedf.alphabet.take i).filter fun c => ts.any fun t => t.any fun x => x.contains c).map fun c => [c])))) ⟨Same.put s1 hD20, upd_same⟩ (fun _ _ _ _ => trivial) ?_ ?_
    · rintro i y H2 H3 hi ⟨s2, h2⟩ ⟨rfl, c, hc, rfl⟩
      rw [ALPH] at hi hc
      have hi26 : i < 26 := by simpa using hi
      obtain ⟨g1, g2, g3⟩ := alph_get i hi26
      have ec : c = 97 + i := by
        have : (((List.range 26).map fun k => 97 + k).toArray)[i]? = some (97 + i) := by simp [hi26]
        rw [this] at hc
        exact (Option.some.inj hc).symm
      subst ec
      have est := stands ts (UInt8.ofNat (97 + i))
      rw [g3] at est
      refine ⟨rfl, _, rfl, _, rfl, _, _, rfl, rfl, _, rfl, ?_⟩
      show if (decide (97 + i ∈ (sOf (ts.map List.flatten).flatten).cps.toList)) = true then _ else _
      rw [est]
      refine ite2 (fun cc => ?_) fun cc => ?_
      · refine ⟨_, rfl, _, h2, smallLt (m := 100) (by
          have := List.length_filter_le (fun c => ts.any fun t => t.any fun x => x.contains c) (Vasedf.alphabet.take i)
          rw [tS_len, List.length_map]
          simp only [List.length_take] at this
          omega), Same.put s2 hD20, ?_⟩
        rw [upd_same, take_more g1, List.filter_append, List.map_append, tS_app, List.filter_cons, if_pos cc, ← g2]
        rfl
      · refine ⟨s2, ?_⟩
        rw [take_more g1, List.filter_append, List.filter_cons, if_neg cc]
        simp only [List.filter_nil, List.append_nil]
        exact h2
    · rintro H2 ⟨s2, h2⟩
      rw [ALPH] at h2
      have e26 : Vasedf.alphabet.take (((List.range 26).map fun k => 97 + k).toArray).size = Vasedf.alphabet := by decide +kernel
      rw [e26] at h2
      refine ⟨_, rfl, D2, _, rfl, SqL.of h2, fun q hq => ?_⟩
      have hq0 := s2.free hq
      refine k q _ hq0 (Same.put s2 hq0) ?_
      have e := cutV_take (tS ((Vasedf.alphabet.filter fun c => ts.any fun t => t.any fun x => x.contains c).map fun c => [c])) 6
      rw [upd_same]
      show some (HO.lst (cutV _ none (some ((6 : Nat) : Int)))) = _
      rw [e]
      simp [tS, lettersIn, Vasedf.FEW]
end
end Ls
set_option Elab.async false
set_option linter.all false
set_option maxRecDepth 100000
set_option maxHeartbeats 4000000
/-! Comprehensions whose items stand for data. -/
namespace Ls
open PySem PySem.Spec PyProof.Rows L2
variable {K : PySem.W.Frag}
/-- a comprehension without a test: its items stand, one by one, for out -/
theorem lc_rep2 {β : Type} {J : It} {n : Nat} {G : Hp → Prop} {Y : Nat → Hp → V → Hp → Prop} (w : Walk J n G Y) {g : TG} {te : TE} {vs : List Nat} {σ : L2.St} {H1 : Hp} {D : Addr} {Qd : Hp → Prop} (hD : H1 D = none)
    (R : Hp → V → β → Prop) (monoS : ∀ H H' v b, Same H H' → R H v b → R H' v b) (monoD : ∀ H acc ys v b, H D = some (.lst acc) → R H v b → R (upd H D (.lst ys)) v b) (out : List β) (hlen : out.length = n) (hsz : n ≤ 10000) (hG : ∀ H, Same H1 H → G H)
    (step : ∀ i x b H2 H3 (Q : VK), i < n → out[i]? = some b → Same H1 H2 → (∃ acc, H2 D = some (.lst acc)) → Y i H2 x H3 → (∀ y H4, Same H2 H4 → R H4 y b → Q y H4) → g x (wipe σ vs) H3 fun σ2 H4 => wipe σ2 vs = wipe σ vs ∧ te σ2 H4 Q)
    (fin : ∀ ys H2, Same H1 H2 → H2 D = some (.lst ys) → Paired (R H2) ys out → Qd H2) :
    ∃ W : Nat → Nat → Hp → Prop, (∃ m, W 0 m (upd H1 D (.lst []))) ∧ ∀ i m H, W i m H →
      (J.stop i H ∧ Qd H) ∨ (J.go i H ∧ ∃ Nx : Hp → Prop, (∀ H', Nx H' → ∃ m', m' < m ∧ W (i + 1) m' H') ∧ ∀ x H', J.yld i H x H' → g x (wipe σ vs) H' fun σ2 H2 => wipe σ2 vs = wipe σ vs ∧ tYes σ2 H2 fun b H3 =>
        if b = true then te σ2 H3 fun y H4 => ∃ acc, H4 D = some (.lst acc) ∧ acc.length < sizeLine ∧ Nx (upd H4 D (.lst (acc ++ [y]))) else Nx H3) := by
  refine lc_it w (fun i H' => Same H1 H' ∧ ∃ ys, H' D = some (.lst ys) ∧ Paired (R H') ys (out.take i)) ⟨Same.new hD, [], upd_same, .nil⟩ (fun i H' _ ⟨s, _⟩ => hG H' s) ?_ ?_
  · rintro i x H2 H3 hi ⟨s2, ys, h2, p2⟩ y
    obtain ⟨b, hb⟩ : ∃ b, out[i]? = some b := ⟨out[i]'(by omega), by simp⟩
    refine step i x b H2 H3 _ hi hb s2 ⟨_, h2⟩ y fun v H4 s4 r4 => ?_
    have hl := paired_len p2
    have h4 := s4 _ _ h2
    refine ⟨ys, h4, smallLt (m := 20000) (by rw [hl, List.length_take]; omega), Same.put (s2.trans s4) hD, ys ++ [v], upd_same, ?_⟩
    rw [take_more hb]
    exact paired_app (paired_imp (fun _ _ q => monoD _ _ _ _ _ h4 (monoS _ _ _ _ s4 q)) p2) (.cons (monoD _ _ _ _ _ h4 r4) .nil)
  · rintro H2 ⟨s2, ys, h2, p2⟩
    rw [List.take_of_length_le (by omega)] at p2
    exact fin ys H2 s2 h2 p2
theorem lc_rep {β : Type} {J : It} {n : Nat} {G : Hp → Prop} {Y : Nat → Hp → V → Hp → Prop} (w : Walk J n G Y) {g : TG} {te : TE} {vs : List Nat} {σ : L2.St} {H1 : Hp} {D : Addr} {Qd : Hp → Prop} (hD : H1 D = none)
    (R : Hp → V → β → Prop) (mono : ∀ H H' v b, Imm K H H' → R H v b → R H' v b) (out : List β) (hlen : out.length = n) (hsz : n ≤ 10000) (hG : ∀ H, Same H1 H → G H)
    (step : ∀ i x b H2 H3 (Q : VK), i < n → out[i]? = some b → Same H1 H2 → Y i H2 x H3 → (∀ y H4, Same H2 H4 → R H4 y b → Q y H4) → g x (wipe σ vs) H3 fun σ2 H4 => wipe σ2 vs = wipe σ vs ∧ te σ2 H4 Q)
    (fin : ∀ ys H2, Same H1 H2 → H2 D = some (.lst ys) → Paired (R H2) ys out → Qd H2) :
    ∃ W : Nat → Nat → Hp → Prop, (∃ m, W 0 m (upd H1 D (.lst []))) ∧ ∀ i m H, W i m H →
      (J.stop i H ∧ Qd H) ∨ (J.go i H ∧ ∃ Nx : Hp → Prop, (∀ H', Nx H' → ∃ m', m' < m ∧ W (i + 1) m' H') ∧ ∀ x H', J.yld i H x H' → g x (wipe σ vs) H' fun σ2 H2 => wipe σ2 vs = wipe σ vs ∧ tYes σ2 H2 fun b H3 =>
        if b = true then te σ2 H3 fun y H4 => ∃ acc, H4 D = some (.lst acc) ∧ acc.length < sizeLine ∧ Nx (upd H4 D (.lst (acc ++ [y]))) else Nx H3) :=
  lc_rep2 w hD R (fun _ _ _ _ s r => mono _ _ _ _ (Same.imm s) r) (fun _ _ _ _ _ h r => mono _ _ _ _ (Imm.put h) r) out hlen hsz hG (fun i x b H2 H3 Q hi hb s _ y k => step i x b H2 H3 Q hi hb s y k) fin
/-- a def that gives back a new list whose items stand for out -/
def NewR {β : Type} (R : Hp → V → β → Prop) (out : List β) (H : Hp) (Q : VK) : Prop := ∀ p H' ys, H p = none → Same H H' → H' p = some (.lst ys) → Paired (R H') ys out → Q (.ref p) H'
theorem repA_imm {H H' : Hp} {v : V} {a : VAddr} (s : Imm K H H') (r : RepA H v a) : RepA H' v a := r.mono (Imm.tups s)
theorem repD_imm {H H' : Hp} {v : V} {d : VDeed} (s : Imm K H H') (r : RepD H v d) : RepD H' v d := r.mono (Imm.tups s)
theorem paired_map_vS : ∀ {l : List Ln}, Paired (fun v x => v = vS x) (tS l) l
  | [] => .nil
  | _ :: _ => .cons rfl paired_map_vS
end Ls
set_option Elab.async false
set_option linter.all false
set_option maxRecDepth 100000
set_option maxHeartbeats 4000000
/-! family: addresses_of -/
namespace Ls
open PySem PySem.Spec PyProof.Rows L2
open Vasedf (asWord linesIn lettersIn most some_ addrs)
/-- what may be held: at most 4 examples of texts of at most 6 lines of at most 16 letters -/
def okTx (t : List Ln) : Prop := t.length ≤ 6 ∧ ∀ x ∈ t, x.length ≤ 16
def okE (es : List VEx) : Prop := es.length ≤ 4 ∧ ∀ e ∈ es, okTx e.a ∧ okTx e.b
theorem ex_before (b c : V) : List.lookup (Str.ofString "before") [(Str.ofString "before", b), (Str.ofString "after", c)] = some b := lk_here
theorem ex_after (b c : V) : List.lookup (Str.ofString "after") [(Str.ofString "before", b), (Str.ofString "after", c)] = some c := (lk_past (by decide +kernel)).trans lk_here
theorem okTs {ts : List (List Ln)} (h : ts.length ≤ 4 ∧ ∀ t ∈ ts, okTx t) : ts.flatten.length ≤ 1000 ∧ (∀ t ∈ ts, t.length ≤ 100) ∧ ∀ t ∈ ts, ∀ x ∈ t, x.length ≤ 100 := by
  have h1 : ∀ l : List (List Ln), (∀ t ∈ l, okTx t) → l.flatten.length ≤ 6 * l.length := by
    intro l
    induction l with
    | nil => simp
    | cons t l ih =>
      intro hl
      have h2 := (hl t (List.mem_cons_self ..)).1
      have h3 := ih fun z hz => hl z (List.mem_cons_of_mem _ hz)
      simp only [List.flatten_cons, List.length_append, List.length_cons]
      omega
  have h2 := h1 ts h.2
  exact ⟨by omega, fun t ht => by have := (h.2 t ht).1; omega, fun t ht x hx => by have := (h.2 t ht).2 x hx; omega⟩
theorem okE_a {es : List VEx} (h : okE es) : (es.map (·.a)).length ≤ 4 ∧ ∀ t ∈ es.map (·.a), okTx t := ⟨by rw [List.length_map]; exact h.1, fun t ht => by
  obtain ⟨e, he, rfl⟩ := List.mem_map.mp ht
  exact (h.2 e he).1⟩
theorem okE_b {es : List VEx} (h : okE es) : (es.map (·.b)).length ≤ 4 ∧ ∀ t ∈ es.map (·.b), okTx t := ⟨by rw [List.length_map]; exact h.1, fun t ht => by
  obtain ⟨e, he, rfl⟩ := List.mem_map.mp ht
  exact (h.2 e he).2⟩
theorem foldmax (l : List Nat) : ∀ a, a ≤ l.foldl Nat.max a ∧ (∀ x ∈ l, x ≤ l.foldl Nat.max a) ∧ (l.foldl Nat.max a = a ∨ l.foldl Nat.max a ∈ l) := by
  induction l with
  | nil => intro a; simp
  | cons x l ih =>
    intro a
    obtain ⟨h1, h2, h3⟩ := ih (Nat.max a x)
    simp only [List.foldl_cons]
    have ha : a ≤ Nat.max a x := Nat.le_max_left _ _
    have hx : x ≤ Nat.max a x := Nat.le_max_right _ _
    refine ⟨by omega, ?_, ?_⟩
    · intro y hy
      rcases List.mem_cons.mp hy with rfl | hy
      · omega
      · exact h2 y hy
    · rcases h3 with h3 | h3
      · rw [h3]
        by_cases h : a ≤ x
        · right
          have : Nat.max a x = x := Nat.max_eq_right h
          rw [this]
          exact List.mem_cons_self ..
        · left
          exact Nat.max_eq_left (by omega)
      · right
        exact List.mem_cons_of_mem _ h3
theorem most_is (ts : List (List Ln)) (m : Int) (hm : m ∈ ts.map fun t => (t.length : Int)) (hx : ∀ z, z ∈ (ts.map fun t => (t.length : Int)) → z ≤ m) : m = (most ts : Nat) := by
  obtain ⟨t, ht, rfl⟩ := List.mem_map.mp hm
  obtain ⟨_, h2, h3⟩ := foldmax (ts.map fun t => t.length) 0
  have h4 := h2 t.length (List.mem_map.mpr ⟨t, ht, rfl⟩)
  have h5 : most ts = (ts.map fun t => t.length).foldl Nat.max 0 := rfl
  rw [h5]
  rcases h3 with h3 | h3
  · rw [h3] at h4 ⊢
    omega
  · obtain ⟨u, hu, eu⟩ := List.mem_map.mp h3
    have h6 := hx u.length (List.mem_map.mpr ⟨u, hu, rfl⟩)
    omega
theorem most_le {ts : List (List Ln)} (h : ∀ t ∈ ts, okTx t) : most ts ≤ 6 := by
  obtain ⟨_, _, h3⟩ := foldmax (ts.map fun t => t.length) 0
  have h5 : most ts = (ts.map fun t => t.length).foldl Nat.max 0 := rfl
  rw [h5]
  rcases h3 with h3 | h3
  · omega
  · obtain ⟨u, hu, eu⟩ := List.mem_map.mp h3
    have := (h u hu).1
    omega
def spAddrs (K : PySem.W.Frag) : Sp := fun vs H Q _ => ∃ (a : Addr) (es : List VEx), vs = [.ref a] ∧ RepE K H a es ∧ okE es ∧ NewR RepA (addrs es) H Q
theorem befores {K : PySem.W.Frag} {H : Hp} : ∀ {us : List V} {es : List VEx}, Paired (RepX K H) us es → ∃ bs : List V, Paired (RepT H) bs (es.map (·.a)) ∧
    ∀ (i : Nat) (u : V), us[i]? = some u → ∃ (p dx b : Addr) (c : V), u = .ref p ∧ H p = some (.ins (He.ga K "Example") dx [("before", .ref b), ("after", c)]) ∧ bs[i]? = some (.ref b)
  | _, _, .nil => ⟨[], .nil, fun i u h => by simp at h⟩
  | _, _, .cons (a := u) (b := e) ⟨p, dx, b, c, q, h, hb, hc⟩ t => by
    obtain ⟨bs, h1, h2⟩ := befores t
    refine ⟨.ref b :: bs, .cons ⟨b, rfl, hb⟩ h1, fun i v hv => ?_⟩
    cases i with
    | zero =>
      simp at hv
      subst hv
      exact ⟨p, dx, b, _, q, h, rfl⟩
    | succ i => exact h2 i v (by simpa using hv)
theorem afters {K : PySem.W.Frag} {H : Hp} : ∀ {us : List V} {es : List VEx}, Paired (RepX K H) us es → ∃ bs : List V, Paired (RepT H) bs (es.map (·.b)) ∧
    ∀ (i : Nat) (u : V), us[i]? = some u → ∃ (p dx : Addr) (b : V) (c : Addr), u = .ref p ∧ H p = some (.ins (He.ga K "Example") dx [("before", b), ("after", .ref c)]) ∧ bs[i]? = some (.ref c)
  | _, _, .nil => ⟨[], .nil, fun i u h => by simp at h⟩
  | _, _, .cons (a := u) (b := e) ⟨p, dx, b, c, q, h, hb, hc⟩ t => by
    obtain ⟨bs, h1, h2⟩ := afters t
    refine ⟨.ref c :: bs, .cons ⟨c, rfl, hc⟩ h1, fun i v hv => ?_⟩
    cases i with
    | zero =>
      simp at hv
      subst hv
      exact ⟨p, dx, _, c, q, h, rfl⟩
    | succ i => exact h2 i v (by simpa using hv)
theorem max_most (ts : List (List Ln)) : maxD 0 (ts.map fun t => (t.length : Int)) = (most ts : Nat) := by
  cases ts with
  | nil => rfl
  | cons t ts =>
    obtain ⟨h1, h2, h3⟩ := fold_max (ts.map fun t => (t.length : Int)) (t.length : Int)
    refine most_is _ _ ?_ fun z hz => ?_
    · show List.foldl max _ _ ∈ (_ :: _ : List Int)
      rcases h3 with h3 | h3
      · rw [h3]; exact List.mem_cons_self ..
      · exact List.mem_cons_of_mem _ h3
    · rcases List.mem_cons.mp hz with rfl | hz
      · exact h1
      · exact h2 z hz
theorem linesIn_len (ts : List (List Ln)) : (linesIn ts).length ≤ 12 := by
  unfold linesIn
  rw [List.length_take]
  exact Nat.min_le_left _ _
theorem lettersIn_len (ts : List (List Ln)) : (lettersIn ts).length ≤ 6 := by
  unfold lettersIn
  rw [List.length_take]
  exact Nat.min_le_left _ _
theorem RepT.sames {H H' : Hp} (s : Same H H') {bs : List V} {ts : List (List Ln)} (h : Paired (RepT H) bs ts) : Paired (RepT H') bs ts := paired_imp (fun _ _ q => q.same s) h
theorem ext_step {β : Type} {R : Hp → V → β → Prop} {K : PySem.W.Frag} (mono : ∀ H H' v b, Imm K H H' → R H v b → R H' v b) {H1 H2 H3 : Hp} {l : Addr} {vs ys : List V} {as bs : List β} (hl : H1 l = none) (s : Same H1 H2)
    (h : H2 l = some (.lst vs)) (r : Paired (R H2) vs as) (s3 : Same H2 H3) (r3 : Paired (R H3) ys bs) :
    Same H1 (upd H3 l (.lst (vs ++ ys))) ∧ upd H3 l (.lst (vs ++ ys)) l = some (.lst (vs ++ ys)) ∧ Paired (R (upd H3 l (.lst (vs ++ ys)))) (vs ++ ys) (as ++ bs) := by
  have im : Imm K H3 (upd H3 l (.lst (vs ++ ys))) := Imm.put (s3 _ _ h)
  exact ⟨Same.put (s.trans s3) hl, upd_same, paired_app (paired_imp (fun _ _ q => mono _ _ _ _ ((Same.imm s3).trans im) q) r) (paired_imp (fun _ _ q => mono _ _ _ _ im q) r3)⟩
section
variable {P : Program} {w : World} {K : PySem.W.Frag} {mg : Str → Option Value} {base : Heap}
theorem sc_addresses_of : FnScope ["examples", "example", "befores", "text", "most_lines", "plain", "number", "line", "letter", "address"] ["examples"] (defScope s_addresses_of) := ⟨rfl, rfl, rfl, by decide +kernel, rfl, by decide +kernel, by decide +kernel⟩
theorem ok_addresses_of (T : Txt K mg) : DOk P w K mg base CX0 3 "addresses_of" (spAddrs K) := by
  obtain ⟨fd, F⟩ := T.f_addresses_of
  have sc := sc_addresses_of
  have K_lines_of : DOk P w K mg base CX0 2 "lines_of" spLinesOf := ok_lines_of T
  have K_letters_of : DOk P w K mg base CX0 1 "letters_of" spLettersOf := ok_letters_of T
  refine dok F T.g_addresses_of (fun _ _ _ _ _ _ us hl => match us, hl with | [_], _ => rfl) sc (fun vs H Q E h => by obtain ⟨_, _, rfl, _⟩ := h; rfl) (fun cdv A outer s H vs Q E hr h => ?_)
  refine ⟨_, PSs.nox (pss_cons (ps_setLc (own := [("example", 1)]) (i := 2) rfl sc.nd rfl rfl (sw_true rfl rfl rfl (by decide +kernel)) (pi_listK (K := K) rfl (pv 0)) (blkOk_by (N := ["examples", "example", "befores", "text", "most_lines", "plain", "number", "line", "letter", "address"]) (sc := defScope s_addresses_of) (by decide +kernel)) (fun _ _ _ _ _ => (pg_name (i := 1) sc.nd rfl (Or.inl rfl))) (fun _ _ _ _ _ => pts_nil) (fun _ _ _ _ _ => (pe_fldK (K := K) rfl (pv 1) rfl)))
  (pss_cons (ps_set (i := 4) sc.nd rfl (Or.inl rfl) (pe_callBK (cr_maxD (K := K) rfl rfl) rfl T.b_max boot_max (pa_cons (pe_lc (own := [("text", 3)]) rfl sc.nd (pi_listK (K := K) rfl (pv 2)) (blkOk_by (N := ["examples", "example", "befores", "text", "most_lines", "plain", "number", "line", "letter", "address"]) (sc := defScope s_addresses_of) (by decide +kernel)) (fun _ _ _ _ _ => (pg_name (i := 3) sc.nd rfl (Or.inl rfl))) (fun _ _ _ _ _ => pts_nil) (fun _ _ _ _ _ => (pe_callB (call_len_seqK (K := K) rfl) rfl T.b_len boot_len (pa_cons (pv 3) pa_nil)))) pa_nil) (pk_cons pe_int pk_nil)))
  (pss_cons (ps_set (i := 5) sc.nd rfl (Or.inl rfl) (pe_lst (pa_cons (pe_tup (pa_cons pe_str pa_nil)) pa_nil)))
  (pss_cons (ps_expr (pe_bmK (K := K) rfl PySem.F.plainAttrs_list PySem.F.slot_list_extend PySem.F.type_list_extend mt_extend (pv 5) (pa_cons (pe_lc (own := [("number", 6)]) rfl sc.nd (pi_range2 rfl T.b_range (pa_cons pe_int (pa_cons (pe_op op_add (pv 4) pe_int) pa_nil))) (blkOk_by (N := ["examples", "example", "befores", "text", "most_lines", "plain", "number", "line", "letter", "address"]) (sc := defScope s_addresses_of) (by decide +kernel)) (fun _ _ _ _ _ => (pg_name (i := 6) sc.nd rfl (Or.inl rfl))) (fun _ _ _ _ _ => pts_nil) (fun _ _ _ _ _ => (pe_tup (pa_cons pe_str (pa_cons (pv 6) pa_nil))))) pa_nil)))
  (pss_cons (ps_expr (pe_bmK (K := K) rfl PySem.F.plainAttrs_list PySem.F.slot_list_extend PySem.F.type_list_extend mt_extend (pv 5) (pa_cons (pe_lc (own := [("line", 7)]) rfl sc.nd (pi_listK (K := K) rfl (pe_d K_lines_of hr (by first | decide | omega) rfl (pa_cons (pv 2) pa_nil))) (blkOk_by (N := ["examples", "example", "befores", "text", "most_lines", "plain", "number", "line", "letter", "address"]) (sc := defScope s_addresses_of) (by decide +kernel)) (fun _ _ _ _ _ => (pg_name (i := 7) sc.nd rfl (Or.inl rfl))) (fun _ _ _ _ _ => pts_nil) (fun _ _ _ _ _ => (pe_tup (pa_cons pe_str (pa_cons (pv 7) pa_nil))))) pa_nil)))
  (pss_cons (ps_expr (pe_bmK (K := K) rfl PySem.F.plainAttrs_list PySem.F.slot_list_extend PySem.F.type_list_extend mt_extend (pv 5) (pa_cons (pe_lc (own := [("letter", 8)]) rfl sc.nd (pi_listK (K := K) rfl (pe_d K_letters_of hr (by first | decide | omega) rfl (pa_cons (pv 2) pa_nil))) (blkOk_by (N := ["examples", "example", "befores", "text", "most_lines", "plain", "number", "line", "letter", "address"]) (sc := defScope s_addresses_of) (by decide +kernel)) (fun _ _ _ _ _ => (pg_name (i := 8) sc.nd rfl (Or.inl rfl))) (fun _ _ _ _ _ => pts_nil) (fun _ _ _ _ _ => (pe_tup (pa_cons pe_str (pa_cons (pv 8) pa_nil))))) pa_nil)))
  (pss_one (ps_ret (pe_op op_cat (pe_op op_cat (pe_lst (pa_cons (pe_tup (pa_cons pe_str pa_nil)) pa_nil)) (pv 5)) (pe_lc (own := [("address", 9)]) rfl sc.nd (pi_listK (K := K) rfl (pv 5)) (blkOk_by (N := ["examples", "example", "befores", "text", "most_lines", "plain", "number", "line", "letter", "address"]) (sc := defScope s_addresses_of) (by decide +kernel)) (fun _ _ _ _ _ => (pg_name (i := 9) sc.nd rfl (Or.inl rfl))) (fun _ _ _ _ _ => pts_nil) (fun _ _ _ _ _ => (pe_tup (pa_cons pe_str (pa_cons (pv 9) pa_nil)))))))))))))), ?_⟩
  obtain ⟨a, es, rfl, ⟨us, ha, hp⟩, hok, k⟩ := h
  have hul := paired_len hp
  have hes : us.length ≤ 4 := by rw [hul]; exact hok.1
  obtain ⟨bs, hbs, hbi⟩ := befores hp
  have hbl : bs.length = us.length := by rw [paired_len hbs, List.length_map, hul]
  obtain ⟨ts1, ts2⟩ := okE_a hok
  obtain ⟨tz1, tz2, tz3⟩ := okTs ⟨ts1, ts2⟩
  generalize hts : es.map (·.a) = ts at *
  have hml := most_le ts2
  refine ⟨_, rfl, a, rfl, ⟨_, SqL.of ha⟩, fun B hB => ?_⟩
  refine lc_list (K := K) (a := a) (xs := us) (fun i H' => Same H H' ∧ H' B = some (.lst (bs.take i))) ⟨Same.new hB, upd_same⟩ (fun i H1 _ ⟨s1, _⟩ => SqL.of (s1 _ _ ha)) ?_ ?_
  · rintro i y H1 hi ⟨s1, h1⟩
    obtain ⟨p, dx, b, c, rfl, hpp, hb⟩ := hbi i y hi
    refine ⟨rfl, _, rfl, p, _, dx, _, _, rfl, s1 _ _ hpp, T.c_Example, T.n_Example_before, ex_before _ _, _, h1, smallLt (m := 100) (by rw [List.length_take]; omega), Same.put s1 hB, ?_⟩
    rw [upd_same, take_more hb]
  rintro H1 ⟨s1, h1⟩
  rw [← hbl, List.take_length] at h1
  have hbs1 := RepT.sames s1 hbs
  have rts : ∀ H', Same H1 H' → RepTs H' B ts := fun H' s' => ⟨bs, s' _ _ h1, RepT.sames s' hbs1⟩
  refine ⟨_, rfl, B, rfl, ⟨_, SqL.of h1⟩, fun D hD => ?_⟩
  refine lc_list (K := K) (a := B) (xs := bs) (fun i H' => Same H1 H' ∧ H' D = some (.lst ((ts.map fun t => V.int (t.length : Nat)).take i))) ⟨Same.new hD, upd_same⟩ (fun i H1 _ ⟨s1, _⟩ => SqL.of (s1 _ _ h1)) ?_ ?_
  · rintro i y H2 hi ⟨s2, h2⟩
    obtain ⟨t, ht, b, rfl, hb⟩ := paired_get hbs1 hi
    have hm2 : (ts.map fun t => V.int (t.length : Nat))[i]? = some (V.int (t.length : Nat)) := by rw [List.getElem?_map, ht]; rfl
    refine ⟨rfl, _, rfl, b, _, rfl, .inl (SqL.of (s2 _ _ hb)), _, h2, smallLt (m := 100) (by rw [List.length_take, List.length_map]; omega), Same.put s2 hD, ?_⟩
    rw [upd_same, take_more hm2, tS_len]
  rintro H2 ⟨s2, h2⟩
  have htl : ts.length = bs.length := (paired_len hbs1).symm
  rw [List.take_of_length_le (by rw [List.length_map]; omega)] at h2
  refine ⟨D, ts.map fun t => (t.length : Int), 0, rfl, rfl, SqL.of (by rw [h2, List.map_map]; rfl), ?_⟩
  rw [show maxD 0 (ts.map fun t => (t.length : Int)) = (most ts : Nat) from max_most ts]
  have s12 := s1.trans s2
  generalize hmost : most ts = m at *
  refine ⟨small (m := 10) (by show 1 ≤ 10; decide), fun p0 hp0 => ⟨small (m := 10) (by show 1 ≤ 10; decide), fun l hl => ?_⟩⟩
  have s3 := Same.new (o := HO.tup [V.str (Str.ofString "last")]) hp0
  have hl1 : H1 l = none := s2.free (s3.free hl)
  have g3 : Same H1 (upd (upd H2 p0 (HO.tup [V.str (Str.ofString "last")])) l (.lst [.ref p0])) ∧ (upd (upd H2 p0 (HO.tup [V.str (Str.ofString "last")])) l (.lst [.ref p0])) l = some (.lst [.ref p0]) ∧
      Paired (RepA (upd (upd H2 p0 (HO.tup [V.str (Str.ofString "last")])) l (.lst [.ref p0]))) [.ref p0] [Vaseda.Addr.last] :=
    ⟨Same.put (s2.trans s3) hl1, upd_same, .cons ⟨p0, rfl, by rw [upd_ne (ne_of_none upd_same hl)]; exact upd_same⟩ .nil⟩
  generalize upd (upd H2 p0 (HO.tup [V.str (Str.ofString "last")])) l (.lst [.ref p0]) = H3 at *
  obtain ⟨s3', h3, r3⟩ := g3
  refine ⟨_, rfl, .inl ⟨rfl, _, SqL.of h3⟩, ?_⟩
  refine ⟨_, rfl, _, _, rfl, rfl, 1, ((m : Int) + 1), rfl, by omega, fun D4 hD4 => ?_⟩
  refine lc_rep (K := K) (walk_range (lo := 1) (n := ((m : Int) + 1 - 1).toNat)) hD4 RepA (fun _ _ _ _ s r => repA_imm s r) ((List.range m).map fun k => Vaseda.Addr.line (k + 1)) (by rw [List.length_map, List.length_range]; omega) (by omega) (fun _ _ => trivial) ?_ ?_
  · rintro i x b H4 H5 Q4 hi hb s4 ⟨rfl, rfl⟩ kq
    rw [List.getElem?_map, List.getElem?_range (by omega)] at hb
    cases hb
    refine ⟨rfl, _, rfl, small (m := 10) (by show 2 ≤ 10; decide), fun p hp => kq _ _ (Same.new hp) ⟨p, rfl, ?_⟩⟩
    rw [upd_same]
    show some (HO.tup [V.str (Str.ofString "line"), V.int (1 + (i : Int))]) = some (HO.tup [V.str (Str.ofString "line"), V.int ((i + 1 : Nat) : Int)])
    have e : (1 : Int) + (i : Int) = ((i + 1 : Nat) : Int) := by omega
    rw [e]
  rintro ys4 G4 sD4 hy4 ry4
  have ly4 := paired_len ry4
  refine ⟨l, D4, _, ys4, rfl, rfl, sD4 _ _ h3, hy4, small (m := 200) (by rw [paired_len r3, ly4]; simp only [List.length_append, List.length_map, List.length_range, List.length_cons, List.length_nil]; omega), ?_⟩
  have g4 := ext_step (R := RepA) (K := K) (fun _ _ _ _ s r => repA_imm s r) hl1 s3' h3 r3 sD4 ry4
  generalize upd G4 l _ = H7 at *
  obtain ⟨s7', h7, r7⟩ := g4
  refine ⟨_, rfl, .inl ⟨rfl, _, SqL.of h7⟩, ?_⟩
  refine ⟨_, rfl, B, ts, rfl, rts _ s7', tz1, tz3, fun L5 H8 hL5 s8 h8 => ?_⟩
  refine ⟨L5, rfl, ⟨_, SqL.of h8⟩, fun D5 hD5 => ?_⟩
  refine lc_rep (K := K) (walk_list (xs := tS (Vasedf.linesIn ts))) hD5 RepA (fun _ _ _ _ s r => repA_imm s r) ((Vasedf.linesIn ts).map Vaseda.Addr.is_) (by rw [List.length_map, tS_len]) (by rw [tS_len]; have := linesIn_len ts; omega) (fun _ s => SqL.of (s _ _ h8)) ?_ ?_
  · rintro i x b H9 H10 Q4 hi hb s9 ⟨rfl, hx⟩ kq
    obtain ⟨z, hz, rfl⟩ := tS_get hx
    rw [List.getElem?_map, hz] at hb
    cases hb
    exact ⟨rfl, _, rfl, small (m := 10) (by show 2 ≤ 10; decide), fun p hp => kq _ _ (Same.new hp) ⟨p, rfl, upd_same⟩⟩
  rintro ys5 G5 sD5 hy5 ry5
  have ly5 := paired_len ry5
  have hlin := linesIn_len ts
  have sl5 := s8.trans sD5
  refine ⟨l, D5, _, ys5, rfl, rfl, sl5 _ _ h7, hy5, small (m := 200) (by rw [paired_len r7, ly5]; simp only [List.length_append, List.length_map, List.length_range, List.length_cons, List.length_nil]; omega), ?_⟩
  have g5 := ext_step (R := RepA) (K := K) (fun _ _ _ _ s r => repA_imm s r) hl1 s7' h7 r7 sl5 ry5
  generalize upd G5 l _ = H11 at *
  obtain ⟨s11, h11, r11⟩ := g5
  refine ⟨_, rfl, .inl ⟨rfl, _, SqL.of h11⟩, ?_⟩
  refine ⟨_, rfl, B, ts, rfl, rts _ s11, by omega, tz2, tz3, fun L6 H12 hL6 s12' h12 => ?_⟩
  refine ⟨L6, rfl, ⟨_, SqL.of h12⟩, fun D7 hD7 => ?_⟩
  refine lc_rep (K := K) (walk_list (xs := tS ((Vasedf.lettersIn ts).map fun c => [c]))) hD7 RepA (fun _ _ _ _ s r => repA_imm s r) ((Vasedf.lettersIn ts).map fun c => Vaseda.Addr.has [c]) (by rw [List.length_map, tS_len, List.length_map]) (by rw [tS_len, List.length_map]; have := lettersIn_len ts; omega) (fun _ s => SqL.of (s _ _ h12)) ?_ ?_
  · rintro i x b H9 H10 Q4 hi hb s9 ⟨rfl, hx⟩ kq
    obtain ⟨z, hz, rfl⟩ := tS_get hx
    rw [List.getElem?_map] at hz hb
    cases hc : (Vasedf.lettersIn ts)[i]? with
    | none => rw [hc] at hb; cases hb
    | some c =>
      rw [hc] at hz hb
      cases hz
      cases hb
      exact ⟨rfl, _, rfl, small (m := 10) (by show 2 ≤ 10; decide), fun p hp => kq _ _ (Same.new hp) ⟨p, rfl, upd_same⟩⟩
  rintro ys6 G6 sD6 hy6 ry6
  have ly6 := paired_len ry6
  have hlet := lettersIn_len ts
  have sl6 := s12'.trans sD6
  refine ⟨l, D7, _, ys6, rfl, rfl, sl6 _ _ h11, hy6, small (m := 200) (by rw [paired_len r11, ly6]; simp only [List.length_append, List.length_map, List.length_range, List.length_cons, List.length_nil]; omega), ?_⟩
  have g6 := ext_step (R := RepA) (K := K) (fun _ _ _ _ s r => repA_imm s r) hl1 s11 h11 r11 sl6 ry6
  generalize upd G6 l _ = H13 at *
  obtain ⟨s13, h13, r13⟩ := g6
  have eS : ([Vaseda.Addr.last] ++ (List.range m).map (fun k => Vaseda.Addr.line (k + 1)) ++ (Vasedf.linesIn ts).map Vaseda.Addr.is_ ++ (Vasedf.lettersIn ts).map fun c => Vaseda.Addr.has [c]) = some_ es := by
    unfold some_
    rw [hts]
    show _ = Vaseda.Addr.last :: (List.map _ (List.range (most ts)) ++ _)
    rw [hmost]
    simp only [List.append_assoc, List.cons_append, List.nil_append]
  rw [eS] at r13
  have lsm : (some_ es).length ≤ 30 := by
    rw [← eS]
    simp only [List.length_append, List.length_map, List.length_range, List.length_cons, List.length_nil]
    omega
  have l13 := paired_len r13
  generalize [V.ref p0] ++ ys4 ++ ys5 ++ ys6 = vs at *
  refine ⟨small (m := 10) (by show 1 ≤ 10; decide), fun q0 hq0 => ⟨small (m := 10) (by show 1 ≤ 10; decide), fun lq hlq => ?_⟩⟩
  have sq0 := Same.new (o := HO.tup [V.str (Str.ofString "all")]) hq0
  have sq1 := Same.new (o := HO.lst [V.ref q0]) hlq
  refine ⟨_, rfl, lq, l, _, _, rfl, rfl, upd_same, sq1 _ _ (sq0 _ _ h13), small (m := 100) (by simp only [List.length_singleton]; omega), fun c1 hc1 => ?_⟩
  have sq2 := Same.new (o := HO.lst ([V.ref q0] ++ vs)) hc1
  have s14 := (sq0.trans sq1).trans sq2
  have h14 : RepA (upd (upd (upd H13 q0 (HO.tup [V.str (Str.ofString "all")])) lq (HO.lst [V.ref q0])) c1 (HO.lst ([V.ref q0] ++ vs))) (.ref q0) .all := ⟨q0, rfl, (sq1.trans sq2) _ _ upd_same⟩
  have h14c : upd (upd (upd H13 q0 (HO.tup [V.str (Str.ofString "all")])) lq (HO.lst [V.ref q0])) c1 (HO.lst ([V.ref q0] ++ vs)) c1 = some (HO.lst ([V.ref q0] ++ vs)) := upd_same
  generalize upd (upd (upd H13 q0 (HO.tup [V.str (Str.ofString "all")])) lq (HO.lst [V.ref q0])) c1 (HO.lst ([V.ref q0] ++ vs)) = H14 at *
  refine ⟨_, rfl, l, rfl, ⟨_, SqL.of (s14 _ _ h13)⟩, fun D9 hD9 => ?_⟩
  refine lc_rep (K := K) (walk_list (xs := vs)) hD9 RepA (fun _ _ _ _ s r => repA_imm s r) ((some_ es).map Vaseda.Addr.not) (by rw [List.length_map]; omega) (by omega) (fun _ s => SqL.of (s _ _ (s14 _ _ h13))) ?_ ?_
  · rintro i x b H9 H10 Q4 hi hb s9 ⟨rfl, hx⟩ kq
    obtain ⟨z, hz, rz⟩ := paired_get r13 hx
    rw [List.getElem?_map, hz] at hb
    cases hb
    refine ⟨rfl, _, rfl, small (m := 10) (by show 2 ≤ 10; decide), fun p hp => kq _ _ (Same.new hp) ⟨p, x, rfl, upd_same, RepA.mono (Same.tups ?_) rz⟩⟩
    exact (s14.trans s9).trans (Same.new hp)
  rintro ys9 G9 s15 hy9 ry9
  have l9 := paired_len ry9
  refine ⟨c1, D9, _, ys9, rfl, rfl, s15 _ _ h14c, hy9, small (m := 100) (by rw [l9]; simp only [List.length_append, List.length_map, List.length_singleton]; omega), fun q hq => ?_⟩
  have sall : Same H G9 := (s1.trans s13).trans (s14.trans s15)
  have hq0 : H q = none := sall.free hq
  refine k q _ _ hq0 (Same.put sall hq0) upd_same ?_
  have sn := Same.new (o := HO.lst (([V.ref q0] ++ vs) ++ ys9)) hq
  have m1 : Tups H13 (upd G9 q (HO.lst (([V.ref q0] ++ vs) ++ ys9))) := Same.tups ((s14.trans s15).trans sn)
  have e : addrs es = ([Vaseda.Addr.all] ++ some_ es) ++ (some_ es).map Vaseda.Addr.not := rfl
  rw [e]
  exact paired_app (paired_app (.cons (RepA.mono (Same.tups (s15.trans sn)) h14) .nil) (paired_imp (fun _ _ q => RepA.mono m1 q) r13)) (paired_imp (fun _ _ q => RepA.mono (Same.tups sn) q) ry9)
end
end Ls
set_option Elab.async false
set_option linter.all false
set_option maxRecDepth 100000
set_option maxHeartbeats 4000000
/-! runs: result_of -/
namespace Ls
open PySem PySem.Spec PyProof.Rows L2
open Vaseda (Work holds hasIn swapIn work lineRun worksBy works outOf)
theorem new_insR {K : PySem.W.Frag} {H : Hp} {x dx C : Addr} {fs : List (Str × V)} (hx : H x = none) (hd : H dx = none) (ne : dx ≠ x) : Same H (upd (upd H dx (.own x)) x (.ins C dx fs)) :=
  (Same.new hd).trans (Same.new (by rw [upd_ne (Ne.symm ne)]; exact hx))
/-! ### mathematics -/
/-- the held line behind i lines -/
def heldAt (h : Ln) (ws : List Work) : Nat → Ln
  | 0 => h
  | i + 1 => ((ws[i]?).map (·.held)).getD h
theorem worksBy_len (s : List VCmd) : ∀ (t : List Ln) (k : Nat) (h : Ln), (worksBy s k h t).length = t.length
  | [], _, _ => rfl
  | x :: r, k, h => by
    show (worksBy s (k + 1) _ r).length + 1 = r.length + 1
    rw [worksBy_len s r]
theorem worksBy_get (s : List VCmd) : ∀ (t : List Ln) (k : Nat) (h : Ln) (i : Nat) (x : Ln), t[i]? = some x →
    (worksBy s k h t)[i]? = some (lineRun s (k + i) (decide (i + 1 = t.length)) x (heldAt h (worksBy s k h t) i))
  | [], _, _, i, _, hx => by simp at hx
  | y :: r, k, h, 0, x, hx => by
    have e : y = x := by simpa using hx
    subst e
    show some (lineRun s k r.isEmpty y h) = some (lineRun s (k + 0) (decide (0 + 1 = (y :: r).length)) y h)
    have e : r.isEmpty = decide (0 + 1 = (y :: r).length) := by
      cases r with
      | nil => rfl
      | cons _ _ => simp
    rw [e]
    rfl
  | y :: r, k, h, i + 1, x, hx => by
    have ih := worksBy_get s r (k + 1) (lineRun s k r.isEmpty y h).held i x (by simpa using hx)
    have e : worksBy s k h (y :: r) = lineRun s k r.isEmpty y h :: worksBy s (k + 1) (lineRun s k r.isEmpty y h).held r := rfl
    rw [e, List.getElem?_cons_succ, ih]
    have e1 : k + 1 + i = k + (i + 1) := by omega
    have e2 : decide (i + 1 = r.length) = decide (i + 1 + 1 = (y :: r).length) := by
      rw [List.length_cons]
      congr 1
      exact propext ⟨fun h => by omega, fun h => by omega⟩
    rw [e1, e2]
    congr 2
    cases i with
    | zero => rfl
    | succ i =>
      show ((((worksBy s (k + 1) _ r)[i]?).map (·.held)).getD _) = ((((_ :: worksBy s (k + 1) _ r)[i + 1]?).map (·.held)).getD h)
      rw [List.getElem?_cons_succ]
      have hl : i < (worksBy s (k + 1) (lineRun s k r.isEmpty y h).held r).length := by
        rw [worksBy_len]
        have := get_lt hx
        simp only [List.length_cons] at this
        omega
      rw [List.getElem?_eq_getElem hl]
      rfl
theorem outOf_x (k : Nat) (w : Work) : (outOf k w).map (·.x) = comes w := by
  unfold outOf comes
  cases w.gone <;> simp
theorem outs_x : ∀ (ws : List Work) (j : Nat), ((ws.zipIdx j).flatMap fun w => outOf (w.2 + 1) w.1).map (·.x) = ws.flatMap comes
  | [], _ => rfl
  | w :: ws, j => by
    rw [List.zipIdx_cons, List.flatMap_cons, List.map_append, outOf_x, outs_x ws (j + 1)]
    rfl
theorem result_is (s : List VCmd) (t : List Ln) : Vasedf.result s t = if (works s t).any (fun w => w.bad) = true ∨ 60 < ((works s t).flatMap comes).length then none else some ((works s t).flatMap comes) := by
  unfold Vasedf.result Vaseda.run
  have e := outs_x (works s t) 0
  have el : ((works s t).zipIdx.flatMap fun w => outOf (w.2 + 1) w.1).length = ((works s t).flatMap comes).length := by
    rw [← e, List.length_map]
  show Option.map Vaseda.outText (if (works s t).any (fun w => w.bad) = true ∨ 60 < ((works s t).zipIdx.flatMap fun w => outOf (w.2 + 1) w.1).length then none else some _) = _
  rw [el]
  split
  · rfl
  · show some (((works s t).zipIdx.flatMap fun w => outOf (w.2 + 1) w.1).map fun o => o.x) = _
    rw [e]
theorem comes_len (w : Work) : (comes w).length ≤ w.pre.length + 1 + w.post.length := by
  unfold comes
  simp only [List.length_append, List.length_map]
  split <;> simp <;> omega
theorem flat_comes_len {ws : List Work} (h : ∀ w ∈ ws, w.pre.length ≤ 16 ∧ w.post.length ≤ 16) : (ws.flatMap comes).length ≤ 33 * ws.length := by
  induction ws with
  | nil => simp
  | cons w ws ih =>
    have h1 := ih fun z hz => h z (List.mem_cons_of_mem _ hz)
    have h2 := comes_len w
    have h3 := h w (List.mem_cons_self ..)
    simp only [List.flatMap_cons, List.length_append, List.length_cons] at h1 ⊢
    omega
/-- what is worked stays within bounds while nothing is too much -/
theorem okW_all {s : List VCmd} (hs : ∀ c ∈ s, okRC c) (k : Nat) (l : Bool) {w : Work} (o : OkW w 0) : ∀ i, i ≤ s.length → (workTo s k l w i).bad = false → OkW (workTo s k l w i) i
  | 0, _, hb => o
  | i + 1, hi, hb => by
    obtain ⟨c, hc⟩ : ∃ c, s[i]? = some c := ⟨s[i]'(by omega), by simp⟩
    rw [workTo_succ hc] at hb ⊢
    have hb0 : (workTo s k l w i).bad = false := by
      cases h : (workTo s k l w i).bad with
      | false => rfl
      | true =>
        unfold work at hb
        rw [if_pos (by rw [h, Bool.or_true])] at hb
        rw [h] at hb
        cases hb
    have ih := okW_all hs k l o i (by omega) hb0
    unfold work at hb ⊢
    split
    · exact ih.more rfl rfl rfl rfl rfl (Nat.le_refl _)
    · rename_i h1
      rw [if_neg h1] at hb
      split
      · exact ih.more rfl rfl rfl rfl rfl (Nat.sub_le _ _)
      · rename_i h2
        rw [if_neg h2] at hb
        split
        · rename_i h3
          rw [if_pos h3] at hb
          exact okW_deed ⟨ih.bad, ih.x, ih.held, ih.pre, ih.post, ih.left⟩ (hs c (List.mem_of_getElem? hc)).2 hb
        · exact ih.more rfl rfl rfl rfl rfl (Nat.le_refl _)
theorem okW_run {s : List VCmd} (hs : ∀ c ∈ s, okRC c) (k : Nat) (l : Bool) {x h : Ln} (hx : x.length ≤ 16) (hh : h.length ≤ 16) (hb : (lineRun s k l x h).bad = false) : OkW (lineRun s k l x h) s.length := by
  have e : lineRun s k l x h = workTo s k l (work0 x h) s.length := (workTo_all _ _ _ _).symm
  rw [e] at hb ⊢
  exact okW_all hs k l ⟨rfl, hx, hh, Nat.zero_le _, Nat.zero_le _, Nat.zero_le _⟩ _ (Nat.le_refl _) hb
def spResult (K : PySem.W.Frag) : Sp := fun vs H Q E => ∃ (a b : Addr) (s : List VCmd) (t : List Ln), vs = [.ref a, .ref b] ∧ RepS K H a s ∧ (∀ c ∈ s, okRC c) ∧ s.length ≤ 16 ∧ H b = some (.lst (tS t)) ∧ t.length ≤ 24 ∧ (∀ x ∈ t, x.length ≤ 16) ∧
  (∀ r, Vasedf.result s t = some r → NewL (tS r) H Q) ∧ (Vasedf.result s t = none → ∀ H', Same H H' → E (.ref (He.ga K "TooMuch")) none H')
section
variable {P : Program} {w : World} {K : PySem.W.Frag} {mg : Str → Option Value} {base : Heap}
theorem sc_result_of : FnScope ["script", "text", "result", "held", "number", "letters", "line"] ["script", "text"] (defScope s_result_of) := ⟨rfl, rfl, rfl, by decide +kernel, rfl, by decide +kernel, by decide +kernel⟩
theorem ok_result_of (T : Txt K mg) : DOk P w K mg base (L2.CX P w) 7 "result_of" (spResult K) := by
  obtain ⟨fd, F⟩ := T.f_result_of
  have sc := sc_result_of
  obtain ⟨_, c_RESULT_LINES_AT_MOST⟩ := T.v_RESULT_LINES_AT_MOST
  have x_TooMuch := excB_ok T.x_TooMuch
  have K_Line := ok_Line (P := P) (w := w) (base := base) T
  have K_do_script : DOk P w K mg base (L2.CX P w) 6 "do_script" (spScript K) := ok_do_script T
  have K_lines_that_come : DOk P w K mg base CX0 1 "lines_that_come" (spCome K) := ok_lines_that_come T
  refine dok F T.g_result_of (fun _ _ _ _ _ _ us hl => match us, hl with | [_, _], _ => rfl) sc (fun vs H Q E h => by obtain ⟨_, _, _, _, rfl, _⟩ := h; rfl) (fun cdv A outer s H vs Q E hr h => ?_)
  refine ⟨_, (pss_cons (ps_set (i := 2) sc.nd rfl (Or.inl rfl) (pe_lst pa_nil))
  (pss_cons (ps_set (i := 3) sc.nd rfl (Or.inl rfl) pe_str)
  (pss_cons (ps_for (passes_of rfl) rfl (pi_enumS (K := K) rfl rfl T.b_enumerate (pa_cons (pv 1) pa_nil)) (pg_tupK (K := K) rfl rfl (pgs_cons (pg_name (i := 4) sc.nd rfl (Or.inl rfl)) (pgs_cons (pg_name (i := 5) sc.nd rfl (Or.inl rfl)) pgs_nil)))
  (pss_cons (ps_set (i := 6) sc.nd rfl (Or.inl rfl) (pe_mk K_Line hr (by first | decide | omega) rfl (pa_cons (pv 5) (pa_cons (pv 3) (pa_cons (pv 4) (pa_cons (pe_cmpR op_eq (pv 4) (pe_callB (call_len_seqK (K := K) rfl) rfl T.b_len boot_len (pa_cons (pv 1) pa_nil)) (nomark _)) pa_nil))))))
    (pss_cons (ps_expr (pe_dS K_do_script hr (by first | decide | omega) rfl (takes_of rfl rfl rfl rfl) (pa_cons (pv 0) (pa_cons (pv 6) pa_nil))))
    (pss_cons (ps_set (i := 3) sc.nd rfl (Or.inl rfl) (pe_fldK (K := K) rfl (pv 6) rfl))
    (pss_one (ps_expr (pe_bmK (K := K) rfl PySem.F.plainAttrs_list PySem.F.slot_list_extend PySem.F.type_list_extend mt_extend (pv 2) (pa_cons (pe_d K_lines_that_come hr (by first | decide | omega) rfl (pa_cons (pv 6) pa_nil)) pa_nil))))))))
  (pss_cons (ps_if (pt_cmpR op_gt (pe_callB (call_len_seqK (K := K) rfl) rfl T.b_len boot_len (pa_cons (pv 2) pa_nil)) (pe_glob (v := .int (60)) rfl c_RESULT_LINES_AT_MOST ⟨_, rfl⟩) (nomark _))
  (pss_one (ps_raise rfl (takes_of rfl rfl rfl rfl) (pmk_own PySem.F.excBase_ValueError x_TooMuch.1 T.g_TooMuch x_TooMuch.2.1 (raises_own x_TooMuch.2.2.1 x_TooMuch.2.2.2) (by exact rfl))))
  pss_nil)
  (pss_one (ps_ret (pv 2))))))), ?_⟩
  obtain ⟨a, b, cs, t, rfl, rs, hok, hlen, hb, htl, htx, kq, ke⟩ := h
  obtain ⟨us, ha, hp⟩ := id rs
  have hwl : (works cs t).length = t.length := worksBy_len cs t 1 []
  rw [result_is] at kq ke
  refine ⟨small (m := 10) (by show 0 ≤ 10; decide), fun r hr0 => ?_⟩
  have sr := Same.new (o := HO.lst []) hr0
  refine ⟨_, rfl, b, tS t, rfl, SqL.of (sr _ _ hb), for_it (walk_enum1 (xs := tS t)) (fun i σ H' => ∃ v4 v5 v6 : Option V, σ = [some (.ref a), some (.ref b), some (.ref r), some (vS (heldAt [] (works cs t) i)), v4, v5, v6] ∧ Same H H' ∧
    H' r = some (.lst (tS (((works cs t).take i).flatMap comes))) ∧ (∀ w ∈ (works cs t).take i, w.bad = false ∧ w.pre.length ≤ 16 ∧ w.post.length ≤ 16) ∧ (heldAt [] (works cs t) i).length ≤ 16)
    ⟨none, none, none, ?_, sr, upd_same, by simp, by simp [heldAt]⟩ (fun i σ H' _ ⟨_, _, _, _, s, _⟩ => SqL.of (s _ _ hb)) ?_ ?_⟩
  · have e : V.str (Str.ofString "") = vS [] := by decide +kernel
    show [some (V.ref a), some (V.ref b), some (V.ref r), some (V.str (Str.ofString "")), none, none, none] = _
    rw [e]
    rfl
  · rintro i y σ H5 H6 hi ⟨v4, v5, v6, rfl, s5, h5, hbd, hhl⟩ ⟨T0, x1, x2, rfl, hT, rfl, e1, e2⟩
    obtain ⟨x, hx, rfl⟩ := tS_get e2
    cases e1
    have hxl := htx x (List.mem_of_getElem? hx)
    have hwi := worksBy_get cs t 1 [] i x hx
    have hwi : (works cs t)[i]? = some (lineRun cs (i + 1) (decide (i + 1 = t.length)) x (heldAt [] (works cs t) i)) := by
      rw [show i + 1 = 1 + i by omega]
      rw [show decide (1 + i = t.length) = decide (i + 1 = t.length) by rw [Nat.add_comm]]
      exact hwi
    have hheld : heldAt [] (works cs t) (i + 1) = (lineRun cs (i + 1) (decide (i + 1 = t.length)) x (heldAt [] (works cs t) i)).held := by
      show (((works cs t)[i]?).map (·.held)).getD [] = _
      rw [hwi]
      rfl
    have hmem : lineRun cs (i + 1) (decide (i + 1 = t.length)) x (heldAt [] (works cs t) i) ∈ works cs t := List.mem_of_getElem? hwi
    have hil : i < t.length := get_lt hx
    have htake := take_more hwi
    generalize hw : lineRun cs (i + 1) (decide (i + 1 = t.length)) x (heldAt [] (works cs t) i) = w' at *
    have hlr : cs.zipIdx.foldl (work (i + 1) (decide (i + 1 = t.length))) (work0 x (heldAt [] (works cs t) i)) = w' := hw
    have hokw : w'.bad = false → OkW w' cs.length := fun hb => by
      rw [← hw] at hb ⊢
      exact okW_run hok _ _ hxl hhl hb
    generalize hh0 : heldAt [] (works cs t) i = h0 at *
    have s6 := Same.new (o := HO.tup [V.int ((i + 1 : Nat) : Int), vS x]) hT
    have s56 : Same H5 (upd H5 T0 (HO.tup [V.int ((i + 1 : Nat) : Int), vS x])) := s6
    refine ⟨T0, _, rfl, SqT.of upd_same, rfl, _, _, rfl, _, _, rfl, rfl, ?_⟩
    generalize upd H5 T0 (HO.tup [V.int ((i + 1 : Nat) : Int), vS x]) = H6 at *
    have hb6 := (s5.trans s56) _ _ hb
    refine ⟨_, rfl, _, rfl, _, rfl, _, rfl, _, rfl, b, _, rfl, .inl (SqL.of hb6), rfl, fun c dx hc hdx ne => ?_⟩
    have sn := new_insR (K := K) (C := He.ga K "Line") (fs := []) hc hdx ne
    have hcc : upd (upd H6 dx (.own c)) c (.ins (He.ga K "Line") dx []) c = some (.ins (He.ga K "Line") dx []) := upd_same
    refine ⟨c, dx, x, h0, i + 1, decide (i + 1 = t.length), ?_, hcc, fun H7 ah be keep L7 hah hbe => ⟨rfl, ?_⟩⟩
    · rw [tS_len, eq_int]
      rfl
    generalize upd (upd H6 dx (.own c)) c (.ins (He.ga K "Line") dx []) = Hc at *
    have s67 : ∀ H8, Kp c ah be H7 H8 → Same H6 H8 := fun H8 s8 q o hq => by
      have hq1 := sn q o hq
      exact s8 q o (keep q o hq1 (ne_of_none hq hc)) (ne_of_none hq hc) (ne_of_none hq1 hah) (ne_of_none hq1 hbe)
    have s67' := s67 H7 Kp.refl
    have sH7 : Same H H7 := (s5.trans s56).trans s67'
    have ha6 := (s5.trans s56) _ _ ha
    have hac := sn _ _ ha6
    refine ⟨_, rfl, _, rfl, a, c, dx, ah, be, i + 1, decide (i + 1 = t.length), work0 x h0, cs, rfl, RepS.same sH7 rs, hok, hlen, ne_of_none hac hah, ne_of_none hac hbe, L7, ⟨rfl, hxl, hhl, Nat.zero_le _, Nat.zero_le _, Nat.zero_le _⟩, rfl, ?_, ?_⟩
    · rw [hlr]
      intro hbad H8 s8 L8
      have ow := hokw hbad
      have s68 := s67 H8 s8
      have hr8 := (s56.trans s68) _ _ h5
      have hop := ow.pre
      have hoq := ow.post
      refine ⟨_, rfl, c, _, dx, _, _, rfl, L8.ob, T.c_Line, T.n_Line_held, lf_held, ?_⟩
      refine ⟨_, rfl, .inl ⟨rfl, _, SqL.of hr8⟩, _, rfl, c, dx, ah, be, _, _, w', rfl, L8, by omega, by omega, fun q H9 hq s9 h9 => ?_⟩
      have hfl := flat_comes_len (ws := (works cs t).take i) fun z hz => (hbd z hz).2
      have hcl := comes_len w'
      rw [List.length_take] at hfl
      refine ⟨r, q, _, _, rfl, rfl, s9 _ _ hr8, h9, small (m := 2000) (by rw [tS_len, tS_len]; omega), ?_⟩
      refine ⟨some (.int ((i + 1 : Nat) : Int)), some (vS x), some (.ref c), by rw [hheld]; rfl, Same.put (((s5.trans s56).trans s68).trans s9) hr0, ?_, ?_, ?_⟩
      · rw [upd_same, htake, List.flatMap_append, tS_app]
        simp
      · intro z hz
        rw [htake] at hz
        rcases List.mem_append.mp hz with hz | hz
        · exact hbd z hz
        · rw [List.mem_singleton.mp hz]
          exact ⟨hbad, by omega, by omega⟩
      · rw [hheld]
        exact ow.held
    · rw [hlr]
      intro hbad H8 s8
      exact ke (if_pos (.inl (List.any_eq_true.mpr ⟨w', hmem, hbad⟩))) H8 ((s5.trans s56).trans (s67 H8 s8))
  · rintro σ H5 ⟨v4, v5, v6, rfl, s5, h5, hbd, hhl⟩
    rw [tS_len, ← hwl, List.take_length] at h5 hbd
    have hfl := flat_comes_len (ws := works cs t) fun z hz => (hbd z hz).2
    refine ⟨_, rfl, r, _, rfl, .inl (SqL.of h5), _, _, rfl, rfl, _, rfl, ite2 (fun c1 => ?_) fun c1 => ?_⟩
    · have d1 : (60 : Int) < (((tS ((works cs t).flatMap comes)).length : Nat) : Int) := of_decide_eq_true c1
      rw [tS_len] at d1
      exact ke (if_pos (.inr (by omega))) H5 s5
    · have d1 : ¬ (60 : Int) < (((tS ((works cs t).flatMap comes)).length : Nat) : Int) := fun h => c1 (decide_eq_true h)
      rw [tS_len] at d1
      refine ⟨_, rfl, kq _ (if_neg ?_) r H5 hr0 s5 h5⟩
      rintro (h | h)
      · obtain ⟨z, hz, hb⟩ := List.any_eq_true.mp h
        have hb : z.bad = true := hb
        rw [(hbd z hz).1] at hb
        cases hb
      · omega
end
end Ls
set_option Elab.async false
set_option linter.all false
set_option maxRecDepth 100000
set_option maxHeartbeats 4000000
/-! distance: lines_in_common, how_far -/
namespace Ls
open PySem PySem.Spec PyProof.Rows L2
/-! mathematics -/
open Vasedf (rowBy common far)
theorem rowBy_len (x : Ln) : ∀ (b : List Ln) (r : List Nat) (d l : Nat), b.length = r.length → (rowBy x d l b r).length = b.length
  | [], _, _, _, _ => by simp [rowBy]
  | y :: t, [], _, _, h => by simp at h
  | y :: t, up :: r, d, l, h => by
    simp only [rowBy, List.length_cons]
    rw [rowBy_len x t r _ _ (by simpa using h)]
theorem rowBy_get (x : Ln) : ∀ (b : List Ln) (r : List Nat) (d l i : Nat) (y : Ln), b.length = r.length → b[i]? = some y →
    (rowBy x d l b r)[i]? = some (if x = y then (d :: r).getD i 0 + 1 else Nat.max ((l :: rowBy x d l b r).getD i 0) (r.getD i 0))
  | [], _, _, _, i, _, _, hy => by simp at hy
  | y :: t, [], _, _, _, _, h, _ => by simp at h
  | y :: t, up :: r, d, l, 0, z, h, hy => by
    have e : y = z := by simpa using hy
    subst e
    simp [rowBy]
  | y :: t, up :: r, d, l, i + 1, z, h, hy => by
    have ih := rowBy_get x t r up (if x = y then d + 1 else Nat.max l up) i z (by simpa using h) (by simpa using hy)
    simp only [rowBy, List.getElem?_cons_succ, List.getD_cons_succ]
    exact ih
def nV (l : List Nat) : List V := l.map fun (n : Nat) => V.int (n : Int)
theorem nV_get {l : List Nat} {i : Nat} (h : i < l.length) : (nV l)[i]? = some (V.int ((l.getD i 0 : Nat) : Int)) := by
  unfold nV
  rw [List.getElem?_map, List.getElem?_eq_getElem h]
  simp [List.getD, List.getElem?_eq_getElem h]
theorem last_get (l : List Nat) : (0 :: l).getD l.length 0 = l.getLastD 0 := by
  cases l with
  | nil => rfl
  | cons a l =>
    simp [List.getD, List.getLastD, List.getLast_eq_getElem]
abbrev rows (ys : List Ln) (l : List Ln) : List Nat := l.foldl (fun r x => rowBy x 0 0 ys r) (ys.map fun _ => 0)
theorem rows_len (ys : List Ln) : ∀ (l : List Ln) (r : List Nat), r.length = ys.length → (l.foldl (fun r x => rowBy x 0 0 ys r) r).length = ys.length
  | [], _, h => h
  | x :: l, r, h => rows_len ys l _ (rowBy_len x ys r 0 0 h.symm)
def Bd (k j0 : Nat) (r : List Nat) : Prop := ∀ i, r.getD i 0 ≤ k ∧ r.getD i 0 ≤ j0 + i + 1
theorem bd_cons {k j0 v : Nat} {r : List Nat} (h1 : v ≤ k) (h2 : v ≤ j0 + 1) (h : Bd k (j0 + 1) r) : Bd k j0 (v :: r)
  | 0 => ⟨by simpa using h1, by simpa using h2⟩
  | i + 1 => by
    have := h i
    simp only [List.getD_cons_succ]
    omega
theorem bd_tail {k j0 v : Nat} {r : List Nat} (h : Bd k j0 (v :: r)) : v ≤ k ∧ v ≤ j0 + 1 ∧ Bd k (j0 + 1) r := by
  have h0 := h 0
  simp only [List.getD_cons_zero] at h0
  refine ⟨h0.1, by omega, fun i => ?_⟩
  have := h (i + 1)
  simp only [List.getD_cons_succ] at this
  omega
theorem bd_nil {k j0 : Nat} : Bd k j0 [] := fun i => by simp
theorem rowBy_bd (x : Ln) : ∀ (b : List Ln) (r : List Nat) (d l k j0 : Nat), d ≤ k → d ≤ j0 → l ≤ k + 1 → l ≤ j0 → Bd k j0 r → Bd (k + 1) j0 (rowBy x d l b r)
  | [], _, _, _, _, _, _, _, _, _, _ => by simpa [rowBy] using bd_nil
  | y :: t, [], _, _, _, _, _, _, _, _, _ => by simpa [rowBy] using bd_nil
  | y :: t, up :: r, d, l, k, j0, h1, h2, h3, h4, h => by
    obtain ⟨u1, u2, hr⟩ := bd_tail h
    have hm : Nat.max l up ≤ k + 1 ∧ Nat.max l up ≤ j0 + 1 := ⟨Nat.max_le.mpr ⟨h3, by omega⟩, Nat.max_le.mpr ⟨by omega, u2⟩⟩
    have hv : (if x = y then d + 1 else Nat.max l up) ≤ k + 1 ∧ (if x = y then d + 1 else Nat.max l up) ≤ j0 + 1 := by
      split
      · omega
      · exact hm
    simp only [rowBy]
    exact bd_cons hv.1 hv.2 (rowBy_bd x t r up _ k (j0 + 1) u1 u2 hv.1 hv.2 hr)
theorem rows_bd (ys : List Ln) : ∀ (l : List Ln) (r : List Nat) (k : Nat), Bd k 0 r → Bd (k + l.length) 0 (l.foldl (fun r x => rowBy x 0 0 ys r) r)
  | [], _, _, h => h
  | x :: l, r, k, h => by
    have h1 := rows_bd ys l _ (k + 1) (rowBy_bd x ys r 0 0 k 0 (by omega) (by omega) (by omega) (by omega) h)
    have e : k + 1 + l.length = k + (x :: l).length := by simp; omega
    rw [e] at h1
    exact h1
theorem common_bd (xs ys : List Ln) : common xs ys ≤ xs.length ∧ common xs ys ≤ ys.length := by
  have h0 : Bd 0 0 (ys.map fun _ => 0) := fun i => by
    have : (ys.map fun _ => (0 : Nat)).getD i 0 = 0 := by
      simp only [List.getD, List.getElem?_map]
      cases ys[i]? <;> rfl
    omega
  have hb := rows_bd ys xs _ 0 h0
  have hl : (rows ys xs).length = ys.length := rows_len ys xs _ (by simp)
  have e : common xs ys = (0 :: rows ys xs).getD ys.length 0 := by
    rw [← hl]
    exact (last_get _).symm
  rw [e]
  cases hy : ys.length with
  | zero => simp
  | succ n =>
    have := hb n
    simp only [List.getD_cons_succ]
    have h2 : (rows ys xs).getD n 0 ≤ 0 + xs.length ∧ (rows ys xs).getD n 0 ≤ 0 + n + 1 := this
    omega
theorem common_le (xs ys : List Ln) : 2 * common xs ys ≤ xs.length + ys.length := by
  have := common_bd xs ys
  omega
/-! promises -/
def spCommon (K : PySem.W.Frag) : Sp := fun vs H Q _ => ∃ (a b : Addr) (xs ys : List Ln), vs = [.ref a, .ref b] ∧ SqL K H a (tS xs) ∧ SqL K H b (tS ys) ∧ xs.length ≤ 1000 ∧ ys.length ≤ 1000 ∧
  ∀ H', Same H H' → Q (.int (common xs ys : Nat)) H'
def spFar (K : PySem.W.Frag) : Sp := fun vs H Q _ => ∃ (a b : Addr) (xs ys : List Ln), vs = [.ref a, .ref b] ∧ SqL K H a (tS xs) ∧ SqL K H b (tS ys) ∧ xs.length ≤ 1000 ∧ ys.length ≤ 1000 ∧
  ∀ H', Same H H' → Q (.int (far xs ys : Nat)) H'
section
variable {P : Program} {w : World} {K : PySem.W.Frag} {mg : Str → Option Value} {base : Heap}
theorem sc_lines_in_common : FnScope ["one", "other", "counts", "line", "grown", "place", "other_line"] ["one", "other"] (defScope s_lines_in_common) := ⟨rfl, rfl, rfl, by decide +kernel, rfl, by decide +kernel, by decide +kernel⟩
theorem ok_lines_in_common (T : Txt K mg) : DOk P w K mg base CX0 1 "lines_in_common" (spCommon K) := by
  obtain ⟨fd, F⟩ := T.f_lines_in_common
  have sc := sc_lines_in_common
  refine dok F T.g_lines_in_common (fun _ _ _ _ _ _ us hl => match us, hl with | [_, _], _ => rfl) sc (fun vs H Q E h => by obtain ⟨_, _, _, _, rfl, _⟩ := h; rfl) (fun cdv A outer s H vs Q E hr h => ?_)
  have hpo := @PassesOwn.never
  refine ⟨_, PSs.nox (pss_cons (ps_set (i := 2) sc.nd rfl (Or.inl rfl) (pe_op op_rep (pe_lst (pa_cons pe_int pa_nil)) (pe_op op_add (pe_callB (call_len_seqK (K := K) rfl) rfl T.b_len boot_len (pa_cons (pv 1) pa_nil)) pe_int)))
  (pss_cons (ps_for PassesOwn.never rfl (pi_listK (K := K) rfl (pv 0)) (pg_name (i := 3) sc.nd rfl (Or.inl rfl))
  (pss_cons (ps_set (i := 4) sc.nd rfl (Or.inl rfl) (pe_lst (pa_cons pe_int pa_nil)))
    (pss_cons (ps_for PassesOwn.never rfl (pi_enumK (K := K) rfl rfl T.b_enumerate (pa_cons (pv 1) pa_nil)) (pg_tupK (K := K) rfl rfl (pgs_cons (pg_name (i := 5) sc.nd rfl (Or.inl rfl)) (pgs_cons (pg_name (i := 6) sc.nd rfl (Or.inl rfl)) pgs_nil)))
    (pss_one (ps_if (pt_cmpR op_eq (pv 3) (pv 6) (nomark _))
      (pss_one (ps_expr (pe_bmK (K := K) rfl PySem.F.plainAttrs_list PySem.F.slot_list_append PySem.F.type_list_append mt_append (pv 4) (pa_cons (pe_op op_add (pe_ix (ix_listK (K := K) rfl) (pv 2) (pv 5) (fun _ _ => rfl)) pe_int) pa_nil))))
      (pss_one (ps_expr (pe_bmK (K := K) rfl PySem.F.plainAttrs_list PySem.F.slot_list_append PySem.F.type_list_append mt_append (pv 4) (pa_cons (pe_callB (call_max2 rfl) rfl T.b_max boot_max (pa_cons (pe_ix (ix_listK (K := K) rfl) (pv 2) (pe_op op_add (pv 5) pe_int) (fun _ _ => rfl)) (pa_cons (pe_ix (ix_listK (K := K) rfl) (pv 4) (pv 5) (fun _ _ => rfl)) pa_nil))) pa_nil)))))))
    (pss_one (ps_set (i := 2) sc.nd rfl (Or.inl rfl) (pv 4))))))
  (pss_one (ps_ret (pe_ix (ix_listK (K := K) rfl) (pv 2) (pe_callB (call_len_seqK (K := K) rfl) rfl T.b_len boot_len (pa_cons (pv 1) pa_nil)) (fun _ _ => rfl)))))), ?_⟩
  obtain ⟨a, b, xs, ys, rfl, ha, hb, hx, hy, k⟩ := h
  refine ⟨small (m := 10) (by decide), fun p hp => ?_⟩
  refine ⟨_, rfl, _, _, rfl, .inl ((Same.new hp).seq hb), _, _, rfl, rfl, p, _, _, rfl, rfl, upd_same, by omega, by rw [tS_len]; omega, small (m := 2000) (by simp [tS_len]; omega), fun q hq => ?_⟩
  have hq0 : H q = none := (Same.new hp).free hq
  have s2 : Same H (upd (upd H p (.lst [V.int 0])) q (.lst (nV (0 :: rows ys [])))) := Same.put (Same.new hp) hq0
  have e0 : (List.replicate (((tS ys).length : Int) + 1).toNat [V.int 0]).flatten = nV (0 :: rows ys []) := by
    have e1 : (((tS ys).length : Int) + 1).toNat = ys.length + 1 := by rw [tS_len]; omega
    rw [e1]
    show _ = nV (0 :: ys.map fun _ => 0)
    have e2 : ∀ l : List Ln, (List.replicate (l.length + 1) [V.int 0]).flatten = nV (0 :: l.map fun _ => 0) := by
      intro l
      induction l with
      | nil => rfl
      | cons z l ih =>
        rw [List.length_cons, List.replicate_succ, List.flatten_cons, ih]
        rfl
    exact e2 ys
  rw [e0]
  generalize hH2 : upd (upd H p (.lst [V.int 0])) q (.lst (nV (0 :: rows ys []))) = H2 at s2 ⊢
  have hq2 : H2 q = some (.lst (nV (0 :: rows ys []))) := by rw [← hH2]; exact upd_same
  refine ⟨_, rfl, a, rfl, ⟨_, s2.seq ha⟩, for_list (K := K) (a := a) (xs := tS xs) (fun i σ H' => ∃ (q : Addr) (v3 v4 v5 v6 : Option V), σ = [some (.ref a), some (.ref b), some (.ref q), v3, v4, v5, v6] ∧ Same H H' ∧ H' q = some (.lst (nV (0 :: rows ys (xs.take i)))))
    ⟨q, none, none, none, none, rfl, s2, hq2⟩ (fun i σ H' _ ⟨_, _, _, _, _, _, s5, _⟩ => s5.seq ha) ?_ ?_⟩
  · rintro i y σ H' hi ⟨q, v3, v4, v5, v6, rfl, s5, h5⟩
    obtain ⟨x, hx0, rfl⟩ := tS_get hi
    refine ⟨small (m := 10) (by decide), fun g hg => ?_⟩
    have hgH : H g = none := s5.free hg
    have hne : q ≠ g := fun e => by rw [← e, h5] at hg; cases hg
    have s6 := Same.new (o := HO.lst [V.int 0]) hg
    refine ⟨_, rfl, b, _, rfl, (s5.trans s6).seq hb, for_it walk_enum (fun j σ H' => ∃ (v5 v6 : Option V), σ = [some (.ref a), some (.ref b), some (.ref q), some (vS x), some (.ref g), v5, v6] ∧ Same H H' ∧ H' q = some (.lst (nV (0 :: rows ys (xs.take i)))) ∧ H' g = some (.lst (nV (0 :: (rowBy x 0 0 ys (rows ys (xs.take i))).take j))))
      ⟨v5, v6, rfl, s5.trans s6, s6 _ _ h5, ?_⟩ (fun j σ H' _ ⟨_, _, _, s7, _⟩ => s7.seq hb) ?_ ?_⟩
    · exact upd_same
    · rintro j y σ H7 H8 hj ⟨v5, v6, rfl, s7, h7, g7⟩ ⟨T, x1, x2, rfl, hT, rfl, e1, e2⟩
      obtain ⟨z, hz, rfl⟩ := tS_get e2
      cases e1
      have hrl : (rows ys (xs.take i)).length = ys.length := rows_len ys _ _ (by simp)
      have hjl : j < ys.length := get_lt hz
      have s8 := Same.new (o := HO.tup [V.int (j : Nat), vS z]) hT
      have hq8 := s8 _ _ h7
      have hg8 := s8 _ _ g7
      have hrow := rowBy_get x ys (rows ys (xs.take i)) 0 0 j z hrl.symm hz
      have hrbl : (rowBy x 0 0 ys (rows ys (xs.take i))).length = ys.length := rowBy_len x ys _ 0 0 hrl.symm
      have fin : ∀ (v : V) (n : Nat) (H9 : Hp), (rowBy x 0 0 ys (rows ys (xs.take i)))[j]? = some n → v = .int (n : Int) → H9 = upd (upd H7 T (.tup [V.int (j : Nat), vS z])) g (.lst (nV (0 :: (rowBy x 0 0 ys (rows ys (xs.take i))).take j) ++ [v])) →
          ∃ (v5 v6 : Option V), ([some (.ref a), some (.ref b), some (.ref q), some (vS x), some (.ref g), some (V.int (j : Nat)), some (vS z)] : L2.St) = [some (.ref a), some (.ref b), some (.ref q), some (vS x), some (.ref g), v5, v6] ∧ Same H H9 ∧ H9 q = some (.lst (nV (0 :: rows ys (xs.take i)))) ∧ H9 g = some (.lst (nV (0 :: (rowBy x 0 0 ys (rows ys (xs.take i))).take (j + 1)))) := by
        rintro v n H9 hn rfl rfl
        refine ⟨_, _, rfl, Same.put (s7.trans s8) hgH, ?_, ?_⟩
        · rw [upd_ne hne]; exact hq8
        · rw [upd_same, take_more hn]
          simp [nV]
      refine ⟨T, _, rfl, SqT.of upd_same, rfl, _, _, rfl, _, _, rfl, rfl, ?_⟩
      refine ⟨_, rfl, _, rfl, rfl, _, rfl, ite2 (fun c => ?_) fun c => ?_⟩
      · have c1 : x = z := vS_eq.mp (of_decide_eq_true c)
        rw [if_pos c1] at hrow
        refine ⟨_, rfl, .inl ⟨rfl, _, SqL.of hg8⟩, ?_⟩
        refine ⟨_, rfl, _, rfl, q, _, _, _, rfl, rfl, SqL.of hq8, atI_at (nV_get (i := j) (by simp; omega)), _, _, rfl, rfl, ?_⟩
        refine ⟨g, _, _, rfl, rfl, hg8, smallLt (m := 2000) (by simp [nV]; omega), ?_⟩
        exact fin _ _ _ hrow (by simp) rfl
      · have c1 : ¬ x = z := fun e => c (decide_eq_true (vS_eq.mpr e))
        rw [if_neg c1] at hrow
        refine ⟨_, rfl, .inl ⟨rfl, _, SqL.of hg8⟩, ?_⟩
        refine ⟨_, rfl, _, rfl, _, _, rfl, rfl, q, _, ((j + 1 : Nat) : Int), _, rfl, by simp, SqL.of hq8, atI_at (nV_get (i := j + 1) (by simp; omega)), ?_⟩
        refine ⟨_, rfl, _, rfl, g, _, _, _, rfl, rfl, SqL.of hg8, atI_at (nV_get (i := j) (by simp; omega)), ?_⟩
        refine ⟨_, _, rfl, ?_⟩
        refine ⟨g, _, _, rfl, rfl, hg8, smallLt (m := 2000) (by simp [nV]; omega), ?_⟩
        refine fin _ _ _ hrow ?_ rfl
        have e3 : (0 :: (rowBy x 0 0 ys (rows ys (xs.take i))).take j).getD j 0 = (0 :: rowBy x 0 0 ys (rows ys (xs.take i))).getD j 0 := by
          cases j with
          | zero => rfl
          | succ j => simp [List.getD, List.getElem?_take]
        rw [e3]
        simp only [List.getD_cons_succ]
        generalize (0 :: rowBy x 0 0 ys (rows ys (xs.take i))).getD j 0 = l
        generalize (rows ys (xs.take i)).getD j 0 = u
        by_cases hlu : (l : Int) > (u : Int)
        · rw [if_pos hlu]
          congr 2
          show l = Nat.max l u
          exact (Nat.max_eq_left (by omega)).symm
        · rw [if_neg hlu]
          congr 2
          show u = Nat.max l u
          exact (Nat.max_eq_right (by omega)).symm
    · rintro σ H7 ⟨v5, v6, rfl, s7, h7, g7⟩
      have hrl : (rows ys (xs.take i)).length = ys.length := rows_len ys _ _ (by simp)
      have hrbl : (rowBy x 0 0 ys (rows ys (xs.take i))).length = ys.length := rowBy_len x ys _ 0 0 hrl.symm
      refine ⟨_, rfl, g, _, _, _, _, rfl, s7, ?_⟩
      rw [g7, tS_len, List.take_of_length_le (by omega), take_more hx0]
      simp [rows]
  · rintro σ H' ⟨q, v3, v4, v5, v6, rfl, s5, h5⟩
    have hrl : (rows ys xs).length = ys.length := rows_len ys _ _ (by simp)
    refine ⟨_, rfl, _, rfl, _, _, rfl, .inl (s5.seq hb), q, _, (ys.length : Nat), _, rfl, by rw [tS_len], SqL.of h5, atI_at (nV_get (i := ys.length) (by rw [tS_len, List.take_length]; simp; omega)), ?_⟩
    have e : (0 :: rows ys (xs.take (tS xs).length)).getD ys.length 0 = common xs ys := by
      rw [tS_len, List.take_length, ← hrl]
      exact last_get _
    rw [e]
    exact k _ s5
theorem sc_how_far : FnScope ["one", "other"] ["one", "other"] (defScope s_how_far) := ⟨rfl, rfl, rfl, by decide +kernel, rfl, by decide +kernel, by decide +kernel⟩
theorem ok_how_far (T : Txt K mg) : DOk P w K mg base CX0 2 "how_far" (spFar K) := by
  obtain ⟨fd, F⟩ := T.f_how_far
  have sc := sc_how_far
  have K_lines_in_common : DOk P w K mg base CX0 1 "lines_in_common" (spCommon K) := ok_lines_in_common T
  refine dok F T.g_how_far (fun _ _ _ _ _ _ us hl => match us, hl with | [_, _], _ => rfl) sc (fun vs H Q E h => by obtain ⟨_, _, _, _, rfl, _⟩ := h; rfl) (fun cdv A outer s H vs Q E hr h => ?_)
  refine ⟨_, PSs.nox (pss_one (ps_ret (pe_op op_sub (pe_op op_add (pe_callB (call_len_seqK (K := K) rfl) rfl T.b_len boot_len (pa_cons (pv 0) pa_nil)) (pe_callB (call_len_seqK (K := K) rfl) rfl T.b_len boot_len (pa_cons (pv 1) pa_nil))) (pe_op op_mul pe_int (pe_d K_lines_in_common hr (by first | decide | omega) rfl (pa_cons (pv 0) (pa_cons (pv 1) pa_nil))))))), ?_⟩
  obtain ⟨a, b, xs, ys, rfl, ha, hb, hx, hy, k⟩ := h
  refine ⟨_, rfl, _, _, rfl, .inl ha, _, rfl, _, _, rfl, .inl hb, _, _, rfl, rfl, ?_⟩
  refine ⟨_, rfl, _, rfl, a, b, xs, ys, rfl, ha, hb, hx, hy, fun H' s' => ?_⟩
  refine ⟨_, _, rfl, rfl, .inl ⟨by decide, by decide⟩, _, _, rfl, rfl, ?_⟩
  have e : ((tS xs).length : Int) + ((tS ys).length : Int) - 2 * (common xs ys : Int) = ((far xs ys : Nat) : Int) := by
    have h1 := common_le xs ys
    rw [tS_len, tS_len]
    unfold far
    omega
  show Q (.int (((tS xs).length : Int) + ((tS ys).length : Int) - 2 * (common xs ys : Int))) H'
  rw [e]
  exact k _ s'
end
end Ls
set_option Elab.async false
set_option linter.all false
set_option maxRecDepth 100000
set_option maxHeartbeats 4000000
/-! fitting: fits, fits_all, far_from, far_from_all -/
namespace Ls
open PySem PySem.Spec PyProof.Rows L2
/-! ### a text as data -/
def dTs : List Ln → List PyData
  | [] => []
  | x :: t => .str (sOf x) :: dTs t
theorem dpAll_T {K : PySem.W.Frag} {H : Hp} : ∀ t : List Ln, DpAll K H (tS t) (dTs t)
  | [] => .nil
  | x :: t => .cons (.str _) (dpAll_T t)
theorem dTs_can : ∀ t : List Ln, PyData.canLayAll0 (dTs t) = true
  | [] => by simp [dTs, PyData.canLayAll0]
  | x :: t => by
    simp only [dTs, PyData.canLayAll0, PyData.canLay0, strOk_sOf, dTs_can t, Bool.and_true]
theorem dTs_depth : ∀ t : List Ln, PyData.depthAll (dTs t) ≤ 1
  | [] => by simp [dTs, PyData.depthAll]
  | x :: t => by
    have := dTs_depth t
    simp only [dTs, PyData.depthAll, PyData.depth]
    omega
theorem dT_shaped (t : List Ln) : SeqAt.shaped (.list (dTs t)) = true := by
  unfold SeqAt.shaped
  have h := dTs_depth t
  simp only [PyData.canLay0, dTs_can, Bool.true_and, PyData.depth]
  exact decide_eq_true (by omega)
theorem dT_eqvAll : ∀ t u : List Ln, PyData.eqvAll (dTs t) (dTs u) = decide (t = u)
  | [], [] => by simp [dTs, PyData.eqvAll]
  | [], _ :: _ => by simp [dTs, PyData.eqvAll]
  | _ :: _, [] => by simp [dTs, PyData.eqvAll]
  | x :: t, y :: u => by
    have e : PyData.eqvAll (dTs (x :: t)) (dTs (y :: u)) = ((sOf x == sOf y) && PyData.eqvAll (dTs t) (dTs u)) := by
      simp [dTs, PyData.eqvAll, PyData.eqv]
    rw [e, dT_eqvAll t u]
    apply Bool.eq_iff_iff.mpr
    simp only [Bool.and_eq_true, beq_iff_eq, decide_eq_true_eq, List.cons.injEq]
    rw [sOf_eq]
theorem dT_eqv (t u : List Ln) : PyData.eqv (.list (dTs t)) (.list (dTs u)) = decide (t = u) := by
  rw [← dT_eqvAll]
  simp [PyData.eqv]
def okEx (e : VEx) : Prop := okTx e.a ∧ okTx e.b
theorem okTx_24 {t : List Ln} (h : okTx t) : t.length ≤ 24 := Nat.le_trans h.1 (by decide)
def spFits (K : PySem.W.Frag) : Sp := fun vs H Q _ => ∃ (a : Addr) (v : V) (s : List VCmd) (e : VEx), vs = [.ref a, v] ∧ RepS K H a s ∧ (∀ c ∈ s, okRC c) ∧ s.length ≤ 16 ∧ RepX K H v e ∧ okEx e ∧
  ∀ H', Same H H' → Q (.bl (Vasedf.fits [e] s)) H'
def spFarFrom (K : PySem.W.Frag) : Sp := fun vs H Q _ => ∃ (a : Addr) (v : V) (s : List VCmd) (e : VEx), vs = [.ref a, v] ∧ RepS K H a s ∧ (∀ c ∈ s, okRC c) ∧ s.length ≤ 16 ∧ RepX K H v e ∧ okEx e ∧
  ∀ H', Same H H' → Q (.int (Vasedf.missing s e : Nat)) H'
theorem fits_one (s : List VCmd) (e : VEx) : Vasedf.fits [e] s = (Vasedf.result s e.a == some e.b) := by
  unfold Vasedf.fits
  simp
theorem result_len {s : List VCmd} {t r : List Ln} (h : Vasedf.result s t = some r) : r.length ≤ 60 := by
  rw [result_is] at h
  split at h
  · cases h
  · rename_i hn
    cases h
    have : ¬ 60 < ((Vaseda.works s t).flatMap comes).length := fun z => hn (.inr z)
    omega
section
variable {P : Program} {w : World} {K : PySem.W.Frag} {mg : Str → Option Value} {base : Heap}
theorem sc_fits : FnScope ["script", "example", "result"] ["script", "example"] (defScope s_fits) := ⟨rfl, rfl, rfl, by decide +kernel, rfl, by decide +kernel, by decide +kernel⟩
theorem ok_fits (T : Txt K mg) : DOk P w K mg base CX0 8 "fits" (spFits K) := by
  obtain ⟨fd, F⟩ := T.f_fits
  have sc := sc_fits
  have K_result_of : DOk P w K mg base (L2.CX P w) 7 "result_of" (spResult K) := ok_result_of T
  refine dok F T.g_fits (fun _ _ _ _ _ _ us hl => match us, hl with | [_, _], _ => rfl) sc (fun vs H Q E h => by obtain ⟨_, _, _, _, rfl, _⟩ := h; rfl) (fun cdv A outer s H vs Q E hr h => ?_)
  have hu64 := units_of hr
  refine ⟨_, PSs.nox (pss_cons (ps_try_only rfl rfl ⟨rfl, by decide, .inl T.g_TooMuch⟩ takes0
  (fun W pn xe tk _ => (pss_one (ps_set (i := 2) sc.nd rfl (Or.inl rfl) (pe_dS K_result_of hr (by first | decide | omega) rfl tk (pa_cons (pv 0) (pa_cons (pe_fldK (K := K) rfl (pv 1) rfl) pa_nil))))))
  (fun _ _ _ _ _ _ _ => (pss_one (ps_ret pe_bl))))
  (pss_one (ps_ret (pe_cmpR (op_eqDK (K := K) rfl hu64) (pv 2) (pe_fldK (K := K) rfl (pv 1) rfl) (nomark _))))), ?_⟩
  obtain ⟨a, v, cs, e, rfl, rs, hok, hlen, re, oe, kq⟩ := h
  obtain ⟨p, dx, b, c, rfl, hp, hb, hc⟩ := id re
  refine ⟨_, rfl, _, rfl, p, _, dx, _, _, rfl, hp, T.c_Example, T.n_Example_before, ex_before _ _, a, b, cs, e.a, rfl, rs, hok, hlen, hb, okTx_24 oe.1, oe.1.2, fun r er q H1 hq s1 h1 => ?_, fun er H1 s1 => ?_⟩
  · refine ⟨_, rfl, _, rfl, p, _, dx, _, _, rfl, s1 _ _ hp, T.c_Example, T.n_Example_after, ex_after _ _, _, _, .lst (SqL.of h1) (dpAll_T r), .lst (SqL.of (s1 _ _ hc)) (dpAll_T e.b), dT_shaped r, dT_shaped e.b, ?_⟩
    rw [dT_eqv]
    have kk := kq H1 s1
    rw [fits_one, er] at kk
    have e1 : (some r == some e.b) = decide (r = e.b) := by
      show (r == e.b) = _
      by_cases h : r = e.b
      · rw [decide_eq_true h, h]
        exact beq_self_eq_true _
      · rw [decide_eq_false h]
        exact beq_eq_false_iff_ne.mpr h
    rw [e1] at kk
    exact kk
  · refine ⟨true, T.e_TooMuch, fun _ a2 ha2 => ?_, fun q => nomatch q⟩
    have kk := kq H1 s1
    rw [fits_one, er] at kk
    exact kk
theorem sc_far_from : FnScope ["script", "example", "result"] ["script", "example"] (defScope s_far_from) := ⟨rfl, rfl, rfl, by decide +kernel, rfl, by decide +kernel, by decide +kernel⟩
theorem ok_far_from (T : Txt K mg) : DOk P w K mg base CX0 8 "far_from" (spFarFrom K) := by
  obtain ⟨fd, F⟩ := T.f_far_from
  have sc := sc_far_from
  obtain ⟨_, c_TOO_MUCH_FAR⟩ := T.v_TOO_MUCH_FAR
  have K_result_of : DOk P w K mg base (L2.CX P w) 7 "result_of" (spResult K) := ok_result_of T
  have K_how_far : DOk P w K mg base CX0 2 "how_far" (spFar K) := ok_how_far T
  refine dok F T.g_far_from (fun _ _ _ _ _ _ us hl => match us, hl with | [_, _], _ => rfl) sc (fun vs H Q E h => by obtain ⟨_, _, _, _, rfl, _⟩ := h; rfl) (fun cdv A outer s H vs Q E hr h => ?_)
  refine ⟨_, PSs.nox (pss_cons (ps_try_only rfl rfl ⟨rfl, by decide, .inl T.g_TooMuch⟩ takes0
  (fun W pn xe tk _ => (pss_one (ps_set (i := 2) sc.nd rfl (Or.inl rfl) (pe_dS K_result_of hr (by first | decide | omega) rfl tk (pa_cons (pv 0) (pa_cons (pe_fldK (K := K) rfl (pv 1) rfl) pa_nil))))))
  (fun _ _ _ _ _ _ _ => (pss_one (ps_ret (pe_glob (v := .int (1000)) rfl c_TOO_MUCH_FAR ⟨_, rfl⟩)))))
  (pss_one (ps_ret (pe_d K_how_far hr (by first | decide | omega) rfl (pa_cons (pv 2) (pa_cons (pe_fldK (K := K) rfl (pv 1) rfl) pa_nil)))))), ?_⟩
  obtain ⟨a, v, cs, e, rfl, rs, hok, hlen, re, oe, kq⟩ := h
  obtain ⟨p, dx, b, c, rfl, hp, hb, hc⟩ := id re
  refine ⟨_, rfl, _, rfl, p, _, dx, _, _, rfl, hp, T.c_Example, T.n_Example_before, ex_before _ _, a, b, cs, e.a, rfl, rs, hok, hlen, hb, okTx_24 oe.1, oe.1.2, fun r er q H1 hq s1 h1 => ?_, fun er H1 s1 => ?_⟩
  · refine ⟨_, rfl, _, rfl, p, _, dx, _, _, rfl, s1 _ _ hp, T.c_Example, T.n_Example_after, ex_after _ _, ?_⟩
    have hrl := result_len er
    refine ⟨q, c, r, e.b, rfl, SqL.of h1, SqL.of (s1 _ _ hc), by omega, Nat.le_trans oe.2.1 (by decide), fun H2 s2 => ?_⟩
    have kk := kq H2 (s1.trans s2)
    unfold Vasedf.missing at kk
    rw [er] at kk
    exact kk
  · refine ⟨true, T.e_TooMuch, fun _ a2 ha2 => ?_, fun q => nomatch q⟩
    have kk := kq H1 s1
    unfold Vasedf.missing at kk
    rw [er] at kk
    exact kk
end
/-- a list of scripts at a -/
def RepSc (K : PySem.W.Frag) (H : Hp) (v : V) (s : List VCmd) : Prop := ∃ p, v = .ref p ∧ RepS K H p s
theorem RepSc.same {K : PySem.W.Frag} {H H' : Hp} (e : Same H H') {v : V} {s : List VCmd} : RepSc K H v s → RepSc K H' v s := fun ⟨p, q, r⟩ => ⟨p, q, r.same e⟩
def okS (s : List VCmd) : Prop := (∀ c ∈ s, okRC c) ∧ s.length ≤ 16
def spFitsAll (K : PySem.W.Frag) : Sp := fun vs H Q _ => ∃ (a b : Addr) (s : List VCmd) (es : List VEx), vs = [.ref a, .ref b] ∧ RepS K H a s ∧ okS s ∧ RepE K H b es ∧ okE es ∧ ∀ H', Same H H' → Q (.bl (Vasedf.fits es s)) H'
def spFarAll (K : PySem.W.Frag) : Sp := fun vs H Q _ => ∃ (a b : Addr) (s : List VCmd) (es : List VEx), vs = [.ref a, .ref b] ∧ RepS K H a s ∧ okS s ∧ RepE K H b es ∧ okE es ∧ ∀ H', Same H H' → Q (.int (Vasedf.total es s : Nat)) H'
def spAllFit (K : PySem.W.Frag) : Sp := fun vs H Q _ => ∃ (a b : Addr) (ss : List (List VCmd)) (us : List V) (es : List VEx), vs = [.ref a, .ref b] ∧ H a = some (.lst us) ∧ Paired (RepSc K H) us ss ∧ (∀ s ∈ ss, okS s) ∧ ss.length ≤ 10000 ∧ RepE K H b es ∧ okE es ∧
  NewR (RepSc K) (ss.filter (Vasedf.fits es)) H Q
theorem sum_int (l : List VEx) (s : List VCmd) : ((l.map fun e => ((Vasedf.missing s e : Nat) : Int)).sum) = ((l.map (Vasedf.missing s)).sum : Nat) := by
  induction l with
  | nil => rfl
  | cons e l ih => simp only [List.map_cons, List.sum_cons, ih]; omega
section
variable {P : Program} {w : World} {K : PySem.W.Frag} {mg : Str → Option Value} {base : Heap}
theorem sc_fits_all : FnScope ["script", "examples", "example"] ["script", "examples"] (defScope s_fits_all) := ⟨rfl, rfl, rfl, by decide +kernel, rfl, by decide +kernel, by decide +kernel⟩
theorem ok_fits_all (T : Txt K mg) : DOk P w K mg base CX0 9 "fits_all" (spFitsAll K) := by
  obtain ⟨fd, F⟩ := T.f_fits_all
  have sc := sc_fits_all
  have K_fits : DOk P w K mg base CX0 8 "fits" (spFits K) := ok_fits T
  refine dok F T.g_fits_all (fun _ _ _ _ _ _ us hl => match us, hl with | [_, _], _ => rfl) sc (fun vs H Q E h => by obtain ⟨_, _, _, _, rfl, _⟩ := h; rfl) (fun cdv A outer s H vs Q E hr h => ?_)
  refine ⟨_, PSs.nox (pss_cons (ps_for PassesOwn.never rfl (pi_listK (K := K) rfl (pv 1)) (pg_name (i := 2) sc.nd rfl (Or.inl rfl))
  (pss_one (ps_if (pt_not (pt_val (pe_d K_fits hr (by first | decide | omega) rfl (pa_cons (pv 0) (pa_cons (pv 2) pa_nil)))))
    (pss_one (ps_ret pe_bl))
    pss_nil)))
  (pss_one (ps_ret pe_bl))), ?_⟩
  obtain ⟨a, b, cs, es, rfl, rs, os, ⟨us, hb, hp⟩, oe, kq⟩ := h
  have hul := paired_len hp
  refine ⟨_, rfl, b, rfl, ⟨_, SqL.of hb⟩, for_list (K := K) (a := b) (xs := us) (fun i σ H' => ∃ v2 : Option V, σ = [some (.ref a), some (.ref b), v2] ∧ Same H H' ∧ Vasedf.fits (es.take i) cs = true) ⟨none, rfl, Same.refl _, rfl⟩ (fun i σ H' _ ⟨_, _, s, _⟩ => SqL.of (s _ _ hb)) ?_ ?_⟩
  · rintro i x σ H1 hi ⟨v2, rfl, s1, hf⟩
    obtain ⟨e, he, re⟩ := paired_get hp hi
    have oe1 := oe.2 e (List.mem_of_getElem? he)
    have hadd : Vasedf.fits (es.take (i + 1)) cs = (Vasedf.fits (es.take i) cs && Vasedf.fits [e] cs) := by
      rw [take_more he]
      unfold Vasedf.fits
      rw [List.all_append]
    refine ⟨_, rfl, _, rfl, a, x, cs, e, rfl, RepS.same s1 rs, os.1, os.2, RepX.same s1 re, oe1, fun H2 s2 => ⟨_, rfl, ite2 (fun c => ?_) fun c => ?_⟩⟩
    · have hc : Vasedf.fits [e] cs = false := by simpa using c
      have hall : Vasedf.fits es cs = false := by
        have e2 : es = es.take (i + 1) ++ es.drop (i + 1) := (List.take_append_drop ..).symm
        rw [e2]
        have e3 : Vasedf.fits (es.take (i + 1) ++ es.drop (i + 1)) cs = (Vasedf.fits (es.take (i + 1)) cs && Vasedf.fits (es.drop (i + 1)) cs) := by
          unfold Vasedf.fits
          rw [List.all_append]
        rw [e3, hadd, hc, Bool.and_false, Bool.false_and]
      have kk := kq H2 (s1.trans s2)
      rw [hall] at kk
      exact kk
    · have hc : Vasedf.fits [e] cs = true := by simpa using c
      exact ⟨_, rfl, s1.trans s2, by rw [hadd, hf, hc]; rfl⟩
  · rintro σ H1 ⟨v2, rfl, s1, hf⟩
    rw [hul, List.take_length] at hf
    have kk := kq H1 s1
    rw [hf] at kk
    exact kk
theorem sc_far_from_all : FnScope ["script", "examples", "example"] ["script", "examples"] (defScope s_far_from_all) := ⟨rfl, rfl, rfl, by decide +kernel, rfl, by decide +kernel, by decide +kernel⟩
theorem ok_far_from_all (T : Txt K mg) : DOk P w K mg base CX0 9 "far_from_all" (spFarAll K) := by
  obtain ⟨fd, F⟩ := T.f_far_from_all
  have sc := sc_far_from_all
  have K_far_from : DOk P w K mg base CX0 8 "far_from" (spFarFrom K) := ok_far_from T
  refine dok F T.g_far_from_all (fun _ _ _ _ _ _ us hl => match us, hl with | [_, _], _ => rfl) sc (fun vs H Q E h => by obtain ⟨_, _, _, _, rfl, _⟩ := h; rfl) (fun cdv A outer s H vs Q E hr h => ?_)
  refine ⟨_, PSs.nox (pss_one (ps_ret (pe_callB (cr_sum rfl) rfl T.b_sum (by decide +kernel) (pa_cons (pe_lc (own := [("example", 2)]) rfl sc.nd (pi_listK (K := K) rfl (pv 1)) (blkOk_by (N := ["script", "examples", "example"]) (sc := defScope s_far_from_all) (by decide +kernel)) (fun _ _ _ _ _ => (pg_name (i := 2) sc.nd rfl (Or.inl rfl))) (fun _ _ _ _ _ => pts_nil) (fun _ _ _ _ _ => (pe_d K_far_from hr (by first | decide | omega) rfl (pa_cons (pv 0) (pa_cons (pv 2) pa_nil))))) pa_nil)))), ?_⟩
  obtain ⟨a, b, cs, es, rfl, rs, os, ⟨us, hb, hp⟩, oe, kq⟩ := h
  have hul := paired_len hp
  have hel := oe.1
  refine ⟨_, rfl, b, rfl, ⟨_, SqL.of hb⟩, fun D hD => ?_⟩
  refine lc_list (K := K) (a := b) (xs := us) (fun i H' => Same H H' ∧ H' D = some (.lst ((es.map fun e => V.int (Vasedf.missing cs e : Nat)).take i))) ⟨Same.new hD, upd_same⟩ (fun i H1 _ ⟨s1, _⟩ => SqL.of (s1 _ _ hb)) ?_ ?_
  · rintro i x H1 hi ⟨s1, h1⟩
    obtain ⟨e, he, re⟩ := paired_get hp hi
    have hm2 : (es.map fun e => V.int (Vasedf.missing cs e : Nat))[i]? = some (V.int (Vasedf.missing cs e : Nat)) := by rw [List.getElem?_map, he]; rfl
    refine ⟨rfl, _, rfl, _, rfl, a, x, cs, e, rfl, RepS.same s1 rs, os.1, os.2, RepX.same s1 re, oe.2 e (List.mem_of_getElem? he), fun H2 s2 => ?_⟩
    refine ⟨_, s2 _ _ h1, smallLt (m := 100) (by rw [List.length_take, List.length_map]; omega), Same.put (s1.trans s2) hD, ?_⟩
    rw [upd_same, take_more hm2]
  · rintro H1 ⟨s1, h1⟩
    rw [List.take_of_length_le (by rw [List.length_map]; omega)] at h1
    refine ⟨D, es.map fun e => ((Vasedf.missing cs e : Nat) : Int), rfl, SqL.of (by rw [h1, List.map_map]; rfl), ?_⟩
    rw [sum_int]
    exact kq H1 s1
theorem sc_all_fitting : FnScope ["scripts", "examples", "script"] ["scripts", "examples"] (defScope s_all_fitting) := ⟨rfl, rfl, rfl, by decide +kernel, rfl, by decide +kernel, by decide +kernel⟩
theorem ok_all_fitting (T : Txt K mg) : DOk P w K mg base CX0 10 "all_fitting" (spAllFit K) := by
  obtain ⟨fd, F⟩ := T.f_all_fitting
  have sc := sc_all_fitting
  have K_fits_all : DOk P w K mg base CX0 9 "fits_all" (spFitsAll K) := ok_fits_all T
  refine dok F T.g_all_fitting (fun _ _ _ _ _ _ us hl => match us, hl with | [_, _], _ => rfl) sc (fun vs H Q E h => by obtain ⟨_, _, _, _, _, rfl, _⟩ := h; rfl) (fun cdv A outer s H vs Q E hr h => ?_)
  refine ⟨_, PSs.nox (pss_one (ps_ret (pe_lc (own := [("script", 2)]) rfl sc.nd (pi_listK (K := K) rfl (pv 0)) (blkOk_by (N := ["scripts", "examples", "script"]) (sc := defScope s_all_fitting) (by decide +kernel)) (fun _ _ _ _ _ => (pg_name (i := 2) sc.nd rfl (Or.inl rfl))) (fun _ _ _ _ _ => (pts_one (pt_val (pe_d K_fits_all hr (by first | decide | omega) rfl (pa_cons (pv 2) (pa_cons (pv 1) pa_nil)))))) (fun _ _ _ _ _ => (pv 2))))), ?_⟩
  obtain ⟨a, b, ss, us, es, rfl, ha, hp, hok, hsl, re, oe, kq⟩ := h
  have hul := paired_len hp
  refine ⟨_, rfl, a, rfl, ⟨_, SqL.of ha⟩, fun D hD => ?_⟩
  refine lc_list (K := K) (a := a) (xs := us) (fun i H' => Same H H' ∧ ∃ ys, H' D = some (.lst ys) ∧ Paired (RepSc K H) ys ((ss.take i).filter (Vasedf.fits es))) ⟨Same.new hD, [], upd_same, .nil⟩ (fun i H1 _ ⟨s1, _⟩ => SqL.of (s1 _ _ ha)) ?_ ?_
  · rintro i x H1 hi ⟨s1, ys, h1, r1⟩
    obtain ⟨cs, hc, rc⟩ := paired_get hp hi
    obtain ⟨q, rfl, rq⟩ := id rc
    have hyl := paired_len r1
    have hfl := List.length_filter_le (Vasedf.fits es) (ss.take i)
    rw [List.length_take] at hfl
    have htk : (ss.take (i + 1)).filter (Vasedf.fits es) = (ss.take i).filter (Vasedf.fits es) ++ if Vasedf.fits es cs = true then [cs] else [] := by
      rw [take_more hc, List.filter_append, List.filter_cons]
      rfl
    refine ⟨rfl, _, rfl, _, rfl, q, b, cs, es, rfl, RepS.same s1 rq, hok cs (List.mem_of_getElem? hc), RepE.same s1 re, oe, fun H2 s2 => ⟨_, rfl, ite2 (fun c => ?_) fun c => ?_⟩⟩
    · rw [if_pos c] at htk
      refine ⟨_, rfl, ys, s2 _ _ h1, smallLt (m := 20000) (by omega), Same.put (s1.trans s2) hD, _, upd_same, ?_⟩
      rw [htk]
      exact paired_app r1 (.cons rc .nil)
    · rw [if_neg c, List.append_nil] at htk
      exact ⟨s1.trans s2, ys, s2 _ _ h1, by rw [htk]; exact r1⟩
  · rintro H1 ⟨s1, ys, h1, r1⟩
    rw [hul, List.take_length] at r1
    exact kq D H1 ys hD s1 h1 (paired_imp (fun _ _ r => r.same s1) r1)
end
end Ls
set_option Elab.async false
set_option linter.all false
set_option maxRecDepth 100000
set_option maxHeartbeats 4000000
/-! raw values of the frame: which text (by its token) stands in a slot -/
namespace Ls
open PySem PySem.Spec PyProof.Rows L2
/-- a text whose token is n or younger, below m -/
def Yng (n m : Nat) (u : Value) : Prop := ∃ (z : Str) (t : Nat), u = .str z t ∧ n ≤ t ∧ t < m
theorem Yng.up {n m m' : Nat} {u : Value} (h : Yng n m u) (k : m ≤ m') : Yng n m' u := by
  obtain ⟨z, t, e, h1, h2⟩ := h
  exact ⟨z, t, e, h1, Nat.lt_of_lt_of_le h2 k⟩
/-- what stands in slot i, exactly -/
def Has (X : Cx) (i : Nat) (φ : Value → Prop) (s : Shared) : Prop := ∃ m x u, s.heap.Ns X.env.locals m ∧ X.N[i]? = some x ∧ X.env.kindOf x = some .local ∧ m x = some u ∧ φ u
/-- the frame's names are kept, tokens are only given out -/
def LK (X : Cx) (s s1 : Shared) : Prop := s.toks ≤ s1.toks ∧ ∀ m, s.heap.Ns X.env.locals m → s1.heap.Ns X.env.locals m
section
variable {X : Cx} {s s1 s2 : Shared} {i : Nat} {φ : Value → Prop}
theorem LK.refl : LK X s s := ⟨Nat.le_refl _, fun _ h => h⟩
theorem LK.trans (a : LK X s s1) (b : LK X s1 s2) : LK X s s2 := ⟨Nat.le_trans a.1 b.1, fun m h => b.2 m (a.2 m h)⟩
theorem LK.tok {t : Nat} (h : s.toks ≤ t) : LK X s { s with toks := t } := ⟨h, fun _ q => q⟩
theorem Has.keep (h : Has X i φ s) (k : LK X s s1) : Has X i φ s1 := by
  obtain ⟨m, x, u, a, b⟩ := h
  exact ⟨m, x, u, k.2 m a, b⟩
theorem Has.imp {ψ : Value → Prop} (h : Has X i φ s) (k : ∀ u, φ u → ψ u) : Has X i ψ s := by
  obtain ⟨m, x, u, a, b, c, d, e⟩ := h
  exact ⟨m, x, u, a, b, c, d, k u e⟩
theorem ns_same {h : Heap} {a : Addr} {m m' : Str → Option Value} (p : h.Ns a m) (q : h.Ns a m') (x : Str) : m x = m' x := by
  obtain ⟨o, es, ep, h1, h2, _, h3⟩ := p
  obtain ⟨o', es', ep', h1', h2', _, h3'⟩ := q
  rw [h1] at h1'; cases h1'
  rw [h2] at h2'
  injection h2' with e1 e2
  subst e1
  rw [← h3, ← h3']
end
section
variable {X : Cx} {e : Expr} {a b c : Expr} {t ta tb tc : TE} {pos : Pos}
structure PK (X : Cx) (e : Expr) (t : TE) : Prop where
  go : ∀ (pins : List (Addr × Obj)) (s : Shared) (σ : L2.St) (H : Hp) (Q : VK), Inv X pins σ H s → t σ H Q →
    wpAny (model X.prog X.w) X.A (eval e X.env) (fun v s1 => LK X s s1 ∧ EP X pins σ Q v s1) X.xe s
structure PKT (X : Cx) (e : Expr) (t : TT) : Prop where
  go : ∀ (wh : Sem Value) (pins : List (Addr × Obj)) (s : Shared) (σ : L2.St) (H : Hp) (Q : Bool → Hp → Prop), Inv X pins σ H s → t σ H Q →
    wpAny (model X.prog X.w) X.A (isTrue e X.env wh) (fun v s1 => LK X s s1 ∧ TP X pins σ Q v s1) X.xe s
structure PKT1 (X : Cx) (e : Expr) (t : TT) : Prop where
  go : ∀ (pins : List (Addr × Obj)) (s : Shared) (σ : L2.St) (H : Hp) (Q : Bool → Hp → Prop), Inv X pins σ H s → t σ H Q →
    wpAny (model X.prog X.w) X.A (isTrue e X.env (eval e X.env)) (fun v s1 => LK X s s1 ∧ TP X pins σ Q v s1) X.xe s
theorem PKT.one {t : TT} (h : PKT X e t) : PKT1 X e t := ⟨h.go _⟩
/-- a raw name -/
theorem has_name {i : Nat} {x : Str} {φ : Value → Prop} {s : Shared} {p : Pos} {Q E : Value → Shared → Prop} (hx : X.N[i]? = some x) (hk : X.env.scope.kind = .function) (h : Has X i φ s) (q : ∀ u, φ u → Q u s)
    (hd : (x == ("__debug__" : Str)) = false := by decide) : wpAny (model X.prog X.w) X.A (eval (.Name x p) X.env) Q E s := by
  obtain ⟨m, y, u, h1, h2, h3, h4, h5⟩ := h
  rw [hx] at h2; cases h2
  exact wpAny_Name (wpAny_loadName_local hk h3 h1 h4 (q u h5)) hd
theorem pk_name {i : Nat} {x : Str} (hx : X.N[i]? = some x) (hv : Vis X.env.scope x) (hd : (x == ("__debug__" : Str)) = false := by decide) (hcd : (x == ("__classdict__" : Str)) = false := by decide) : PK X (.Name x pos) (tVar i) := by
  constructor
  intro pins s σ H Q I h
  obtain ⟨v, e, h⟩ := h
  exact raw_name hx hv I e (fun u r => ⟨LK.refl, v, H, I, r, h⟩) hd hcd
theorem pk_int {i j} : PK X (.Constant (.int i) j pos) (tC (.int i)) := by
  constructor
  intro pins s σ H Q I h
  exact wpAny_Constant_int ⟨LK.tok (Nat.le_succ _), .int i, H, I.tok _, ⟨_, rfl⟩, h⟩
theorem pk_str {x j} : PK X (.Constant (.str x) j pos) (tC (.str x)) := by
  constructor
  intro pins s σ H Q I h
  exact Calls.Constant_str ⟨LK.tok (Nat.le_succ _), .str x, H, I.tok _, ⟨_, rfl⟩, h⟩
theorem pk_glob {x : Str} {v : V} {u : Value} (hg : Gl X x) (hm : X.mg x = some u) (r : RelV v u) (hd : (x == ("__debug__" : Str)) = false := by decide) : PK X (.Name x pos) (tC v) := by
  constructor
  intro pins s σ H Q I h
  exact ld_glob I hg hm ⟨LK.refl, v, H, I, r, h⟩ hd
/-- an operation that keeps the frame -/
def OKR (X : Cx) (f : Value → Value → Sem Value) (r : R2) : Prop := ∀ (pins : List (Addr × Obj)) (s : Shared) (σ : L2.St) (H : Hp) (x y : V) (v u : Value) (Q : VK), Inv X pins σ H s → RelV x v → RelV y u → r x y H Q →
  wpAny (model X.prog X.w) X.A (f v u) (fun z s1 => LK X s s1 ∧ EP X pins σ Q z s1) X.xe s
theorem okr_sub : OKR X (binaryOp .Sub) (rI0 fun i j => .int (i - j)) := by
  rintro pins s σ H x y v u Q I rx ry ⟨i, j, rfl, rfl, q⟩
  obtain ⟨t, rfl⟩ := rx
  obtain ⟨t', rfl⟩ := ry
  exact sub_int ⟨LK.tok (Nat.le_succ _), .int (i - j), H, I.tok _, ⟨_, rfl⟩, q⟩
theorem okr_iadd : OKR X (inplaceOp .Add) (rI0 fun i j => .int (i + j)) := by
  rintro pins s σ H x y v u Q I rx ry ⟨i, j, rfl, rfl, q⟩
  obtain ⟨t, rfl⟩ := rx
  obtain ⟨t', rfl⟩ := ry
  exact iadd_int ⟨LK.tok (Nat.le_succ _), .int (i + j), H, I.tok _, ⟨_, rfl⟩, q⟩
theorem okr_lt : OKR X (compareOp .Lt) (rI0 fun i j => .bl (decide (i < j))) := by
  rintro pins s σ H x y v u Q I rx ry ⟨i, j, rfl, rfl, q⟩
  obtain ⟨t, rfl⟩ := rx
  obtain ⟨t', rfl⟩ := ry
  exact lt_int ⟨LK.refl, .bl (decide (i < j)), H, I, rfl, q⟩
theorem okr_le : OKR X (compareOp .LtE) (rI0 fun i j => .bl (decide (i ≤ j))) := by
  rintro pins s σ H x y v u Q I rx ry ⟨i, j, rfl, rfl, q⟩
  obtain ⟨t, rfl⟩ := rx
  obtain ⟨t', rfl⟩ := ry
  exact le_int ⟨LK.refl, .bl (decide (i ≤ j)), H, I, rfl, q⟩
theorem pk_op {op : Operator} {r : R2} (ho : OKR X (binaryOp op) r) (ha : PK X a ta) (hb : PK X b tb) : PK X (.BinOp a op b pos) (tOp r ta tb) := by
  constructor
  intro pins s σ H Q I h
  refine wpAny_BinOp (thn (ha.go pins s σ H _ I h) ?_)
  rintro v s1 ⟨k1, x, H1, I1, r1, q1⟩
  refine thn (hb.go pins s1 σ H1 _ I1 q1) ?_
  rintro u s2 ⟨k2, y, H2, I2, r2, q2⟩
  exact thn (ho pins s2 σ H2 x y v u Q I2 r1 r2 q2) fun z s3 ⟨k3, q3⟩ => ⟨(k1.trans k2).trans k3, q3⟩
theorem pkt_cmp {op : CmpOp} {r : R2} (ho : OKR X (compareOp op) r) (ha : PK X a ta) (hb : PK X b tb) (hm : behindInMarks op b = false) : PKT1 X (.Compare a [op] [b] pos) (tTest (tOp r ta tb)) := by
  constructor
  intro pins s σ H Q I h
  refine wpAny_isTrue_Compare1 (thn (ha.go pins s σ H _ I h) ?_) hm
  rintro v s1 ⟨k1, x, H1, I1, r1, q1⟩
  refine thn (hb.go pins s1 σ H1 _ I1 q1) ?_
  rintro u s2 ⟨k2, y, H2, I2, r2, q2⟩
  refine thn (ho pins s2 σ H2 x y v u _ I2 r1 r2 q2) ?_
  rintro z s3 ⟨k3, zv, H3, I3, r3, d, rfl, q3⟩
  cases r3
  exact wpAny_truthy_bool ⟨(k1.trans k2).trans k3, H3, I3, q3⟩
theorem pkt_chain {op op' : CmpOp} {r r' : R2} (ho : OKR X (compareOp op) r) (ho' : OKR X (compareOp op') r') (ha : PK X a ta) (hb : PK X b tb) (hc : PK X c tc)
    (hm : lastMarks [op, op'] [b, c] = false := by with_unfolding_all rfl) : PKT1 X (.Compare a [op, op'] [b, c] pos) (tTest (tChain r r' ta tb tc)) := by
  constructor
  intro pins s σ H Q I h
  refine isTrue_chain (thn (ha.go pins s σ H _ I h) ?_) hm
  rintro v s1 ⟨k1, x, H1, I1, r1, q1⟩
  refine test_link (thn (hb.go pins s1 σ H1 _ I1 q1) ?_)
  rintro u s2 ⟨k2, y, H2, I2, r2, q2⟩
  refine thn (ho pins s2 σ H2 x y v u _ I2 r1 r2 q2) ?_
  rintro d s3 ⟨k3, z, H3, I3, r3, k, rfl, q3⟩
  cases r3
  refine wpAny_truthy_bool ?_
  have k13 := (k1.trans k2).trans k3
  rcases k with _ | _
  · obtain ⟨k', e', q'⟩ := q3
    cases e'
    exact ite_ff ⟨k13, H3, I3, q'⟩
  · refine ite_tt (test_last (thn (hc.go pins s3 σ H3 _ I3 q3) ?_))
    rintro w' s4 ⟨k4, z', H4, I4, r4, q4⟩
    refine thn (ho' pins s4 σ H4 y z' u w' _ I4 r2 r4 q4) ?_
    rintro d' s5 ⟨k5, z2, H5, I5, r5, kk, rfl, q5⟩
    cases r5
    exact wpAny_truthy_bool ⟨(k13.trans k4).trans k5, H5, I5, q5⟩
variable {tA tB' : TT} {rest : List Expr}
theorem pkt_and1 (ha : PKT1 X a tA) : PKT X (.BoolOp .And [a] pos) tA := by
  constructor
  intro wh pins s σ H Q I h
  refine isTrue_and (thn (ha.go pins s σ H Q I h) ?_)
  rintro (_ | _) s1 e
  · exact e
  · exact isTrue_and_nil e
theorem pkt_and (ha : PKT1 X a tA) (hb : PKT X (.BoolOp .And (b :: rest) pos) tB') : PKT X (.BoolOp .And (a :: b :: rest) pos) (tAnd tA tB') := by
  constructor
  intro wh pins s σ H Q I h
  refine isTrue_and (thn (ha.go pins s σ H _ I h) ?_)
  rintro (_ | _) s1 ⟨k1, H1, I1, q1⟩
  · exact ⟨k1, H1, I1, q1⟩
  · exact thn (hb.go wh pins s1 σ H1 Q I1 q1) fun _ s2 ⟨k2, q2⟩ => ⟨k1.trans k2, q2⟩
end
section
variable {X : Cx} {e : Expr} {a b c : Expr} {t ta tb tc : TE} {pos : Pos} {es : List Expr}
theorem pk_ixL {K : PySem.W.Frag} (hK : X.K = K) (ha : PK X a ta) (hb : PK X b tb) (hs : PlainIx b) : PK X (.Subscript a b pos) (tOp (fun x y H Q => ∃ p xs i v, x = .ref p ∧ y = .int i ∧ SqL K H p xs ∧ 0 ≤ i ∧ xs[i.toNat]? = some v ∧ Q v H) ta tb) := by
  subst hK
  constructor
  intro pins s σ H Q I h
  refine Subscript_ (thn (ha.go pins s σ H _ I h) ?_)
  rintro v s1 ⟨k1, x, H1, I1, r1, q1⟩
  refine thn (hb.go pins s1 σ H1 _ I1 q1) ?_
  rintro u s2 ⟨k2, y, H2, I2, r2, p, xs, i, w, rfl, rfl, hq, h0, hw, q⟩
  obtain rfl : v = Value.ref p := r1
  obtain ⟨t', rfl⟩ := r2
  obtain ⟨its, rv, pl, hz⟩ := I2.list hq
  obtain ⟨u', hu, ru⟩ := rv.get hw
  have hlt := (List.getElem?_eq_some_iff.mp hw).1
  have hn := line63
  exact item_listR pl.isList h0 (by omega) (by simpa using hu) ⟨k1.trans k2, w, H2, I2, ru, q⟩ (hs _ _)
/-- len of a list; of a text -/
theorem pk_lenL {K : PySem.W.Frag} {p' : Pos} (hK : X.K = K) (hg : Gl X "len") (hm : X.mg "len" = none) (hv : bootBuiltins "len" = some (.builtin "len")) (ha : PK X e t)
    (he : starEach [e] X.env = [(false, eval e X.env)] := by rfl) (hpl : (backTo pos (starEach [] X.env)).any (·.1) = false := by rfl) :
    PK X (.Call (.Name "len" p') [e] [] pos) (fun σ H Q => t σ H fun x H1 => ∃ p ys, x = .ref p ∧ SqL K H1 p ys ∧ Q (.int ys.length) H1) := by
  subst hK
  constructor
  intro pins s σ H Q I h
  refine wpAny_Call_Name_kw (ld_blt I hg hm hv ?_ (by decide) (by decide))
  refine PyProof.Rows.callWith_builtin1 ?_ he hpl
  rw [he]
  show wpAny _ _ (spliced [(false, eval e X.env)]) _ _ _
  refine Calls.spliced_cons (thn (ha.go pins s σ H _ I h) ?_)
  rintro v s1 ⟨k1, x, H1, I1, r1, p, ys, rfl, hq, q⟩
  obtain rfl : v = Value.ref p := r1
  obtain ⟨its, rv, pl, hz⟩ := I1.list hq
  have hl := rv.length
  have hn := line63
  refine Calls.spliced_nil (Calls.call_len_list pl.isList (by rw [List.size_toArray]; omega) ?_)
  exact ⟨k1.trans (LK.tok (by omega)), .int ys.length, H1, I1.tok _, ⟨_, by rw [List.size_toArray, hl]⟩, q⟩
theorem pk_lenS {p' : Pos} (hg : Gl X "len") (hm : X.mg "len" = none) (hv : bootBuiltins "len" = some (.builtin "len")) (ha : PK X e t)
    (he : starEach [e] X.env = [(false, eval e X.env)] := by rfl) (hpl : (backTo pos (starEach [] X.env)).any (·.1) = false := by rfl) :
    PK X (.Call (.Name "len" p') [e] [] pos) (fun σ H Q => t σ H fun x H1 => ∃ z, x = .str z ∧ z.length ≤ sizeLine ∧ Q (.int z.length) H1) := by
  constructor
  intro pins s σ H Q I h
  refine wpAny_Call_Name_kw (ld_blt I hg hm hv ?_ (by decide) (by decide))
  refine PyProof.Rows.callWith_builtin1 ?_ he hpl
  rw [he]
  show wpAny _ _ (spliced [(false, eval e X.env)]) _ _ _
  refine Calls.spliced_cons (thn (ha.go pins s σ H _ I h) ?_)
  rintro v s1 ⟨k1, x, H1, I1, r1, z, rfl, hz, q⟩
  obtain ⟨t', rfl⟩ := r1
  have hn := line63
  refine Calls.spliced_nil (len_str (by omega) ?_)
  exact ⟨k1.trans (LK.tok (by omega)), .int z.length, H1, I1.tok _, ⟨_, rfl⟩, q⟩
/-- a local name is stored -/
theorem Inv.put {pins : List (Addr × Obj)} {σ : L2.St} {H : Hp} {s : Shared} {i : Nat} {x : Str} {v : V} {u : Value} {m : Str → Option Value} {h' : Heap} {tk : Nat} (I : Inv X pins σ H s) (nd : X.N.Nodup) (hi : X.N[i]? = some x) (hk : X.env.kindOf x = some .local)
    (r : RelV v u) (hn : s.heap.Ns X.env.locals m) (hn' : h'.Ns X.env.locals (fun y => if y = x then some u else m y)) (hs : Heap.SameBut X.env.locals s.heap h') : Inv X pins (σ.set i (some v)) H { s with heap := h', toks := tk } := by
  have old : ∀ b o, X.s_0.heap.get? b = some o → b ≠ X.env.locals := by
    intro b o e z
    have h1 := Nat.lt_of_lt_of_le (Heap.lt_size e) I.ok.above
    rw [z] at h1
    exact Nat.lt_irrefl _ h1
  have hil : i < σ.length := by
    have h1 := (List.getElem?_eq_some_iff.mp hi).1
    have h2 := I.len
    omega
  constructor
  · exact I.ok
  · exact I.os
  · exact I.bare
  · constructor
    · intro b o e n hb hx
      rw [hs.2 b (old b o e)]
      exact I.base.keep b o e n hb hx
    · intro b o e n hb hx
      obtain ⟨sl, e1⟩ := I.base.slot b o e n hb hx
      exact ⟨sl, by rw [hs.2 b (old b o e)]; exact e1⟩
    · exact I.base.free
    · intro b o e hx
      obtain ⟨o', e1⟩ := I.base.there b o e hx
      exact ⟨o', by rw [hs.2 b (old b o e)]; exact e1⟩
    · exact I.base.tups
    · exact I.base.frzs
    · exact I.base.tbls
  · refine ⟨_, hn', ?_⟩
    intro j y v' e1 e2 e3
    by_cases hj : j = i
    · subst hj
      obtain rfl : x = y := by rw [hi] at e1; exact Option.some.inj e1
      obtain rfl : v = v' := by rw [List.getElem?_set_self hil] at e2; exact Option.some.inj (Option.some.inj e2)
      exact ⟨u, r, .inl ⟨hk, if_pos rfl⟩⟩
    · have hji : i ≠ j := fun z => hj z.symm
      rw [List.getElem?_set_ne hji] at e2
      obtain ⟨m0, n0, hl⟩ := I.loc
      obtain ⟨u', r', q⟩ := hl j y v' e1 e2 e3
      refine ⟨u', r', ?_⟩
      obtain ⟨k, e⟩ | ⟨k, c, e, z⟩ := q
      · have hyx : y ≠ x := fun z => hj (nodup_ix nd e1 (by rw [z]; exact hi))
        refine .inl ⟨k, ?_⟩
        show (if y = x then some u else m y) = some u'
        rw [if_neg hyx, ns_same hn n0 y]
        exact e
      · refine .inr ⟨k, c, e, ?_⟩
        exact z.sameBut hs (I.cne y c e)
  · intro y c e
    obtain ⟨w', z⟩ := I.cell y c e
    exact ⟨w', z.sameBut hs (I.cne y c e)⟩
  · exact I.free
  · exact I.freeC
  · intro p hp
    obtain ⟨e, n, ne, nf, d⟩ := I.pin p hp
    exact ⟨by rw [hs.2 p.1 ne]; exact e, n, ne, nf, d⟩
  · intro b ob e
    refine (I.hok b ob e).stay ?_ (fun _ q => q) fun _ _ q => q
    intro c w' hc q
    have hcl : c ≠ X.env.locals := by
      intro z
      have hf := I.free
      rw [← z] at hf
      obtain rfl | hc := hc
      · rw [hf] at e; cases e
      · rw [hf] at hc; cases hc
    rw [hs.2 c hcl]
    exact q
  · rw [List.length_set]
    exact I.len
/-- a name is stored: all that stands in the frame -/
theorem put_raw {M : Model} {A : Around} {E : Value → Shared → Prop} {pins : List (Addr × Obj)} {σ : L2.St} {H : Hp} {s : Shared} {i : Nat} {x : Str} {v : V} {u : Value} {Q : Unit → Shared → Prop} (I : Inv X pins σ H s) (nd : X.N.Nodup) (hi : X.N[i]? = some x) (hk : X.env.kindOf x = some .local) (r : RelV v u)
    (q : ∀ s1, Inv X pins (σ.set i (some v)) H s1 → s.toks < s1.toks → Has X i (· = u) s1 → (∀ j φ, j ≠ i → Has X j φ s → Has X j φ s1) → Q () s1) : wpAny M A (storeName X.env x u) Q E s := by
  obtain ⟨m, hn, _⟩ := id I.loc
  refine wpAny_storeName_local hk hn ?_ (by rw [I.ok.kind]; rfl)
  intro h' hn' hs
  refine q _ (Inv.put I nd hi hk r hn hn' hs) (Nat.lt_succ_self _) ⟨_, x, u, hn', hi, hk, if_pos rfl, rfl⟩ ?_
  rintro j φ hj ⟨m2, y, w, h1, h2, h3, h4, h5⟩
  refine ⟨_, y, w, hn', h2, h3, ?_, h5⟩
  have hyx : y ≠ x := fun z => hj (nodup_ix nd h2 (by rw [z]; exact hi))
  show (if y = x then some u else m y) = some w
  rw [if_neg hyx, ns_same hn h1 y]
  exact h4
end
/-! statements that keep a word of the frame -/
structure PSR (X : Cx) (R : Shared → Prop) (st : Stmt) (t : TS) : Prop where
  go : ∀ (pins : List (Addr × Obj)) (s : Shared) (σ : L2.St) (H : Hp) (D : Ends), Inv X pins σ H s → R s → t D σ H → wpAny (model X.prog X.w) X.A (exec st X.env) (fun f s1 => R s1 ∧ SP X pins D f s1) X.xe s
structure PSRs (X : Cx) (R : Shared → Prop) (sts : List Stmt) (t : TS) : Prop where
  go : ∀ (pins : List (Addr × Obj)) (s : Shared) (σ : L2.St) (H : Hp) (D : Ends), Inv X pins σ H s → R s → t D σ H → wpAny (model X.prog X.w) X.A (execs sts X.env) (fun f s1 => R s1 ∧ SP X pins D f s1) X.xe s
section
variable {X : Cx} {R : Shared → Prop} {st : Stmt} {rest : List Stmt} {t u : TS} {pos : Pos}
theorem psrs_cons (h1 : PSR X R st t) (h2 : PSRs X R rest u) : PSRs X R (st :: rest) (tSeq t u) := by
  constructor
  intro pins s σ H D I hr h
  refine wpAny_execs_cons (thn (h1.go pins s σ H { D with nx := u D } I hr h) ?_)
  rintro (_ | _ | _ | v) s1 ⟨hr1, q⟩
  · obtain ⟨σ', H', I', q⟩ := q
    exact h2.go pins s1 σ' H' D I' hr1 q
  · exact ⟨hr1, q⟩
  · exact ⟨hr1, q⟩
  · exact ⟨hr1, q⟩
theorem psrs_nil : PSRs X R [] tNext := by
  constructor
  intro pins s σ H D I hr h
  exact wpAny_execs_nil ⟨hr, σ, H, I, h⟩
theorem psr_while {c : Expr} {body : List Stmt} {tc : TT} {tb : TS} (hp : PassesOwn (model X.prog X.w) X.A X.env X.xe) (hR : ∀ s s1, R s → LK X s s1 → R s1) (hc : PKT1 X c tc) (hb : PSRs X R body tb) : PSR X R (.While c body [] pos) (tWhile tc tb) := by
  constructor
  intro pins s σ H D I hr h
  obtain ⟨W, ⟨m0, w0⟩, turn⟩ := h
  refine wpAny_While (codeAny_whileLoop (fun n s' => R s' ∧ ∃ σ' H', Inv X pins σ' H' s' ∧ W n σ' H') ?_ m0 ⟨hr, σ, H, I, w0⟩)
  rintro n s1 ⟨hr1, σ1, H1, I1, w1⟩
  refine wpAny_passesOwn hp (thn (hc.go pins s1 σ1 H1 _ I1 (turn n σ1 H1 w1)) ?_)
  rintro (_ | _) s2 ⟨k2, H2, I2, q2⟩
  · rw [if_neg Bool.false_ne_true]
    exact wpAny_execs_nil ⟨hR _ _ hr1 k2, σ1, H2, I2, q2⟩
  · obtain ⟨N, hN, q2⟩ := q2
    rw [if_pos rfl]
    refine wpAny_passesOwn hp (thn (hb.go pins s2 σ1 H2 _ I2 (hR _ _ hr1 k2) q2) ?_)
    rintro (_ | _ | _ | v) s3 ⟨hr3, q3⟩
    · obtain ⟨σ3, H3, I3, n3⟩ := q3
      obtain ⟨m', hm, w3⟩ := hN σ3 H3 n3
      exact ⟨m', hm, hr3, σ3, H3, I3, w3⟩
    · exact ⟨hr3, q3⟩
    · obtain ⟨σ3, H3, I3, n3⟩ := q3
      obtain ⟨m', hm, w3⟩ := hN σ3 H3 n3
      exact ⟨m', hm, hr3, σ3, H3, I3, w3⟩
    · exact ⟨hr3, q3⟩
end
/-! ### defs whose results are told exactly -/
abbrev WK := Value → Shared → Hp → Prop
abbrev SpW := List V → List Value → Shared → Hp → WK → XK → Prop
def CEW (outer : List Env) (P : Program) (w : World) (H : Hp) (s : Shared) (Q : WK) (u : Value) (s' : Shared) : Prop :=
  ∃ H', s'.os = s.os ∧ AllBare s'.gens ∧ Un (frs outer) [] H H' s.heap s'.heap ∧ HOk P w H' s'.heap ∧ s.toks ≤ s'.toks ∧ Q u s' H'
def CRW (CX : CXT) (outer : List Env) (P : Program) (w : World) (H : Hp) (s : Shared) (Q : WK) (E : XK) : Result → Shared → Prop
  | .ok (.ret u), s' => CEW outer P w H s Q u s'
  | .ok _, _ => False
  | .error e, s' => CX outer H s E e s'
structure FnW (P : Program) (w : World) (K : PySem.W.Frag) (mg : Str → Option Value) (base : Heap) (CX : CXT) (k : Nat) (f : Addr) (fd : FuncData) (ps : List Str) (sp : SpW) : Prop where
  len : ∀ vs us s H Q E, sp vs us s H Q E → vs.length = ps.length
  go : ∀ (A : Around) (outer : List Env) (s : Shared) (H : Hp) (args : Args) (us : List Value) (vs : List V) (Q : WK) (E : XK), Room k A → Env0 P w K mg base A outer s H → BindsTo s fd args (ps.zip us) → Vals vs us → sp vs us s H Q E →
    codeAny (model P w) A (.call (.ref f) args) (CRW CX outer P w H s Q E) s
/-- the ends of a body -/
def BW (X : Cx) (Q : WK) (f : Flow) (s' : Shared) : Prop := match f with
  | .ret u => ∃ σ' H', Inv X [] σ' H' s' ∧ Q u s' H'
  | .next => ∃ σ' H', Inv X [] σ' H' s' ∧ Q Value.none s' H'
  | _ => False
structure DOkW (P : Program) (w : World) (K : PySem.W.Frag) (mg : Str → Option Value) (base : Heap) (CX : CXT) (k : Nat) (x : Str) (sp : SpW) : Prop where
  ex : ∃ (f : Addr) (fd : FuncData) (ps : List Str), FnW P w K mg base CX k f fd ps sp ∧ mg x = some (.ref f) ∧ PySem.W.keepIn K (.ref f) = true ∧ Binds K fd ps []
section
variable {P : Program} {w : World} {K : PySem.W.Frag} {mg : Str → Option Value} {base : Heap}
theorem fnW {CX : CXT} {x qual : Str} {params : Arguments} {body : List Stmt} {scope : Scope} {f : Addr} {fd : FuncData} {N ps : List Str} {k : Nat} {sp : SpW} {dvs : List V} {kws : List (Str × V)} (F : FunD K x qual params body scope dvs kws f fd) (S : FnScope N ps scope)
    (len : ∀ vs us s H Q E, sp vs us s H Q E → vs.length = ps.length)
    (hbody : ∀ (cdv : Value) (A : Around) (outer : List Env) (s : Shared) (H : Hp) (vs : List V) (us : List Value) (Q : WK) (E : XK) (s1 : Shared), Room k (A.deeper (envOfC qual scope s.heap.objs.size f cdv)) → Vals vs us → sp vs us s H Q E → s.toks ≤ s1.toks →
      Inv (cxOf CX P w K mg base N qual scope f cdv A outer s H E) [] (start N vs) H s1 →
      (∀ i y u, ps[i]? = some y → us[i]? = some u → scope.names.lookup y = some .local → Has (cxOf CX P w K mg base N qual scope f cdv A outer s H E) i (· = u) s1) →
      wpAny (model P w) (cxOf CX P w K mg base N qual scope f cdv A outer s H E).A (execs body (cxOf CX P w K mg base N qual scope f cdv A outer s H E).env) (BW (cxOf CX P w K mg base N qual scope f cdv A outer s H E) Q) (cxOf CX P w K mg base N qual scope f cdv A outer s H E).xe s1) :
    FnW P w K mg base CX (k + 1) f fd ps sp := by
  obtain ⟨oc, od, dV, kV, doc, pm, an, cdv, ct, osl, rfl, lk, hcd, _, _⟩ := F.ex
  constructor
  · exact len
  intro A outer s H args us vs Q E hr e0 hb r hsp
  have hl := len _ _ _ _ _ _ hsp
  have hu : us.length = ps.length := by rw [← r.length]; exact hl
  have KX : K.In s.heap := e0.mod.kin.keeps fun b o e => (e0.bs b o e).1
  have lim : s.heap.NoLimit := e0.mod.nolimit.keeps fun b o e => (e0.bs b o e).1
  have hkd : ∀ y ∈ ps.zip us, scope.names.lookup y.1 = some .local ∨ (scope.names.lookup y.1 = some .cell ∧ ((cellsFrom (s.heap.objs.size + 1) scope.names []).lookup y.1).isSome = true) := by
    rintro ⟨n, v⟩ hy
    obtain q | q := S.par n (List.of_mem_zip hy).1
    · exact .inl q
    · exact .inr ⟨q, PySem.W.cellsFrom_some _ _ _ (.inl q)⟩
  refine codeAny_with_toks (Nat.le_refl _) ?_
  refine codeAny_call_function hr.depth (KX _ _ lk) rfl S.co S.gen rfl (PySem.W.codeRec_of KX hcd) (hb _ _ _ _ ?_)
  refine wpAny_with_toks (n := s.toks) (Nat.le_refl _) ?_
  refine wpAny_newFunctionEnv_cells S.kind hkd ?_
  rintro env rfl s1 x ht
  refine ⟨lim.keeps x.toInCall.keep, codeAny_func ?_⟩
  have I : Inv (cxOf CX P w K mg base N qual scope f cdv A outer s H E) [] (start N vs) H s1 := inv_start S hr.hd e0 hl r x
  have pnd : ps.Nodup := by
    have h1 := S.nd
    rw [← S.pre]
    exact h1.sublist (List.take_sublist _ _)
  have hh : ∀ i y u, ps[i]? = some y → us[i]? = some u → scope.names.lookup y = some .local → Has (cxOf CX P w K mg base N qual scope f cdv A outer s H E) i (· = u) s1 := by
    intro i y u h1 h2 h3
    have hil := (List.getElem?_eq_some_iff.mp h1).1
    refine ⟨_, y, u, x.toInCall.ns, ?_, h3, ?_, rfl⟩
    · have h4 : (N.take ps.length)[i]? = some y := by rw [S.pre]; exact h1
      rw [List.getElem?_take] at h4
      rw [if_pos hil] at h4
      exact h4
    · exact bindL_get (i := i) pnd h1 h2 h3
  refine wpAny_mono (hbody cdv A outer s H vs us Q E s1 (hr.deeper _) r hsp ht I hh) ?_ (fun e s' h => wpAny_mono h (fun _ _ z _ => z) fun _ _ z _ => z)
  rintro (_ | _ | _ | u) s' h hts
  · obtain ⟨σ', H', J, q⟩ := h
    exact ⟨H', J.os, J.bare, J.base, J.hok, hts, q⟩
  · exact h.elim
  · exact h.elim
  · obtain ⟨σ', H', J, q⟩ := h
    exact ⟨H', J.os, J.bare, J.base, J.hok, hts, q⟩
end
section
variable {X : Cx} {pins : List (Addr × Obj)} {σ : L2.St} {H : Hp} {s s1 : Shared} {u : Value} {Q : WK}
theorem afterW (I : Inv X pins σ H s) (h : CEW X.stack X.prog X.w H s Q u s1) : LK X s s1 ∧ ∃ H', Inv X pins σ H' s1 ∧ Q u s1 H' := by
  obtain ⟨H', os, bare, un, hok, ht, q⟩ := h
  have J := I.call' (ch := []) os un hok bare (fun b z => absurd z (by simp))
  refine ⟨⟨ht, fun m hm => ?_⟩, H', J, q⟩
  obtain ⟨o, es, ep, ho, r⟩ := hm
  obtain ⟨sl, e⟩ := un.any ho I.free (by simp)
  exact ⟨_, es, ep, e, r⟩
/-- a call of such a def, its arguments there -/
theorem callW {CX : CXT} {k : Nat} {f : Addr} {fd : FuncData} {ps : List Str} {sp : SpW} {us : List Value} {vs : List V} {E : XK} {QQ : Value → Shared → Prop} (F : FnW X.prog X.w X.K X.mg X.base CX k f fd ps sp) (hr : Room k X.A) (hb : Binds X.K fd ps []) (hx : PassesAt CX X σ E)
    (I : Inv X pins σ H s) (r : Vals vs us) (h : sp vs us s H Q E) (q : ∀ u s1 H1, LK X s s1 → Inv X pins σ H1 s1 → Q u s1 H1 → QQ u s1) : wpAny (model X.prog X.w) X.A (call (.ref f) us) QQ X.xe s := by
  have hl : us.length = ps.length := by rw [← r.length]; exact F.len _ _ _ _ _ _ h
  have b := hb s us I.kIn (by rw [List.append_nil]; exact hl)
  rw [List.append_nil] at b
  refine wpAny_call (codeAny_mono (F.go X.A X.stack s H ⟨us, []⟩ us vs Q E hr I.env0 b r h) ?_)
  rintro (e | (_ | _ | _ | u)) s1 hq
  · exact hx pins H s e s1 I hq
  · exact hq.elim
  · exact hq.elim
  · exact hq.elim
  · obtain ⟨k, H1, I1, q1⟩ := afterW I hq
    exact q u s1 H1 k I1 q1
/-- a call of a plain def: the frame is kept -/
theorem call_keep {CX : CXT} {k : Nat} {f : Addr} {fd : FuncData} {ps : List Str} {sp : Sp} {us : List Value} {vs : List V} {E : XK} {Q : VK} (F : FnOk X.prog X.w X.K X.mg X.base CX k f fd ps sp) (hr : Room k X.A) (hb : Binds X.K fd ps []) (hx : PassesAt CX X σ E)
    (I : Inv X pins σ H s) (r : Vals vs us) (h : sp vs H Q E) : wpAny (model X.prog X.w) X.A (call (.ref f) us) (fun u s1 => LK X s s1 ∧ EP X pins σ Q u s1) X.xe s := by
  have hl : us.length = ps.length := by rw [← r.length]; exact F.len _ _ _ _ h
  have b := hb s us I.kIn (by rw [List.append_nil]; exact hl)
  rw [List.append_nil] at b
  refine wpAny_call (codeAny_with_toks (Nat.le_refl _) (codeAny_mono (F.run X.A X.stack s H ⟨us, []⟩ us vs Q E hr I.env0 b r h) ?_))
  rintro (e | (_ | _ | _ | u)) s1 hq ht
  · exact hx pins H s e s1 I hq
  · exact hq.elim
  · exact hq.elim
  · exact hq.elim
  · have q := I.after hq
    obtain ⟨v, H', os, bare, un, hok, r, q1⟩ := hq
    refine ⟨⟨ht, fun m hm => ?_⟩, q⟩
    obtain ⟨o, es, ep, ho, r⟩ := hm
    obtain ⟨sl, e⟩ := un.any ho I.free (by simp)
    exact ⟨_, es, ep, e, r⟩
/-- one statement ahead, by its reading; it never returns -/
theorem seqW {st : Stmt} {rest : List Stmt} {t : TS} {N : L2.St → Hp → Prop} {QQ : Flow → Shared → Prop} (h : PS X st t) (I : Inv X pins σ H s) (q : t { nx := N, rt := fun _ _ => False } σ H)
    (k : ∀ s1 σ1 H1, s.toks ≤ s1.toks → Inv X pins σ1 H1 s1 → N σ1 H1 → wpAny (model X.prog X.w) X.A (execs rest X.env) QQ X.xe s1) : wpAny (model X.prog X.w) X.A (execs (st :: rest) X.env) QQ X.xe s := by
  refine wpAny_execs_cons (wpAny_with_toks (n := s.toks) (Nat.le_refl _) (wpAny_mono (h.run pins s σ H _ I q) ?_ fun _ _ z _ => z))
  rintro (_ | _ | _ | v) s1 q1 ht
  · obtain ⟨σ1, H1, I1, q1⟩ := q1
    exact k s1 σ1 H1 ht I1 q1
  · obtain ⟨_, _, _, z⟩ := q1
    exact z.elim
  · obtain ⟨_, _, _, z⟩ := q1
    exact z.elim
  · obtain ⟨_, _, _, _, _, z⟩ := q1
    exact z.elim
end
/-- an expression whose text is new -/
structure PEY (X : Cx) (n : Nat) (e : Expr) (t : TE) : Prop where
  go : ∀ (pins : List (Addr × Obj)) (s : Shared) (σ : L2.St) (H : Hp) (Q : VK), n ≤ s.toks → Inv X pins σ H s → t σ H Q →
    wpAny (model X.prog X.w) X.A (eval e X.env) (fun u s1 => n ≤ s1.toks ∧ Yng n s1.toks u ∧ EP X pins σ Q u s1) X.xe s
section
variable {X : Cx} {n : Nat} {pins : List (Addr × Obj)} {σ : L2.St} {H : Hp} {s s1 : Shared} {e a b : Expr} {te ta tb : TE} {pos : Pos}
theorem has_rel {i : Nat} {x : Str} {v : V} {φ : Value → Prop} (I : Inv X pins σ H s) (hσ : σ[i]? = some (some v)) (hx : X.N[i]? = some x) (hv : Vis X.env.scope x) (h : Has X i φ s) : ∃ m u, s.heap.Ns X.env.locals m ∧ m x = some u ∧ φ u ∧ RelV v u ∧ X.env.kindOf x = some .local := by
  obtain ⟨m, y, u, h1, h2, h3, h4, h5⟩ := h
  rw [hx] at h2; cases h2
  obtain ⟨m0, n0, hl⟩ := I.loc
  obtain ⟨u', r', q⟩ := hl i x v hx hσ hv
  refine ⟨m, u, h1, h4, h5, ?_, h3⟩
  obtain ⟨_, e⟩ | ⟨k, _⟩ := q
  · rw [← ns_same h1 n0 x, h4] at e
    cases e
    exact r'
  · rw [h3] at k
    obtain k | k := k <;> cases k
theorem pey_str {x j} : PEY X n (.Constant (.str x) j pos) (tC (.str x)) := by
  constructor
  intro pins s σ H Q hn I h
  exact Calls.Constant_str ⟨Nat.le_succ_of_le hn, ⟨x, s.toks, rfl, hn, Nat.lt_succ_self _⟩, .str x, H, I.tok _, ⟨_, rfl⟩, h⟩
theorem pey_ixS (ha : PE X a ta) (hb : PE X b tb) (hs : PlainIx b) : PEY X n (.Subscript a b pos) (tOp rIxS ta tb) := by
  constructor
  intro pins s σ H Q hn I h
  refine Subscript_ (wpAny_with_toks hn (wpAny_mono (ha.run pins s σ H _ I h) ?_ fun _ _ z _ => z))
  rintro v s1 ⟨x, H1, I1, r1, q1⟩ hn1
  refine wpAny_with_toks hn1 (wpAny_mono (hb.run pins s1 σ H1 _ I1 q1) ?_ fun _ _ z _ => z)
  rintro u s2 ⟨y, H2, I2, r2, z, i, c, rfl, rfl, hz, he, q⟩ hn2
  obtain ⟨t, rfl⟩ := r1
  obtain ⟨t', rfl⟩ := r2
  obtain ⟨j, h1, h2, h3, h4, h5⟩ := atI_get he
  have hl : z.cps.toList.length = z.length := by simp [Str.length]
  rw [hl] at h1 h4 h5
  have h63 := line63
  have e1 : decide (i < -(2 ^ 63 : Int)) = false := decide_eq_false (by omega)
  have e2 : decide (i ≥ 2 ^ 63) = false := decide_eq_false (by omega)
  refine tail_any (typeIs_str s2 z t) slot_str_getitem.lookup (getItem_str (c := c) (by rw [e1, e2, Bool.or_false]) (by rw [h1]; simpa using h2) ?_) (hs _ _)
  exact ⟨Nat.le_succ_of_le hn2, ⟨_, _, rfl, hn2, Nat.lt_succ_self _⟩, .str ⟨#[c]⟩, H2, I2.tok _, ⟨_, rfl⟩, q⟩
/-- text += e -/
theorem psr_augY {i : Nat} {x : Str} {pos' : Pos} (nd : X.N.Nodup) (hi : X.N[i]? = some x) (hv : Vis X.env.scope x) (he : PEY X n e te) :
    PSR X (fun s => n ≤ s.toks ∧ Has X i (Yng n s.toks) s) (.AugAssign (.Name x pos') .Add e pos) (tAug i te fun x y H Q => ∃ a b, x = .str a ∧ y = .str b ∧ a.length + b.length ≤ sizeLine ∧ Q (.str (a ++ b)) H) := by
  constructor
  rintro pins s σ H D I ⟨hn, hh⟩ ⟨x0, hσ, h⟩
  obtain ⟨m, u0, h1, h2, h3, h4, hk⟩ := has_rel I hσ hi hv hh
  refine wpAny_AugAssign_Name (wpAny_loadName_local I.ok.kind hk h1 h2 ?_)
  refine wpAny_mono (wpAny_toks (he.go pins s σ H _ hn I h)) ?_ fun _ _ z => z.2
  rintro w s1 ⟨hs1, hn1, ⟨zw, tw, rfl, htw, htw2⟩, y, H1, I1, r1, a, b, rfl, rfl, hz, q⟩
  obtain ⟨tb, e1⟩ := r1
  injection e1 with e1 e2
  subst e1; subst e2
  obtain ⟨ta, rfl⟩ := h4
  obtain ⟨_, t0, e3, ht0, ht02⟩ := h3
  injection e3 with e3 e4
  subst e3; subst e4
  have fin : ∀ (t k : Nat), n ≤ t → t < k → s1.toks ≤ k → wpAny (model X.prog X.w) X.A (storeName X.env x (.str (a ++ zw) t)) (fun _ s3 => (n ≤ s3.toks ∧ Has X i (Yng n s3.toks) s3) ∧ SP X pins D .next s3) X.xe { s1 with toks := k } := by
    intro t k ht htk hk1
    refine put_raw (v := .str (a ++ zw)) (I1.tok k) nd hi hk ⟨t, rfl⟩ ?_
    intro s3 I3 hk3 hs3 _
    have hk3 : k ≤ s3.toks := Nat.le_of_lt hk3
    exact ⟨⟨by omega, hs3.imp fun u e => ⟨_, t, e, ht, by omega⟩⟩, _, H1, I3, q⟩
  refine PySem.P.iadd_str ?_
  by_cases c1 : (a.length == 0) = true
  · rw [if_pos c1]
    have h5 := fin tw s1.toks htw htw2 (Nat.le_refl _)
    rw [Str.append_left_empty c1] at h5
    exact h5
  · rw [if_neg c1]
    by_cases c2 : (zw.length == 0) = true
    · rw [if_pos c2]
      have h5 := fin ta s1.toks ht0 (by omega) (Nat.le_refl _)
      rw [Str.append_right_empty c2] at h5
      exact h5
    · rw [if_neg c2]
      refine ⟨?_, fin s1.toks (s1.toks + 1) hn1 (Nat.lt_succ_self _) (Nat.le_succ _)⟩
      rw [show (a ++ zw).length = a.length + zw.length from by first | exact Str.length_append _ _ | simp [Str.length]]
      exact hz
/-- number += e, another name -/
theorem psr_augI {i j : Nat} {x : Str} {pos' : Pos} {φ : Nat → Value → Prop} (nd : X.N.Nodup) (hi : X.N[i]? = some x) (hl : X.env.scope.names.lookup x = some .local) (hj : j ≠ i) (up : ∀ m m' u, φ m u → m ≤ m' → φ m' u) (he : PK X e te) :
    PSR X (fun s => n ≤ s.toks ∧ Has X j (φ s.toks) s) (.AugAssign (.Name x pos') .Add e pos) (tAug i te (rI0 fun i j => .int (i + j))) := by
  constructor
  rintro pins s σ H D I ⟨hn, hh⟩ ⟨x0, hσ, h⟩
  obtain ⟨m, h1, h2⟩ := I.loc
  obtain ⟨u, r, l⟩ := h2 i x x0 hi hσ (.inl hl)
  have hk : X.env.kindOf x = some .local := by
    obtain ⟨_, _, _, _, _, h3, _⟩ := hh
    unfold Env.kindOf at *
    exact hl
  obtain ⟨_, hm⟩ | ⟨k, _⟩ := l
  · refine wpAny_AugAssign_Name (wpAny_loadName_local I.ok.kind hk h1 hm ?_)
    refine thn (he.go pins s σ H _ I h) ?_
    rintro w s1 ⟨k1, y, H1, I1, r1, q1⟩
    refine thn (okr_iadd pins s1 σ H1 x0 y u w _ I1 r r1 q1) ?_
    rintro z s2 ⟨k2, zv, H2, I2, r2, q2⟩
    refine put_raw I2 nd hi hk r2 ?_
    intro s3 I3 hk3 _ hs3
    have h5 := (k1.trans k2).1
    exact ⟨⟨by omega, (hs3 j _ hj (hh.keep (k1.trans k2))).imp fun u z => up _ _ u z (by omega)⟩, _, H2, I3, q2⟩
  · rw [hk] at k
    obtain k | k := k <;> cases k
end
theorem noxW {X : Cx} {Q : WK} {body : List Stmt} {s : Shared} (h : wpAny (model X.prog X.w) X.A (execs body X.env) (BW X.nox Q) X.nox.xe s) : wpAny (model X.prog X.w) X.A (execs body X.env) (BW X Q) X.xe s := by
  refine wpAny_mono h ?_ fun _ _ z => z.elim
  rintro (_ | _ | _ | u) s' q
  · obtain ⟨σ', H', I, q⟩ := q
    exact ⟨σ', H', I.unwish, q⟩
  · exact q
  · exact q
  · obtain ⟨σ', H', I, q⟩ := q
    exact ⟨σ', H', I.unwish, q⟩
theorem seqR {X : Cx} {R : Shared → Prop} {pins : List (Addr × Obj)} {σ : L2.St} {H : Hp} {s : Shared} {st : Stmt} {rest : List Stmt} {t : TS} {N : L2.St → Hp → Prop} {QQ : Flow → Shared → Prop} (I : Inv X pins σ H s) (hr : R s) (h : PSR X R st t) (q : t { nx := N, rt := fun _ _ => False } σ H)
    (k : ∀ s1 σ1 H1, R s1 → Inv X pins σ1 H1 s1 → N σ1 H1 → wpAny (model X.prog X.w) X.A (execs rest X.env) QQ X.xe s1) : wpAny (model X.prog X.w) X.A (execs (st :: rest) X.env) QQ X.xe s := by
  refine wpAny_execs_cons (thn (h.go pins s σ H _ I hr q) ?_)
  rintro (_ | _ | _ | v) s1 ⟨hr1, q1⟩
  · obtain ⟨σ1, H1, I1, q1⟩ := q1
    exact k s1 σ1 H1 hr1 I1 q1
  · obtain ⟨_, _, _, z⟩ := q1
    exact z.elim
  · obtain ⟨_, _, _, z⟩ := q1
    exact z.elim
  · obtain ⟨_, _, _, _, _, z⟩ := q1
    exact z.elim
/-- the last statement returns what stands in a slot -/
theorem retHas {X : Cx} {σ : L2.St} {H : Hp} {s : Shared} {i : Nat} {x : Str} {p pos : Pos} {φ : Value → Prop} {Q : WK} (I : Inv X [] σ H s) (h : Has X i φ s) (hx : X.N[i]? = some x) (hv : Vis X.env.scope x) {v : V} (hσ : σ[i]? = some (some v)) (q : ∀ u, φ u → RelV v u → Q u s H)
    (hd : (x == ("__debug__" : Str)) = false := by decide) : wpAny (model X.prog X.w) X.A (execs [.Return (some (.Name x p)) pos] X.env) (BW X Q) X.xe s := by
  obtain ⟨m, u, h1, h2, h3, h4, hk⟩ := has_rel I hσ hx hv h
  refine wpAny_execs_cons (wpAny_Return_some (wpAny_Name (wpAny_loadName_local I.ok.kind hk h1 h2 ?_) hd))
  exact ⟨σ, H, I, q u h3 h4⟩
/-- while c: body, then the rest -/
theorem whileW {X : Cx} {c : Expr} {body rest : List Stmt} {tc : TT} {Q : WK} {pos : Pos} {σ : L2.St} {H : Hp} {s : Shared} (I : Inv X [] σ H s) (hp : PassesOwn (model X.prog X.w) X.A X.env X.xe) (hc : PT X c tc) (W : Nat → Nat → L2.St → Hp → Prop) (w0 : ∃ m, W m s.toks σ H)
    (turn : ∀ m n σ H, W m n σ H → tc σ H fun b H1 => if b = true then
      (∀ s1, n ≤ s1.toks → Inv X [] σ H1 s1 → wpAny (model X.prog X.w) X.A (execs body X.env) (fun f s2 => match f with
        | .next => ∃ m' σ2 H2, m' < m ∧ Inv X [] σ2 H2 s2 ∧ W m' s2.toks σ2 H2
        | .ret u => BW X Q (.ret u) s2
        | _ => False) X.xe s1)
      else ∀ s1, n ≤ s1.toks → Inv X [] σ H1 s1 → wpAny (model X.prog X.w) X.A (execs rest X.env) (BW X Q) X.xe s1) :
    wpAny (model X.prog X.w) X.A (execs (.While c body [] pos :: rest) X.env) (BW X Q) X.xe s := by
  obtain ⟨m0, w0⟩ := w0
  refine wpAny_execs_cons (wpAny_While (codeAny_whileLoop (fun n s' => ∃ σ' H', Inv X [] σ' H' s' ∧ W n s'.toks σ' H') ?_ m0 ⟨σ, H, I, w0⟩))
  rintro n s1 ⟨σ1, H1, I1, w1⟩
  refine wpAny_passesOwn hp (wpAny_mono (wpAny_toks (hc.run [] s1 σ1 H1 _ I1 (turn n _ σ1 H1 w1))) ?_ fun _ _ z => z.2)
  rintro (_ | _) s2 ⟨k2, H2, I2, q2⟩
  · rw [if_neg Bool.false_ne_true] at q2 ⊢
    exact wpAny_execs_nil (q2 s2 k2 I2)
  · rw [if_pos rfl] at q2 ⊢
    refine wpAny_passesOwn hp (thn (q2 s2 k2 I2) ?_)
    rintro (_ | _ | _ | v) s3 q3
    · obtain ⟨m', σ3, H3, hm, I3, w3⟩ := q3
      exact ⟨m', hm, σ3, H3, I3, w3⟩
    · exact q3.elim
    · exact q3.elim
    · exact q3
end Ls
set_option Elab.async false
set_option linter.all false
set_option maxRecDepth 100000
set_option maxHeartbeats 4000000
/-! a list comprehension whose items are told exactly -/
namespace Ls
open PySem PySem.Spec PyProof.Rows L2
/-- a walk told exactly: at it the iterator, n items; P i u k k': the item i is u, made when k tokens were out -/
structure RWk (prog : Program) (w : World) (A : Around) (it : Addr) (n : Nat) (St : Nat → Heap → Prop) (Src : Heap → Prop) (P : Nat → Value → Tok → Tok → Prop) : Prop where
  obj : ∀ i h, St i h → ∃ o, h.get? it = some o ∧ ∀ v, o.data ≠ .cell v
  keep : ∀ i h h', St i h → (∀ o, h.get? it = some o → h'.get? it = some o) → St i h'
  item : ∀ i (s : Shared) (Q : Option Value → Shared → Prop) (E : Value → Shared → Prop), i < n → St i s.heap → Src s.heap →
    (∀ u h' tk, P i u s.toks tk → s.toks ≤ tk → St (i + 1) h' → (∀ b o, b ≠ it → s.heap.get? b = some o → h'.get? b = some o) → Q (some u) { s with heap := h', toks := tk }) → wpAny (model prog w) A (pyNext (.ref it)) Q E s
  done : ∀ (s : Shared) (Q : Option Value → Shared → Prop) (E : Value → Shared → Prop), St n s.heap → Src s.heap →
    (∀ h' tk, s.toks ≤ tk → (∀ b o, b ≠ it → s.heap.get? b = some o → h'.get? b = some o) → Q none { s with heap := h', toks := tk }) → wpAny (model prog w) A (pyNext (.ref it)) Q E s
  self : ∀ i (s : Shared) (Q : Value → Shared → Prop) (E : Value → Shared → Prop), St i s.heap → Q (.ref it) s → wpAny (model prog w) A (pyIter (.ref it)) Q E s
theorem rw_list {prog : Program} {w : World} {A : Around} {it L : Addr} {its : Array Value} (hh : A.handled = none) (ne : L ≠ it) : RWk prog w A it its.size (fun i h => h.IsListIter it L i) (fun h => h.IsList L its) (fun i u _ _ => its[i]? = some u) := by
  constructor
  · rintro i h ⟨o, e, _, d⟩
    exact ⟨o, e, fun v z => by rw [d] at z; cases z⟩
  · rintro i h h' ⟨o, e, r⟩ k
    exact ⟨o, k o e, r⟩
  · intro i s Q E hi st sr q
    refine wpAny_pyNext_list_item st sr (x := its[i]) (by simp [hi]) fun h' hit' sb => ?_
    exact q _ h' s.toks (by simp [hi]) (Nat.le_refl _) hit' fun b o hb e => (sb.2 b hb).trans e
  · intro s Q E st sr q
    exact wpAny_pyNext_list_end hh st sr (by simp) fun h' he => q h' s.toks (Nat.le_refl _) fun b o hb e => he b o hb e
  · intro i s Q E st q
    exact wpAny_pyIter_listiter st q
theorem rw_str {prog : Program} {w : World} {A : Around} {it : Addr} {x : Str} {t : Tok} (hh : A.handled = none) : RWk prog w A it x.cps.size (fun i h => h.IsStrIter it "str_ascii_iterator" x t i) (fun _ => True) (fun i u k k' => ∃ c, x.cps[i]? = some c ∧ u = .str ⟨#[c]⟩ k ∧ k' = k + 1) := by
  constructor
  · rintro i h ⟨o, e, _, d⟩
    exact ⟨o, e, fun v z => by rw [d] at z; cases z⟩
  · rintro i h h' ⟨o, e, r⟩ k
    exact ⟨o, k o e, r⟩
  · intro i s Q E hi st sr q
    refine wpAny_pyNext_ascii_item st (c := x.cps[i]) (by simp [hi]) fun h' hit' sb => ?_
    exact q _ h' (s.toks + 1) ⟨_, by simp [hi], rfl, rfl⟩ (Nat.le_succ _) hit' fun b o hb e => (sb.2 b hb).trans e
  · intro s Q E st sr q
    exact wpAny_pyNext_ascii_end hh st (by simp) fun h' he => q h' s.toks (Nat.le_refl _) fun b o hb e => he b o hb e
  · intro i s Q E st q
    exact PySem.wpAny_pyIter_striter_ascii st q
/-- the frame's names and its cells are kept, tokens are only given out -/
def CK (X : Cx) (s s1 : Shared) : Prop := LK X s s1 ∧ ∀ x c, X.env.cells.lookup x = some c → ∀ v, s.heap.IsCell c v → s1.heap.IsCell c v
theorem CK.refl {X : Cx} {s : Shared} : CK X s s := ⟨LK.refl, fun _ _ _ _ h => h⟩
theorem CK.trans {X : Cx} {s s1 s2 : Shared} (a : CK X s s1) (b : CK X s1 s2) : CK X s s2 := ⟨a.1.trans b.1, fun x c e v h => b.2 x c e v (a.2 x c e v h)⟩
theorem CK.tok {X : Cx} {s : Shared} {t : Nat} (h : s.toks ≤ t) : CK X s { s with toks := t } := ⟨LK.tok h, fun _ _ _ _ q => q⟩
/-- by objects -/
theorem CK.of {X : Cx} {s s1 : Shared} (ht : s.toks ≤ s1.toks) (hl : ∀ o, s.heap.get? X.env.locals = some o → ∃ sl, s1.heap.get? X.env.locals = some { o with slots := sl }) (hx : ∀ x c, X.env.cells.lookup x = some c → ∀ o, s.heap.get? c = some o → ∃ sl, s1.heap.get? c = some { o with slots := sl }) : CK X s s1 := by
  refine ⟨⟨ht, fun m hm => ?_⟩, fun x c e v hv => ?_⟩
  · obtain ⟨o, es, ep, ho, r⟩ := hm
    obtain ⟨sl, e⟩ := hl o ho
    exact ⟨_, es, ep, e, r⟩
  · obtain ⟨o, ho, hd⟩ := hv
    obtain ⟨sl, e1⟩ := hx x c e o ho
    exact ⟨_, e1, hd⟩
theorem CK.kept {X : Cx} {s s1 : Shared} (ht : s.toks ≤ s1.toks) (k : ∀ b o, s.heap.get? b = some o → s1.heap.get? b = some o) : CK X s s1 :=
  CK.of ht (fun o e => ⟨o.slots, k _ _ e⟩) fun _ _ _ o e => ⟨o.slots, k _ _ e⟩
theorem CK.un {X : Cx} {pins : List (Addr × Obj)} {σ : L2.St} {H H' : Hp} {s s1 : Shared} {fs ex : List Addr} (I : Inv X pins σ H s) (ht : s.toks ≤ s1.toks) (u : Un fs ex H H' s.heap s1.heap) (hl : X.env.locals ∉ ex) (hx : ∀ x c, X.env.cells.lookup x = some c → c ∉ ex) : CK X s s1 :=
  CK.of ht (fun o e => u.any e I.free hl) fun x c e o ho => u.any ho (I.freeC x c e) (hx x c e)
theorem CK.but {X : Cx} {pins : List (Addr × Obj)} {H : Hp} {s s1 : Shared} {b : Addr} (f : FpOk X pins H b) (ht : s.toks ≤ s1.toks) (k : ∀ a o, a ≠ b → s.heap.get? a = some o → s1.heap.get? a = some o) : CK X s s1 :=
  CK.of ht (fun o e => ⟨o.slots, k _ _ (Ne.symm f.2.1) e⟩) fun x c e o ho => ⟨o.slots, k _ _ (f.2.2.2.2.1 x c e) ho⟩
/-- the cells that a block has from the def -/
theorem blk_cells {X : Cx} {scope : Scope} {N : List Str} {own : List (Str × Nat)} {n : Nat} (ok : BlkOk N X.env.scope scope own) (hx : X.Ok) {z : Str} {c : Addr} (hz : scope.names.lookup z = some .free) (hc : X.env.cells.lookup z = some c) :
    (cellsFrom n scope.names (cloFrom X.env.cells scope.names [])).lookup z = some c := by
  have hf : ∀ y ∈ scope.names, y.2 = .free → ∃ c, X.env.cells.lookup y.1 = some c := fun y hy e => by
    rcases ok.free y hy e with k | k
    · exact hx.has _ (.inl k)
    · exact hx.has _ (.inr k)
  have hm : (z, NameKind.free) ∈ scope.names := PySem.mem_of_lookup hz
  have h1 := cloFrom_has (cells := X.env.cells) (acc := []) hm
  obtain ⟨c', h2⟩ := mem_lookup (cells_acc (names := scope.names) (n := n) h1)
  have key : ∀ (ns : List (Str × NameKind)) (k : Nat) (acc : List (Str × Addr)) (p : Str × Addr), p ∈ cellsFrom k ns acc → p ∈ acc ∨ (p.1, NameKind.cell) ∈ ns := by
    intro ns
    induction ns with
    | nil => intro k acc p h; exact .inl h
    | cons a r ih =>
      intro k acc p h
      obtain ⟨m, kd⟩ := a
      unfold cellsFrom at h
      split at h
      · rename_i hk
        have hk : kd = .cell := by simpa using hk
        rcases ih _ _ _ h with h | h
        · rcases List.mem_cons.mp h with e | h
          · rw [e, hk]
            exact .inr (List.mem_cons_self ..)
          · exact .inl h
        · exact .inr (List.mem_cons_of_mem _ h)
      · rcases ih _ _ _ h with h | h
        · exact .inl h
        · exact .inr (List.mem_cons_of_mem _ h)
  rcases key _ _ _ _ (PySem.mem_of_lookup h2) with h | h
  · rw [h2]
    rcases cloFrom_mem h with h | ⟨_, e⟩
    · cases h
    · rw [e, hc]
      rfl
  · have q := ok.uniq _ h
    have q : scope.names.lookup z = some .cell := q
    rw [hz] at q
    cases q
section
variable {X : Cx} {pins : List (Addr × Obj)} {σ : L2.St} {H : Hp} {s : Shared} {a : Addr} {xs : List V}
/-- an object told otherwise -/
theorem iv_turn {o o' : HO} (I : Inv X pins σ H s) (e : H a = some o) (h1 : ∀ xs, o ≠ .tup xs) (h2 : ∀ ob u, o ≠ .frz ob u) (h3 : ∀ ps, o ≠ .tbl ps) (h4 : ∀ x, o ≠ .own x) (ok : ObjOk X.prog X.w (upd H a o') s.heap a o') : Inv X pins σ (upd H a o') s := by
  have oth : ∀ b u, H b = some u → u ≠ o → upd H a o' b = some u := by
    intro b u hb n
    rw [upd_ne]
    · exact hb
    · intro z
      rw [z, e] at hb
      exact n (Option.some.inj hb).symm
  refine Inv.step (h' := s.heap) (g' := s.gens) (t' := s.toks) (d' := s.drawn) (ch := []) I (fun b hb => (nomatch (show b ∈ ([] : List Addr) from hb))) (fun b o _ _ _ q _ => q) (fun b o _ _ _ q _ => ⟨o.slots, q⟩) ?_ (fun b o _ q => ⟨o, q⟩) (fun b xs q => oth b _ q (fun z => h1 xs z.symm)) (fun b ob u q => oth b _ q (fun z => h2 ob u z.symm)) (fun b ps q => ⟨#[], by rw [Array.append_empty]; exact oth b _ q (fun z => h3 ps z.symm)⟩) (fun m q => q) ?_ I.bare
  · intro b o _ _ n
    rw [upd_ne]
    · exact n
    · intro z
      rw [z, e] at n
      cases n
  · intro b u q
    by_cases z : b = a
    · rw [z, upd_same] at q
      cases q
      rw [z]
      exact ok
    · rw [upd_ne z] at q
      exact (I.hok b u q).stay (fun d v _ q => q) (fun d q => oth d _ q (fun z => h4 _ z.symm)) fun d xs q => oth d _ q (fun z => h1 xs z.symm)
/-- a list told exactly from now on -/
theorem iv_freeze {its : List Value} {n : Nat} (I : Inv X pins σ H s) (e : H a = some (.lst xs)) (g : s.heap.get? a = some { cls := .type "list", data := .seq its.toArray n }) (r : Vals xs its) : Inv X pins σ (upd H a (.frz { cls := .type "list", data := .seq its.toArray n } (.lst xs))) s := by
  refine iv_turn I e (fun _ z => by cases z) (fun _ _ z => by cases z) (fun _ z => by cases z) (fun _ z => by cases z) ?_
  have q : ObjOk X.prog X.w H s.heap a (.lst xs) := I.hok a _ e
  exact ⟨g, q.1, its, n, r, g⟩
/-- an item appended to a list whose items are told -/
theorem app_raw {its : List Value} {n : Nat} {y : V} {v : Value} {Q E : Value → Shared → Prop} (I : Inv X pins σ H s) (hD : H a = some (.lst xs)) (g : s.heap.get? a = some { cls := .type "list", data := .seq its.toArray n }) (rs : Vals xs its) (r : RelV y v) (hz : xs.length < sizeLine)
    (h : ∀ s', s'.toks = s.toks → Inv X pins σ (upd H a (.lst (xs ++ [y]))) s' → s'.heap.get? a = some { cls := .type "list", data := .seq (its ++ [v]).toArray (n + 1) } → Q .none s') : wpAny (model X.prog X.w) X.A (call (.builtin "list.append") [.ref a, v]) Q E s := by
  have hl := rs.length
  refine append_at (hsz := by rw [List.size_toArray]; omega) g fun h' sb ho' => ?_
  have e : its.toArray.push v = (its ++ [v]).toArray := by simp
  rw [e] at ho'
  exact h { s with heap := h' } rfl (I.write (t' := s.toks) (by rw [hD]; trivial) (.inl rfl) (fun b u hb q => (sb.2 b hb).trans q) ⟨_, ho'⟩ ⟨by rw [List.length_append]; exact hz, its ++ [v], n + 1, rs.append (.cons r .nil), ho'⟩) ho'
end
section
variable {X : Cx}
theorem put_rawS {M : Model} {A : Around} {E : Value → Shared → Prop} {pins : List (Addr × Obj)} {σ : L2.St} {H : Hp} {s : Shared} {i : Nat} {x : Str} {v : V} {u : Value} {Q : Unit → Shared → Prop} (I : Inv X pins σ H s) (nd : X.N.Nodup) (hi : X.N[i]? = some x) (hk : X.env.kindOf x = some .local) (r : RelV v u)
    (q : ∀ s1, Inv X pins (σ.set i (some v)) H s1 → s.toks ≤ s1.toks → Has X i (· = u) s1 → Heap.SameBut X.env.locals s.heap s1.heap → Q () s1) : wpAny M A (storeName X.env x u) Q E s := by
  obtain ⟨m, hn, _⟩ := id I.loc
  refine wpAny_storeName_local hk hn ?_ (by rw [I.ok.kind]; rfl)
  intro h' hn' hs
  exact q _ (Inv.put I nd hi hk r hn hn' hs) (Nat.le_succ _) ⟨_, x, u, hn', hi, hk, if_pos rfl, rfl⟩ hs
theorem lc_raw {pins : List (Addr × Obj)} {s : Shared} {σ : L2.St} {H : Hp} {elt iter : Expr} {y : Str} {py pos : Pos} {ifs : List Expr} {scope : Scope} {iy : Nat} {Qf : Value → Shared → Prop}
    (hc : X.calm = true) (hN : X.N.Nodup) (I : Inv X pins σ H s) (ok : BlkOk X.N X.env.scope scope [(y, iy)]) (hyl : scope.names.lookup y = some .local) (hs : ∀ x, foldedSetIterable iter X.env x = pure x)
    (hi : wpAny (model X.prog X.w) X.A (eval iter X.env) (fun xv s1 => wpAny (model X.prog X.w) X.A (pyIter xv) (fun itv s2 => ∃ (it : Addr) (n : Nat) (St : Nat → Heap → Prop) (Src : Heap → Prop) (P : Nat → Value → Tok → Tok → Prop) (H2 : Hp),
      itv = .ref it ∧ CK X s s2 ∧ Inv X pins σ H2 s2 ∧ RWk X.prog X.w X.A it n St Src P ∧ St 0 s2.heap ∧ FpOk X pins H2 it ∧ it < s2.heap.objs.size ∧ ∀ D, H2 D = none → ∃ J : Nat → Shared → Hp → Prop,
        (∀ s4 : Shared, s2.toks ≤ s4.toks → s4.heap.get? D = some { cls := .type "list", data := .seq #[] 0 } → J 0 s4 (upd H2 D (.lst []))) ∧
        (∀ i s' H', HOk X.prog X.w H' s'.heap → J i s' H' → Src s'.heap) ∧
        (∀ i s5 H5 u k1, i < n → HOk X.prog X.w H5 s5.heap → J i s5 H5 → P i u s5.toks k1 → s5.toks ≤ k1 → ∃ x, RelV x u ∧ ∀ s3 H3 C cl s9 pinsB, k1 ≤ s9.toks → (∀ b o, b ≠ it → b ≠ C → s5.heap.get? b = some o → s9.heap.get? b = some o) → H5 it = none → H5 C = none →
          (∀ z c, scope.names.lookup z = some .free → X.env.cells.lookup z = some c → cl.lookup z = some c) → (∀ z c, X.env.cells.lookup z = some c → ∀ v, s.heap.IsCell c v → s9.heap.IsCell c v) →
          Inv (X.blk s3 H3 scope (compEnvC scope cl C X.env) [it]) pinsB ((wipe σ [iy]).set iy (some x)) H5 s9 → Has (X.blk s3 H3 scope (compEnvC scope cl C X.env) [it]) iy (· = u) s9 →
            wpAny (model X.prog X.w) X.A (forIn ifs true fun c r => if r = true then do let ok ← isTrue c (compEnvC scope cl C X.env) (eval c (compEnvC scope cl C X.env)); pure (ForInStep.yield ok) else pure (ForInStep.yield r)) (fun ok s10 =>
              if ok = true then wpAny (model X.prog X.w) X.A (eval elt (compEnvC scope cl C X.env)) (fun v s11 => wpAny (model X.prog X.w) X.A (call (.builtin "list.append") [.ref D, v]) (fun _ s12 => ∃ H12, Inv (X.blk s3 H3 scope (compEnvC scope cl C X.env) [it]) pinsB ((wipe σ [iy]).set iy (some x)) H12 s12 ∧ J (i + 1) s12 H12) (fun _ _ => False) s11) (fun _ _ => False) s10
              else ∃ H10, Inv (X.blk s3 H3 scope (compEnvC scope cl C X.env) [it]) pinsB ((wipe σ [iy]).set iy (some x)) H10 s10 ∧ J (i + 1) s10 H10) (fun _ _ => False) s9) ∧
        (∀ C s5 H5 s7, J n s5 H5 → (∀ b o, b ≠ it → b ≠ C → s5.heap.get? b = some o → s7.heap.get? b = some o) → s5.toks ≤ s7.toks → H5 it = none → H5 C = none → Inv X pins σ H5 s7 → CK X s s7 → Qf (.ref D) s7)) X.xe s1) X.xe s) :
    wpAny (model X.prog X.w) X.A (eval (.ListComp elt [⟨.Name y py, iter, ifs, 0⟩] scope pos) X.env) Qf X.xe s := by
  have hfree : ∀ y ∈ scope.names, y.2 = .free → ∃ c, X.env.cells.lookup y.1 = some c := fun y hy e => by
    rcases ok.free y hy e with k | k
    · exact I.ok.has _ (.inl k)
    · exact I.ok.has _ (.inr k)
  rw [eval_ListComp]
  refine wpAny_comprehension_free rfl hs (closure_ok hfree) ok.kind (fun y hy e => by rw [ok.uniq y hy, e]) (thn hi fun xv s1 hx => thn hx fun itv s2 h2 => ?_)
  obtain ⟨it, n, St, Src, P, H2, rfl, ck2, I2, T, st2, f2, lt2, pk⟩ := h2
  refine wpAny_newObj_type (newEnv_comp ?_) (by show 0 ≤ sizeLine; decide)
  generalize hD : s2.heap.objs.size = D
  have nD : H2 D = none := I2.hok.fresh (Nat.le_of_eq hD)
  obtain ⟨J, j0, src, turn, fin⟩ := pk D nD
  generalize hs3 : ({ s2 with heap := s2.heap.push { cls := .type "list", data := .seq ([] : List Value).toArray } } : Shared) = s3
  have gD : s3.heap.get? D = some { cls := .type "list", data := .seq #[] 0 } := by
    rw [← hs3, ← hD]
    exact Heap.get?_push_size _ rfl
  have up23 : ∀ b o, s2.heap.get? b = some o → s3.heap.get? b = some o := fun b o e => by
    rw [← hs3]
    exact Heap.get?_push_of_some _ e
  have sz3 : s3.heap.objs.size = s2.heap.objs.size + 1 := by rw [← hs3]; exact Heap.size_push ..
  have I3 : Inv X pins σ (upd H2 D (.lst [])) s3 := by
    rw [← hs3]
    refine I2.laid (t' := s2.toks) (fun b o e => Heap.get?_push_of_some _ e) (Nat.le_of_eq hD) ⟨Nat.zero_le _, [], 0, .nil, ?_⟩
    rw [← hD]
    exact Heap.get?_push_size _ rfl
  have tk3 : s3.toks = s2.toks := by rw [← hs3]
  have ne_it : it ≠ D := by rw [← hD]; exact Nat.ne_of_lt lt2
  have f3 : ∀ b ∈ [it], FpOk X pins (upd H2 D (.lst [])) b ∧ b < s3.heap.objs.size := by
    intro b hb
    rw [List.mem_singleton.mp hb]
    exact ⟨⟨by rw [upd_ne ne_it]; exact f2.1, f2.2⟩, by rw [sz3]; exact Nat.lt_succ_of_lt lt2⟩
  have st3 : St 0 s3.heap := T.keep _ _ _ st2 fun o e => up23 _ _ e
  have I4 := block_start I3 ok hN f3
  show codeAny _ _ (.compStart (.ListComp elt [⟨.Name y py, iter, ifs, 0⟩] scope pos) 0 (.ref it) (.ref D) (compEnvC scope (cellsFrom (s3.heap.objs.size + 1) scope.names (cloFrom X.env.cells scope.names [])) s3.heap.objs.size X.env)) _ { s3 with heap := pushCells (s3.heap.push { cls := .type "dict", data := .dict #[] }) scope.names }
  have hcl : ∀ z c, scope.names.lookup z = some .free → X.env.cells.lookup z = some c → (cellsFrom (s3.heap.objs.size + 1) scope.names (cloFrom X.env.cells scope.names [])).lookup z = some c := fun z c h1 h2 => blk_cells ok I.ok h1 h2
  generalize cellsFrom (s3.heap.objs.size + 1) scope.names (cloFrom X.env.cells scope.names []) = cl at I4 hcl ⊢
  have up34 : ∀ b o, s3.heap.get? b = some o → (pushCells (s3.heap.push { cls := .type "dict", data := .dict #[] }) scope.names).get? b = some o := fun b o e => pushCells_keeps _ _ _ _ (Heap.get?_push_of_some _ e)
  have w0 := j0 { s3 with heap := pushCells (s3.heap.push { cls := .type "dict", data := .dict #[] }) scope.names } (Nat.le_of_eq tk3.symm) (up34 _ _ gD)
  have st4 : St 0 (pushCells (s3.heap.push { cls := .type "dict", data := .dict #[] }) scope.names) := T.keep _ _ _ st3 fun o e => up34 _ _ e
  have nit : (upd H2 D (.lst [])) it = none := (f3 it (List.mem_singleton.mpr rfl)).1.1
  generalize hH3 : upd H2 D (.lst []) = H3 at I3 I4 w0 nit f3
  generalize hs4 : ({ s3 with heap := pushCells (s3.heap.push { cls := .type "dict", data := .dict #[] }) scope.names } : Shared) = s4 at I4 w0 ⊢
  have st4 : St 0 s4.heap := by rw [← hs4]; exact st4
  have tk4 : s3.toks ≤ s4.toks := by rw [← hs4]; exact Nat.le_refl _
  generalize hC : s3.heap.objs.size = C at *
  have stat : ∀ {σ' : L2.St} {H' : Hp} {s' : Shared}, Inv (X.blk s3 H3 scope (compEnvC scope cl C X.env) [it]) [] σ' H' s' → H' it = none → ∀ b ∈ [it], FpOk (X.blk s3 H3 scope (compEnvC scope cl C X.env) [it]) [] H' b := by
    intro σ' H' s' I' hn b hb
    have e := List.mem_singleton.mp hb
    rw [e] at hb ⊢
    exact ⟨hn, (I'.ok.exf it hb).1, I'.ok.exfs it hb, .inl hb, fun x c e => (I'.ok.exf it hb).2 x c e, fun p hp => absurd (show p ∈ ([] : List (Addr × Obj)) ++ [] from hp) (by simp)⟩
  -- the def's names and cells, seen from the block
  have ck_blk : ∀ {pinsB : List (Addr × Obj)} {σ' : L2.St} {H' : Hp} {s' : Shared}, Inv (X.blk s3 H3 scope (compEnvC scope cl C X.env) [it]) pinsB σ' H' s' → s3.toks ≤ s'.toks → CK X s s' := by
    intro pinsB σ' H' s' I' ht
    have ck3 : CK X s s3 := ck2.trans (CK.kept (Nat.le_of_eq tk3.symm) up23)
    have fi := (f3 it (List.mem_singleton.mpr rfl)).1
    exact ck3.trans (CK.un I3 ht I'.base (fun hm => fi.2.1 (List.mem_singleton.mp hm).symm) fun x c e hm => fi.2.2.2.2.1 x c e (List.mem_singleton.mp hm))
  have loop : codeAny (model X.prog X.w) X.A (.compLoop (.ListComp elt [⟨.Name y py, iter, ifs, 0⟩] scope pos) 0 (.ref it) (.ref D) (compEnvC scope cl C X.env)) (compPost (model X.prog X.w) X.A X.xe none Qf (.ref D) C) s4 := by
    refine compLoop_any (fun m s' => ∃ i H', m = n - i ∧ i ≤ n ∧ s3.toks ≤ s'.toks ∧ Inv (X.blk s3 H3 scope (compEnvC scope cl C X.env) [it]) [] (wipe σ [iy]) H' s' ∧ St i s'.heap ∧ H' it = none ∧ J i s' H') ?_ n ⟨0, H3, by omega, Nat.zero_le _, tk4, I4, st4, nit, w0⟩
    rintro m s5 ⟨i, H5, rfl, hin, tk5, I5, st5, n5, j5⟩
    have sr5 := src i s5 H5 I5.hok j5
    have nC5 : H5 C = none := I5.free
    by_cases hlt : i < n
    · refine T.item i s5 _ _ hlt st5 sr5 fun u h' tk hP htk st6 k6 => ?_
      have I6 : Inv (X.blk s3 H3 scope (compEnvC scope cl C X.env) [it]) [] (wipe σ [iy]) H5 { s5 with heap := h', toks := tk } := by
        obtain ⟨f0, f1, f2', f3', f4, f5⟩ := stat I5 n5 it (List.mem_singleton.mpr rfl)
        exact I5.turned (t' := tk) k6 f0 f1 f3' f4 f5
      have I6p := I6.pinned (stat I6 n5) (fun b hb => by rw [List.mem_singleton.mp hb]; exact T.obj _ _ st6)
      have hy : X.N[iy]? = some y := ok.ix (y, iy) (List.mem_singleton.mpr rfl)
      have hyk : (compEnvC scope cl C X.env).kindOf y = some .local := lookup_relS_keep (by simp) hyl
      show wpAny _ _ (letOwnedTupleGo (.Name y py) (.ref it) u) _ _ _
      rw [show letOwnedTupleGo (.Name y py) (.ref it) u = pure () from rfl]
      refine wpAny_pure ?_
      obtain ⟨x, rx, go⟩ := turn i s5 H5 u tk hlt I5.hok j5 hP htk
      refine wpAny_assign_Name (put_rawS (X := X.blk s3 H3 scope (compEnvC scope cl C X.env) [it]) I6p hN hy hyk rx fun s9 I9 t9 h9 k9 => ?_)
      have t9 : tk ≤ s9.toks := t9
      have keep9 : ∀ b o, b ≠ it → b ≠ C → s5.heap.get? b = some o → s9.heap.get? b = some o := fun b o n1 n2 e => (k9.2 b n2).trans (k6 b o n1 e)
      have cell9 : ∀ z c, X.env.cells.lookup z = some c → ∀ v, s.heap.IsCell c v → s9.heap.IsCell c v := fun z c e v hv => (ck_blk I9 (Nat.le_trans tk5 (Nat.le_trans htk t9))).2 z c e v hv
      have w9 := go s3 H3 C cl s9 _ t9 keep9 n5 nC5 hcl cell9 I9 h9
      -- the turn's end
      have fin' : ∀ {H' : Hp} {s' : Shared}, s9.toks ≤ s'.toks → Inv (X.blk s3 H3 scope (compEnvC scope cl C X.env) [it]) ([] ++ pinsAt [it] h') ((wipe σ [iy]).set iy (some x)) H' s' → J (i + 1) s' H' →
          ∃ m, m < n - i ∧ ∃ i H', m = n - i ∧ i ≤ n ∧ s3.toks ≤ s'.toks ∧ Inv (X.blk s3 H3 scope (compEnvC scope cl C X.env) [it]) [] (wipe σ [iy]) H' s' ∧ St i s'.heap ∧ H' it = none ∧ J i s' H' := by
        intro H' s' ht I' j'
        obtain ⟨oi, ei, _⟩ := T.obj _ _ st6
        have pin := I'.pin (it, oi) (List.mem_append_right _ (List.mem_append_right _ (mem_pinsAt (List.mem_singleton.mpr rfl) ei)))
        refine ⟨n - (i + 1), by omega, i + 1, H', rfl, hlt, Nat.le_trans tk5 (Nat.le_trans htk (Nat.le_trans t9 ht)), (I'.unpinned (pins := [])).weak ?_ ?_, T.keep _ _ _ st6 fun o e => ?_, pin.2.1, j'⟩
        · show (wipe σ [iy]).length = _
          rw [List.length_set]
        · intro j v e
          have e2 := (wipe_some (vs := [iy]) e).2
          rw [List.getElem?_set_ne (fun z => e2 (by rw [z]; exact List.mem_singleton.mpr rfl))]
          exact e
        · have q : oi = o := by rw [ei] at e; exact Option.some.inj e
          rw [← q]
          exact pin.1
      refine wpAny_mono (wpAny_toks w9) (fun ok s10 q10 => ?_) (fun _ _ z => z.2.elim)
      obtain ⟨t10, q10⟩ := q10
      cases ok with
      | false =>
        simp only [Bool.false_eq_true, if_false] at q10 ⊢
        obtain ⟨H10, I10, j10⟩ := q10
        exact fin' t10 I10 j10
      | true =>
        simp only [if_true] at q10 ⊢
        refine wpAny_mono (wpAny_toks q10) (fun v s11 q11 => ?_) (fun _ _ z => z.2.elim)
        obtain ⟨t11, q11⟩ := q11
        refine wpAny_mono (wpAny_toks q11) (fun _ s12 q12 => ?_) (fun _ _ z => z.2.elim)
        obtain ⟨t12, H12, I12, j12⟩ := q12
        exact fin' (Nat.le_trans t10 (Nat.le_trans t11 t12)) I12 j12
    · obtain rfl : i = n := by omega
      refine T.done s5 _ _ st5 sr5 fun h' tk htk k6 => ?_
      have I6 : Inv (X.blk s3 H3 scope (compEnvC scope cl C X.env) [it]) [] (wipe σ [iy]) H5 { s5 with heap := h', toks := tk } := by
        obtain ⟨f0, f1, f2', f3', f4, f5⟩ := stat I5 n5 it (List.mem_singleton.mpr rfl)
        exact I5.turned (t' := tk) k6 f0 f1 f3' f4 f5
      have I7 : Inv X pins σ H5 { s5 with heap := h', toks := tk } := I3.call' (ch := [it]) I6.os I6.base I6.hok I6.bare fun b hb => ⟨(f3 b hb).1.2.2.2.1, (f3 b hb).1.2.1, (f3 b hb).1.2.2.2.2.1, (f3 b hb).1.2.2.2.2.2⟩
      obtain ⟨mm, hn, _⟩ := I6.loc
      have fC : FpOk X pins H5 C := I3.fpOk (Nat.le_of_eq hC) nC5
      refine ⟨mm, hn, fun h'' sb => ?_⟩
      obtain ⟨g0, g1, g2, g3, g4, g5⟩ := id fC
      have I8 : Inv X pins σ H5 { s5 with heap := h'', toks := tk } := I7.turned (t' := tk) (fun b o hb e => (sb.2 b hb).trans e) g0 g1 g3 g4 g5
      have c6 : CK X s { s5 with heap := h', toks := tk } := ck_blk I6 (Nat.le_trans tk5 htk)
      have c7 : CK X { s5 with heap := h', toks := tk } { s5 with heap := h'', toks := tk } := CK.but fC (Nat.le_refl _) fun b o hb e => (sb.2 b hb).trans e
      exact fin C s5 H5 _ j5 (fun b o n1 n2 e => (sb.2 b n2).trans (k6 b o n1 e)) htk n5 nC5 I8 (c6.trans c7)
  exact codeAny_compStart_list loop (T.self 0 _ _ _ st4 loop)
end
end Ls
set_option Elab.async false
set_option linter.all false
set_option maxRecDepth 100000
set_option maxHeartbeats 4000000
/-! tokens: remark_end, token_start, signs_at, is_word -/
namespace Ls
open PySem PySem.Spec PyProof.Rows L2
open VasedBase (isBlank isDigit isLetter)
/-! ### mathematics -/
/-- how many bytes are blanks and remarks, from here on (true: within a remark) -/
def skipN : Bool → List UInt8 → Nat
  | _, [] => 0
  | true, b :: r => if b = 10 then 1 + skipN false r else 1 + skipN true r
  | false, b :: r => if isBlank b = true then 1 + skipN false r else if b = 35 then 1 + skipN true r else 0
def notEnd (b : UInt8) : Bool := b != 10
theorem skip_t (b : UInt8) (r : List UInt8) : skipN true (b :: r) = if b = 10 then 1 + skipN false r else 1 + skipN true r := rfl
theorem skip_f (b : UInt8) (r : List UInt8) : skipN false (b :: r) = if isBlank b = true then 1 + skipN false r else if b = 35 then 1 + skipN true r else 0 := rfl
theorem drop_at {bs : List UInt8} {p : Nat} {b : UInt8} (h : bs[p]? = some b) : bs.drop p = b :: bs.drop (p + 1) := by
  have hl := get_lt h
  rw [List.drop_eq_getElem_cons hl]
  have : bs[p] = b := by
    rw [List.getElem?_eq_getElem hl] at h
    exact Option.some.inj h
  rw [this]
theorem skip_true : ∀ l : List UInt8, skipN true l = (l.takeWhile notEnd).length + skipN false (l.drop (l.takeWhile notEnd).length)
  | [] => rfl
  | b :: r => by
    rw [skip_t]
    by_cases h : b = 10
    · subst h
      have e : ((10 : UInt8) :: r).takeWhile notEnd = [] := by simp [notEnd]
      rw [e]
      simp only [if_true, List.length_nil, List.drop_zero, Nat.zero_add]
      have e2 : isBlank 10 = true := by decide
      rw [skip_f, if_pos e2]
    · have e : (b :: r).takeWhile notEnd = b :: r.takeWhile notEnd := by
        rw [List.takeWhile_cons, if_pos (by simpa [notEnd] using h)]
      rw [if_neg h, e, List.length_cons, List.drop_succ_cons, skip_true r]
      omega
theorem skip_le : ∀ (f : Bool) (l : List UInt8), skipN f l ≤ l.length
  | _, [] => by simp [skipN]
  | true, b :: r => by
    unfold skipN
    have h1 := skip_le false r
    have h2 := skip_le true r
    simp only [List.length_cons]
    split <;> omega
  | false, b :: r => by
    unfold skipN
    have h1 := skip_le false r
    have h2 := skip_le true r
    simp only [List.length_cons]
    split
    · omega
    · split <;> omega
theorem u8_int (b : UInt8) (n : Nat) (h : n < 256) : decide (V.int (b.toNat : Int) = V.int (n : Int)) = decide (b = UInt8.ofNat n) := by
  have e : (UInt8.ofNat n).toNat = n := by
    rw [UInt8.toNat_ofNat']
    omega
  apply Bool.eq_iff_iff.mpr
  simp only [decide_eq_true_eq]
  constructor
  · intro h2
    injection h2 with h2
    apply UInt8.toNat_inj.mp
    omega
  · intro h2
    rw [h2, e]
theorem bV_at {bs : List UInt8} {p : Nat} {b : UInt8} (h : bs[p]? = some b) : atI (bV bs) (p : Int) = some (.int (b.toNat : Int)) := atI_at (by unfold bV; rw [List.getElem?_map, h]; rfl)
theorem bV_len (bs : List UInt8) : (bV bs).length = bs.length := by simp [bV]
/-- the signs of a kind from here on: letters, digits -/
def isKind (n k : Nat) (b : UInt8) : Bool := decide (k ≤ b.toNat ∧ b.toNat < k + n)
def spRemarkEnd (K : PySem.W.Frag) : Sp := fun vs H Q _ => ∃ (a : Addr) (bs : List UInt8) (p : Nat), vs = [.ref a, .int p] ∧ SqL K H a (bV bs) ∧ p ≤ bs.length ∧ Q (.int ((p + ((bs.drop p).takeWhile notEnd).length : Nat) : Int)) H
def spTokenStart (K : PySem.W.Frag) : Sp := fun vs H Q _ => ∃ (a : Addr) (bs : List UInt8) (p : Nat), vs = [.ref a, .int p] ∧ SqL K H a (bV bs) ∧ p ≤ bs.length ∧ Q (.int ((p + skipN false (bs.drop p) : Nat) : Int)) H
def spSignsAt (K : PySem.W.Frag) : Sp := fun vs H Q _ => ∃ (a : Addr) (bs : List UInt8) (p n k : Nat) (sg : Str), vs = [.ref a, .int p, .str sg, .int k] ∧ SqL K H a (bV bs) ∧ p ≤ bs.length ∧ bs.length ≤ 10000 ∧ sg.cps.toList = (List.range n).map (fun i => k + i) ∧ n ≤ 100 ∧ k ≤ 200 ∧
  Q (vS ((bs.drop p).takeWhile (isKind n k))) H
def spIsWord : Sp := fun vs H Q _ => ∃ x : Ln, vs = [vS x] ∧ x.length ≤ 10000 ∧ Q (.bl (decide (1 ≤ x.length ∧ x.length ≤ 8))) H
section
variable {P : Program} {w : World} {K : PySem.W.Frag} {mg : Str → Option Value} {base : Heap}
theorem sc_remark_end : FnScope ["script", "place"] ["script", "place"] (defScope s_remark_end) := ⟨rfl, rfl, rfl, by decide +kernel, rfl, by decide +kernel, by decide +kernel⟩
theorem ok_remark_end (T : Txt K mg) : DOk P w K mg base CX0 1 "remark_end" (spRemarkEnd K) := by
  obtain ⟨fd, F⟩ := T.f_remark_end
  have sc := sc_remark_end
  obtain ⟨_, c_REMARK_END⟩ := T.v_REMARK_END
  refine dok F T.g_remark_end (fun _ _ _ _ _ _ us hl => match us, hl with | [_, _], _ => rfl) sc (fun vs H Q E h => by obtain ⟨_, _, _, rfl, _⟩ := h; rfl) (fun cdv A outer s H vs Q E hr h => ?_)
  refine ⟨_, PSs.nox (pss_cons (ps_while PassesOwn.never (PW.pt (pw_and (pt_cmpR op_lt (pv 1) (pe_callB (call_len_seqK (K := K) rfl) rfl T.b_len boot_len (pa_cons (pv 0) pa_nil)) (nomark _)) (pw_and1 (pt_cmpR op_ne (pe_ix (ix_listK (K := K) rfl) (pv 0) (pv 1) (fun _ _ => rfl)) (pe_glob (v := .int (10)) rfl c_REMARK_END ⟨_, rfl⟩) (nomark _)))))
  (pss_one (ps_aug (i := 1) sc.nd rfl (Or.inl rfl) pe_int ip_add)))
  (pss_one (ps_ret (pv 1)))), ?_⟩
  obtain ⟨a, bs, p, rfl, ha, hp, kq⟩ := h
  refine ⟨fun m σ H' => ∃ q : Nat, σ = [some (.ref a), some (.int q)] ∧ H' = H ∧ m = bs.length - q ∧ q ≤ bs.length ∧ q + ((bs.drop q).takeWhile notEnd).length = p + ((bs.drop p).takeWhile notEnd).length, ⟨bs.length - p, p, rfl, rfl, rfl, hp, rfl⟩, ?_⟩
  rintro m σ H' ⟨q, rfl, rfl, rfl, hq, hm⟩
  refine ⟨_, rfl, _, rfl, a, _, rfl, .inl ha, _, _, rfl, rfl, _, rfl, ite2 (fun c1 => ?_) fun c1 => ?_⟩
  · have d1 : (q : Int) < (((bV bs).length : Nat) : Int) := of_decide_eq_true c1
    rw [bV_len] at d1
    obtain ⟨b, hb⟩ : ∃ b, bs[q]? = some b := ⟨bs[q]'(by omega), by simp⟩
    refine ⟨_, rfl, _, rfl, a, _, (q : Int), _, rfl, rfl, ha, bV_at hb, rfl, _, rfl, ?_⟩
    show if (!decide (V.int (b.toNat : Int) = V.int (10 : Int))) = true then _ else _
    rw [show decide (V.int (b.toNat : Int) = V.int (10 : Int)) = decide (b = 10) from u8_int b 10 (by decide)]
    rw [drop_at hb, List.takeWhile_cons] at hm
    refine ite2 (fun c2 => ?_) fun c2 => ?_
    · have hne : notEnd b = true := by
        have : ¬ b = 10 := by simpa using c2
        simpa [notEnd] using this
      rw [if_pos hne, List.length_cons] at hm
      refine ⟨fun σ' H'' => σ' = [some (.ref a), some (.int ((q + 1 : Nat) : Int))] ∧ H'' = H', fun σ' H'' ⟨e1, e2⟩ => ⟨bs.length - (q + 1), by omega, q + 1, e1, e2, rfl, by omega, by omega⟩, ?_⟩
      exact ⟨_, rfl, _, _, rfl, rfl, rfl, rfl⟩
    · have hne : notEnd b = false := by
        have : b = 10 := by simpa using c2
        simp [notEnd, this]
      rw [hne] at hm
      simp only [Bool.false_eq_true, if_false, List.length_nil, Nat.add_zero] at hm
      rw [← hm] at kq
      exact ⟨_, rfl, kq⟩
  · have d1 : ¬ (q : Int) < (((bV bs).length : Nat) : Int) := fun h => c1 (decide_eq_true h)
    rw [bV_len] at d1
    have hql : q = bs.length := by omega
    rw [List.drop_eq_nil_of_le (by omega)] at hm
    simp only [List.takeWhile_nil, List.length_nil, Nat.add_zero] at hm
    rw [← hm] at kq
    exact ⟨_, rfl, kq⟩
theorem blanks_V (K : PySem.W.Frag) : tup_BLANKS.map (He.Dv.v K) = [V.int 32, V.int 9, V.int 10] := rfl
theorem blank_in (b : UInt8) : inV (V.int (b.toNat : Int)) [V.int 32, V.int 9, V.int 10] = isBlank b := by
  have h : ∀ n : Fin 256, inV (V.int ((UInt8.ofNat n.val).toNat : Int)) [V.int 32, V.int 9, V.int 10] = isBlank (UInt8.ofNat n.val) := by decide +kernel
  have h2 := h ⟨b.toNat, b.toNat_lt⟩
  have e : UInt8.ofNat b.toNat = b := UInt8.ofNat_toNat
  rw [e] at h2
  exact h2
theorem sc_token_start : FnScope ["script", "place"] ["script", "place"] (defScope s_token_start) := ⟨rfl, rfl, rfl, by decide +kernel, rfl, by decide +kernel, by decide +kernel⟩
theorem ok_token_start (T : Txt K mg) : DOk P w K mg base CX0 2 "token_start" (spTokenStart K) := by
  obtain ⟨fd, F⟩ := T.f_token_start
  have sc := sc_token_start
  obtain ⟨_, c_REMARK_START⟩ := T.v_REMARK_START
  have K_remark_end : DOk P w K mg base CX0 1 "remark_end" (spRemarkEnd K) := ok_remark_end T
  refine dok F T.g_token_start (fun _ _ _ _ _ _ us hl => match us, hl with | [_, _], _ => rfl) sc (fun vs H Q E h => by obtain ⟨_, _, _, rfl, _⟩ := h; rfl) (fun cdv A outer s H vs Q E hr h => ?_)
  refine ⟨_, PSs.nox (pss_cons (ps_while PassesOwn.never (pt_cmpR op_lt (pv 1) (pe_callB (call_len_seqK (K := K) rfl) rfl T.b_len boot_len (pa_cons (pv 0) pa_nil)) (nomark _))
  (pss_one (ps_if (pt_cmpR op_eq (pe_ix (ix_listK (K := K) rfl) (pv 0) (pv 1) (fun _ _ => rfl)) (pe_glob (v := .int (35)) rfl c_REMARK_START ⟨_, rfl⟩) (nomark _))
    (pss_one (ps_set (i := 1) sc.nd rfl (Or.inl rfl) (pe_d K_remark_end hr (by first | decide | omega) rfl (pa_cons (pv 0) (pa_cons (pv 1) pa_nil)))))
    (pss_one (ps_if (pt_cmpR (op_inK (K := K) rfl) (pe_ix (ix_listK (K := K) rfl) (pv 0) (pv 1) (fun _ _ => rfl)) (pe_glob (v := .ref (He.ga K "BLANKS")) rfl T.g_BLANKS rfl) rfl)
      (pss_one (ps_aug (i := 1) sc.nd rfl (Or.inl rfl) pe_int ip_add))
      (pss_one (ps_ret (pv 1))))))))
  (pss_one (ps_ret (pv 1)))), ?_⟩
  obtain ⟨a, bs, p, rfl, ha, hp, kq⟩ := h
  have hbl := He.tupB_ok T.t_BLANKS H
  rw [blanks_V] at hbl
  refine ⟨fun m σ H' => ∃ q : Nat, σ = [some (.ref a), some (.int q)] ∧ H' = H ∧ m = bs.length - q ∧ q ≤ bs.length ∧ q + skipN false (bs.drop q) = p + skipN false (bs.drop p), ⟨bs.length - p, p, rfl, rfl, rfl, hp, rfl⟩, ?_⟩
  rintro m σ H' ⟨q, rfl, rfl, rfl, hq, hm⟩
  refine ⟨_, rfl, _, rfl, a, _, rfl, .inl ha, _, _, rfl, rfl, _, rfl, ite2 (fun c1 => ?_) fun c1 => ?_⟩
  · have d1 : (q : Int) < (((bV bs).length : Nat) : Int) := of_decide_eq_true c1
    rw [bV_len] at d1
    obtain ⟨b, hb⟩ : ∃ b, bs[q]? = some b := ⟨bs[q]'(by omega), by simp⟩
    have hdr := drop_at hb
    rw [hdr, skip_f] at hm
    refine ⟨fun σ' H'' => ∃ q' : Nat, σ' = [some (.ref a), some (.int (q' : Int))] ∧ H'' = H' ∧ q < q' ∧ q' ≤ bs.length ∧ q' + skipN false (bs.drop q') = p + skipN false (bs.drop p), fun σ' H'' ⟨q', e1, e2, h1, h2, h3⟩ => ⟨bs.length - q', by omega, q', e1, e2, rfl, h2, h3⟩, ?_⟩
    refine ⟨_, rfl, _, rfl, a, _, (q : Int), _, rfl, rfl, ha, bV_at hb, rfl, _, rfl, ?_⟩
    show if decide (V.int (b.toNat : Int) = V.int (35 : Int)) = true then _ else _
    rw [show decide (V.int (b.toNat : Int) = V.int (35 : Int)) = decide (b = 35) from u8_int b 35 (by decide)]
    refine ite2 (fun c2 => ?_) fun c2 => ?_
    · have hb35 : b = 35 := of_decide_eq_true c2
      subst hb35
      have e1 : isBlank 35 = false := by decide
      rw [e1] at hm
      simp only [Bool.false_eq_true, if_false, if_true] at hm
      rw [skip_true] at hm
      have etw : (bs.drop q).takeWhile notEnd = 35 :: (bs.drop (q + 1)).takeWhile notEnd := by rw [hdr]; rfl
      refine ⟨_, rfl, _, rfl, a, bs, q, rfl, ha, hq, q + ((bs.drop q).takeWhile notEnd).length, rfl, rfl, ?_, ?_, ?_⟩
      · rw [etw, List.length_cons]; omega
      · have h1 := (List.takeWhile_sublist (p := notEnd) (l := bs.drop q)).length_le
        rw [List.length_drop] at h1
        omega
      · rw [etw, List.length_cons, ← hm, List.drop_drop]
        have e2 : q + 1 + ((bs.drop (q + 1)).takeWhile notEnd).length = q + (((bs.drop (q + 1)).takeWhile notEnd).length + 1) := by omega
        rw [e2]
        omega
    · have hb35 : ¬ b = 35 := fun h => c2 (decide_eq_true h)
      refine ⟨_, rfl, _, rfl, a, _, (q : Int), _, rfl, rfl, ha, bV_at hb, _, _, rfl, .inr hbl, rfl, by rfl, _, rfl, ?_⟩
      show if inV (V.int (b.toNat : Int)) [V.int 32, V.int 9, V.int 10] = true then _ else _
      rw [blank_in]
      refine ite2 (fun c3 => ?_) fun c3 => ?_
      · rw [if_pos c3] at hm
        exact ⟨_, rfl, _, _, rfl, rfl, q + 1, rfl, rfl, by omega, by omega, by omega⟩
      · rw [if_neg c3, if_neg hb35, Nat.add_zero] at hm
        rw [← hm] at kq
        exact ⟨_, rfl, kq⟩
  · have d1 : ¬ (q : Int) < (((bV bs).length : Nat) : Int) := fun h => c1 (decide_eq_true h)
    rw [bV_len] at d1
    have hql : q = bs.length := by omega
    rw [List.drop_eq_nil_of_le (by omega)] at hm
    have hm : q + 0 = p + skipN false (bs.drop p) := hm
    rw [Nat.add_zero] at hm
    rw [← hm] at kq
    exact ⟨_, rfl, kq⟩
theorem sc_is_word : FnScope ["letters"] ["letters"] (defScope s_is_word) := ⟨rfl, rfl, rfl, by decide +kernel, rfl, by decide +kernel, by decide +kernel⟩
theorem ok_is_word (T : Txt K mg) : DOk P w K mg base CX0 1 "is_word" spIsWord := by
  obtain ⟨fd, F⟩ := T.f_is_word
  have sc := sc_is_word
  obtain ⟨_, c_WORD_LETTERS_AT_MOST_tokens⟩ := T.v_WORD_LETTERS_AT_MOST_tokens
  refine dok F T.g_is_word (fun _ _ _ _ _ _ us hl => match us, hl with | [_], _ => rfl) sc (fun vs H Q E h => by obtain ⟨_, rfl, _⟩ := h; rfl) (fun cdv A outer s H vs Q E hr h => ?_)
  refine ⟨_, PSs.nox (pss_one (ps_ret (pe_chain op_le op_le pe_int (pe_callB call_len_str rfl T.b_len boot_len (pa_cons (pv 0) pa_nil)) (pe_glob (v := .int (8)) rfl c_WORD_LETTERS_AT_MOST_tokens ⟨_, rfl⟩)))), ?_⟩
  obtain ⟨x, rfl, hx, kq⟩ := h
  refine ⟨_, rfl, _, rfl, small (m := 10000) (by rw [sOf_len]; exact hx), _, _, rfl, rfl, _, rfl, ite2 (fun c1 => ?_) fun c1 => ?_⟩
  · have d1 : (1 : Int) ≤ ((sOf x).length : Nat) := of_decide_eq_true c1
    rw [sOf_len] at d1
    refine ⟨_, _, rfl, rfl, ?_⟩
    have e : decide (1 ≤ x.length ∧ x.length ≤ 8) = decide ((((sOf x).length : Nat) : Int) ≤ 8) := by
      rw [sOf_len]
      congr 1
      exact propext ⟨fun h => by omega, fun h => by omega⟩
    rw [e] at kq
    exact kq
  · have d1 : ¬ (1 : Int) ≤ ((sOf x).length : Nat) := fun h => c1 (decide_eq_true h)
    rw [sOf_len] at d1
    rw [decide_eq_false (by omega)] at kq
    exact kq
end
end Ls
set_option Elab.async false
set_option linter.all false
set_option maxRecDepth 100000
set_option maxHeartbeats 4000000
/-! tokens: signs_at, its text's token told -/
namespace Ls
open PySem PySem.Spec PyProof.Rows L2
open VasedBase (isBlank isDigit isLetter)
section
variable {P : Program} {w : World} {K : PySem.W.Frag} {mg : Str → Option Value} {base : Heap}
theorem dokW {CX : CXT} {st : Stmt} {x : Str} {fd : FuncData} {N ps : List Str} {k : Nat} {sp : SpW} (F : FunD K x x (defArgs st) (defBody st) (defScope st) [] [] (He.fAd K (x, none)) fd) (hm : mg x = some (.ref (He.ga K x)))
    (hb : ∀ (kV doc pm : Value) (an : Option Addr) (cdv ct : Value) (us : List Value), us.length = ps.length → bindArgs (PySem.W.fnOf x x (defArgs st) (defBody st) (defScope st) .none kV doc pm an cdv ct) ⟨us, []⟩ = pure (ps.zip us))
    (S : FnScope N ps (defScope st)) (len : ∀ vs us s H Q E, sp vs us s H Q E → vs.length = ps.length)
    (hbody : ∀ (cdv : Value) (A : Around) (outer : List Env) (s : Shared) (H : Hp) (vs : List V) (us : List Value) (Q : WK) (E : XK) (s1 : Shared), Room k (A.deeper (envOfC x (defScope st) s.heap.objs.size (He.ga K x) cdv)) → Vals vs us → sp vs us s H Q E → s.toks ≤ s1.toks →
      Inv (cxOf CX P w K mg base N x (defScope st) (He.ga K x) cdv A outer s H E) [] (start N vs) H s1 →
      (∀ i y u, ps[i]? = some y → us[i]? = some u → (defScope st).names.lookup y = some .local → Has (cxOf CX P w K mg base N x (defScope st) (He.ga K x) cdv A outer s H E) i (· = u) s1) →
      wpAny (model P w) (cxOf CX P w K mg base N x (defScope st) (He.ga K x) cdv A outer s H E).A (execs (defBody st) (cxOf CX P w K mg base N x (defScope st) (He.ga K x) cdv A outer s H E).env) (BW (cxOf CX P w K mg base N x (defScope st) (He.ga K x) cdv A outer s H E) Q) (cxOf CX P w K mg base N x (defScope st) (He.ga K x) cdv A outer s H E).xe s1) :
    DOkW P w K mg base CX (k + 1) x sp :=
  ⟨_, fd, ps, fnW F S len hbody, hm, F.kp, F.bindsN hb⟩
/-- of a def that raises nothing -/
theorem dokW0 {st : Stmt} {x : Str} {fd : FuncData} {N ps : List Str} {k : Nat} {sp : SpW} (F : FunD K x x (defArgs st) (defBody st) (defScope st) [] [] (He.fAd K (x, none)) fd) (hm : mg x = some (.ref (He.ga K x)))
    (hb : ∀ (kV doc pm : Value) (an : Option Addr) (cdv ct : Value) (us : List Value), us.length = ps.length → bindArgs (PySem.W.fnOf x x (defArgs st) (defBody st) (defScope st) .none kV doc pm an cdv ct) ⟨us, []⟩ = pure (ps.zip us))
    (S : FnScope N ps (defScope st)) (len : ∀ vs us s H Q E, sp vs us s H Q E → vs.length = ps.length)
    (hbody : ∀ (cdv : Value) (A : Around) (outer : List Env) (s : Shared) (H : Hp) (vs : List V) (us : List Value) (Q : WK) (E : XK) (s1 : Shared), Room k (A.deeper (envOfC x (defScope st) s.heap.objs.size (He.ga K x) cdv)) → Vals vs us → sp vs us s H Q E → s.toks ≤ s1.toks →
      Inv (cxOf CX0 P w K mg base N x (defScope st) (He.ga K x) cdv A outer s H E).nox [] (start N vs) H s1 →
      (∀ i y u, ps[i]? = some y → us[i]? = some u → (defScope st).names.lookup y = some .local → Has (cxOf CX0 P w K mg base N x (defScope st) (He.ga K x) cdv A outer s H E).nox i (· = u) s1) →
      wpAny (model (cxOf CX0 P w K mg base N x (defScope st) (He.ga K x) cdv A outer s H E).nox.prog (cxOf CX0 P w K mg base N x (defScope st) (He.ga K x) cdv A outer s H E).nox.w) (cxOf CX0 P w K mg base N x (defScope st) (He.ga K x) cdv A outer s H E).nox.A (execs (defBody st) (cxOf CX0 P w K mg base N x (defScope st) (He.ga K x) cdv A outer s H E).nox.env)
        (BW (cxOf CX0 P w K mg base N x (defScope st) (He.ga K x) cdv A outer s H E).nox Q) (cxOf CX0 P w K mg base N x (defScope st) (He.ga K x) cdv A outer s H E).nox.xe s1) :
    DOkW P w K mg base CX0 (k + 1) x sp :=
  dokW F hm hb S len fun cdv A outer s H vs us Q E s1 hr r h ht I hh => noxW (hbody cdv A outer s H vs us Q E s1 hr r h ht (I.wish _) hh)
def spSignsW (K : PySem.W.Frag) : SpW := fun vs _ s H Q _ => ∃ (a : Addr) (bs : List UInt8) (p n k : Nat) (sg : Str), vs = [.ref a, .int p, .str sg, .int k] ∧ SqL K H a (bV bs) ∧ p ≤ bs.length ∧ bs.length ≤ 10000 ∧ sg.cps.toList = (List.range n).map (fun i => k + i) ∧ n ≤ 100 ∧ k ≤ 200 ∧
  ∀ (t : Nat) (s1 : Shared), s.toks ≤ t → t < s1.toks → Q (.str (sOf ((bs.drop p).takeWhile (isKind n k))) t) s1 H
theorem sc_signs_at : FnScope ["script", "place", "signs", "first", "found"] ["script", "place", "signs", "first"] (defScope s_signs_at) := ⟨rfl, rfl, rfl, by decide +kernel, rfl, by decide +kernel, by decide +kernel⟩
theorem ok_signs_at (T : Txt K mg) : DOkW P w K mg base CX0 1 "signs_at" (spSignsW K) := by
  obtain ⟨fd, F⟩ := T.f_signs_at
  have sc := sc_signs_at
  refine dokW0 F T.g_signs_at (fun _ _ _ _ _ _ us hl => match us, hl with | [_, _, _, _], _ => rfl) sc (fun vs us s H Q E h => by obtain ⟨_, _, _, _, _, _, rfl, _⟩ := h; rfl) (fun cdv A outer s H vs us Q E s1 hr r h ht I hh => ?_)
  obtain ⟨a, bs, p, n, k, sg, rfl, ha, hp, hbl, hsg, hn, hk, kq⟩ := h
  clear r hh
  have hsl : sg.length = n := by
    have e : sg.length = sg.cps.toList.length := by simp [Str.length]
    rw [e, hsg, List.length_map, List.length_range]
  have e0 : V.str (Str.ofString "") = vS [] := by decide +kernel
  refine wpAny_execs_cons (wpAny_Assign_Name (Calls.Constant_str (put_raw (i := 4) (v := .str "") (I.tok _) sc.nd rfl rfl ⟨_, rfl⟩ ?_)) (by rfl))
  intro s2 I2 h2t h2 _
  have h2t : s1.toks < s2.toks := Nat.lt_of_succ_lt h2t
  have hy := h2.imp (ψ := Yng s.toks s2.toks) fun u e => ⟨_, _, e, ht, h2t⟩
  have h2t : s.toks ≤ s2.toks := Nat.le_trans ht (Nat.le_of_lt h2t)
  refine seqR (R := fun s3 => s.toks ≤ s3.toks ∧ Has _ 4 (Yng s.toks s3.toks) s3) (N := fun σ' H' => H' = H ∧ σ'[4]? = some (some (vS ((bs.drop p).takeWhile (isKind n k))))) I2 ⟨h2t, hy⟩
    (psr_while PassesOwn.never (fun _ _ h k => ⟨Nat.le_trans h.1 k.1, (h.2.keep k).imp fun _ y => y.up k.1⟩)
      (PKT.one (pkt_and (pkt_cmp okr_lt (pk_name (i := 1) rfl (Or.inl rfl)) (pk_lenL (K := K) rfl rfl T.b_len boot_len (pk_name (i := 0) rfl (Or.inl rfl))) (nomark _)) (pkt_and1 (pkt_chain okr_le okr_lt pk_int (pk_op okr_sub (pk_ixL (K := K) rfl (pk_name (i := 0) rfl (Or.inl rfl)) (pk_name (i := 1) rfl (Or.inl rfl)) (fun _ _ => rfl)) (pk_name (i := 3) rfl (Or.inl rfl))) (pk_lenS rfl T.b_len boot_len (pk_name (i := 2) rfl (Or.inl rfl)))))))
      (psrs_cons (psr_augY (i := 4) sc.nd rfl (Or.inl rfl) (pey_ixS (pv 2) (pe_op op_sub (pe_ix (ix_listK (K := K) rfl) (pv 0) (pv 1) (fun _ _ => rfl)) (pv 3)) (fun _ _ => rfl)))
        (psrs_cons (psr_augI (i := 1) (j := 4) (φ := fun m => Yng s.toks m) sc.nd rfl rfl (by decide) (fun _ _ _ h k => h.up k) pk_int) psrs_nil))) ?_ ?_
  · refine ⟨fun m σ H' => ∃ (q : Nat) (f : Ln), σ = [some (.ref a), some (.int q), some (.str sg), some (.int k), some (vS f)] ∧ H' = H ∧ m = bs.length - q ∧ p ≤ q ∧ q ≤ bs.length ∧ f.length = q - p ∧ f ++ (bs.drop q).takeWhile (isKind n k) = (bs.drop p).takeWhile (isKind n k),
      ⟨bs.length - p, p, [], by rw [← e0]; rfl, rfl, rfl, Nat.le_refl _, hp, by simp, rfl⟩, ?_⟩
    rintro m σ H' ⟨q, f, rfl, rfl, rfl, hpq, hq, hfl, hm⟩
    refine ⟨_, rfl, _, rfl, a, _, rfl, ha, _, _, rfl, rfl, _, rfl, ite2 (fun c1 => ?_) fun c1 => ?_⟩
    · have d1 : (q : Int) < (((bV bs).length : Nat) : Int) := of_decide_eq_true c1
      rw [bV_len] at d1
      obtain ⟨b, hb⟩ : ∃ b, bs[q]? = some b := ⟨bs[q]'(by omega), by simp⟩
      have hdr := drop_at hb
      rw [hdr, List.takeWhile_cons] at hm
      have hb256 := b.toNat_lt
      have hbq : (bV bs)[((q : Int)).toNat]? = some (.int (b.toNat : Int)) := by
        rw [Int.toNat_natCast]
        unfold bV
        rw [List.getElem?_map, hb]
        rfl
      have stop : isKind n k b = false → H' = H' ∧ some (some (vS f)) = some (some (vS ((bs.drop p).takeWhile (isKind n k)))) := fun hf => by
        rw [hf] at hm
        simp only [Bool.false_eq_true, if_false, List.append_nil] at hm
        rw [← hm]
        exact ⟨rfl, rfl⟩
      refine ⟨_, rfl, _, rfl, a, _, (q : Int), _, rfl, rfl, ha, by omega, hbq, _, rfl, _, _, rfl, rfl, _, _, rfl, rfl, _, rfl, ?_⟩
      refine ite2 (fun c2 => ?_) fun c2 => ?_
      · have d2 : (0 : Int) ≤ (b.toNat : Int) - (k : Int) := of_decide_eq_true c2
        refine ⟨_, rfl, _, rfl, small (m := 100) (by omega), _, _, rfl, rfl, _, rfl, ite2 (fun c3 => ?_) fun c3 => ?_⟩
        · have d3 : (b.toNat : Int) - (k : Int) < ((sg.length : Nat) : Int) := of_decide_eq_true c3
          rw [hsl] at d3
          have hkind : isKind n k b = true := decide_eq_true ⟨by omega, by omega⟩
          rw [if_pos hkind] at hm
          obtain ⟨j, hj⟩ : ∃ j : Nat, (b.toNat : Int) - (k : Int) = (j : Int) := ⟨b.toNat - k, by omega⟩
          have hjn : j < n := by omega
          have hsj : sg.cps.toList[j]? = some b.toNat := by
            rw [hsg, List.getElem?_map, List.getElem?_range hjn]
            show some (k + j) = some b.toNat
            congr 1
            omega
          refine ⟨fun σ' H'' => σ' = [some (.ref a), some (.int ((q + 1 : Nat) : Int)), some (.str sg), some (.int k), some (vS (f ++ [b]))] ∧ H'' = H', fun σ' H'' ⟨e1, e2⟩ => ⟨bs.length - (q + 1), by omega, q + 1, f ++ [b], e1, e2, rfl, by omega, by omega, by simp; omega, by rw [List.append_assoc]; exact hm⟩, ?_⟩
          refine ⟨_, rfl, _, rfl, _, rfl, _, rfl, a, _, (q : Int), _, rfl, rfl, ha, bV_at hb, _, rfl, _, _, rfl, rfl, _, _, b.toNat, rfl, rfl, small (m := 100) (by omega), (by rw [hj]; exact atI_at hsj), ?_⟩
          have ev : V.str (sOf f ++ ⟨#[b.toNat]⟩) = vS (f ++ [b]) := by
            show V.str (sOf f ++ sOf [b]) = V.str (sOf (f ++ [b]))
            rw [sOf_app]
          refine ⟨sOf f, ⟨#[b.toNat]⟩, rfl, rfl, small (m := 10001) (by rw [sOf_len]; show f.length + 1 ≤ 10001; omega), ?_⟩
          rw [ev]
          exact ⟨_, rfl, _, _, rfl, rfl, rfl, rfl⟩
        · have d3 : ¬ (b.toNat : Int) - (k : Int) < ((sg.length : Nat) : Int) := fun h => c3 (decide_eq_true h)
          rw [hsl] at d3
          exact stop (decide_eq_false (by omega))
      · have d2 : ¬ (0 : Int) ≤ (b.toNat : Int) - (k : Int) := fun h => c2 (decide_eq_true h)
        exact ⟨_, rfl, stop (decide_eq_false (by omega))⟩
    · have d1 : ¬ (q : Int) < (((bV bs).length : Nat) : Int) := fun h => c1 (decide_eq_true h)
      rw [bV_len] at d1
      rw [List.drop_eq_nil_of_le (by omega), List.takeWhile_nil, List.append_nil] at hm
      rw [← hm]
      exact ⟨rfl, rfl⟩
  · rintro s3 σ3 _ ⟨_, h3⟩ I3 ⟨rfl, e3⟩
    exact retHas I3 h3 rfl (Or.inl rfl) e3 fun u ⟨_, t, e, ht, ht2⟩ ⟨t', e'⟩ => by
      subst e
      injection e' with e1 e2
      subst e1
      exact kq t s3 ht ht2
end
end Ls
set_option Elab.async false
set_option linter.all false
set_option maxRecDepth 100000
set_option maxHeartbeats 4000000
/-! family: letters_of, the letters told exactly -/
namespace Ls
open PySem PySem.Spec PyProof.Rows L2
open Vasedf (lettersIn)
/-- letters, as texts -/
abbrev lV (cs : List UInt8) : List V := tS (cs.map fun c => [c])
/-- a list of letters whose tokens lie from lo on, below hi -/
def RawL (H : Hp) (q : Addr) (cs : List UInt8) (lo hi : Nat) : Prop := ∃ (its : List Value) (n : Nat), H q = some (.frz { cls := .type "list", data := .seq its.toArray n } (.lst (lV cs))) ∧ Vals (lV cs) its ∧ ∀ v ∈ its, Yng lo hi v
theorem RawL.same {H H' : Hp} {q : Addr} {cs : List UInt8} {lo hi : Nat} (s : Same H H') (h : RawL H q cs lo hi) : RawL H' q cs lo hi := by
  obtain ⟨its, n, h1, h2, h3⟩ := h
  exact ⟨its, n, s _ _ h1, h2, h3⟩
theorem vals_mono {xs : List V} {us : List Value} {i : Nat} {u : Value} (h : Vals xs us) (hu : us[i]? = some u) : ∃ x, xs[i]? = some x ∧ RelV x u := by
  have hl := h.length
  have hi := (List.getElem?_eq_some_iff.mp hu).1
  obtain ⟨x, hx⟩ : ∃ x, xs[i]? = some x := ⟨xs[i]'(by omega), by simp⟩
  obtain ⟨u', hu', r⟩ := h.get hx
  rw [hu] at hu'
  cases hu'
  exact ⟨x, hx, r⟩
def spLettersOfW : SpW := fun vs _ s H Q E => ∃ (a : Addr) (ts : List (List Ln)), vs = [.ref a] ∧ RepTs H a ts ∧ ts.length ≤ 10 ∧ (∀ t ∈ ts, t.length ≤ 100) ∧ (∀ t ∈ ts, ∀ x ∈ t, x.length ≤ 100) ∧
  ∀ q s' H', H q = none → Same H H' → RawL H' q (lettersIn ts) (s.toks + 1) s'.toks → Q (.ref q) s' H'
section
variable {P : Program} {w : World} {K : PySem.W.Frag} {mg : Str → Option Value} {base : Heap}
theorem okW_letters_of (T : Txt K mg) : DOkW P w K mg base CX0 1 "letters_of" spLettersOfW := by
  obtain ⟨fd, F⟩ := T.f_letters_of
  have sc := sc_letters_of
  obtain ⟨tA, c_ALPHABET⟩ := T.v_ALPHABET
  obtain ⟨t6, c_LETTERS_AT_MOST_family⟩ := T.v_LETTERS_AT_MOST_family
  refine dokW F T.g_letters_of (fun _ _ _ _ _ _ us hl => match us, hl with | [_], _ => rfl) sc (fun vs us s H Q E h => by obtain ⟨_, _, rfl, _⟩ := h; rfl) (fun cdv A outer s H vs us Q E s1 hr r h ht I hh => ?_)
  obtain ⟨a, ts, rfl, ⟨us0, ha, hp⟩, hl1, hl2, hx, kq⟩ := h
  clear r hh
  have hul := paired_len hp
  have hem : (Str.ofString "").length = 0 := by decide +kernel
  have hfl : ∀ t ∈ ts, t.flatten.length ≤ 10000 := fun t ht => by
    have h1 := flat_len t 100 (hx t ht)
    have h2 := hl2 t ht
    omega
  -- written = ''.join(..)
  refine wpAny_execs_cons (wpAny_Assign_Name (PySem.Call_method1 (by rfl) (by rfl) (by rfl) (Calls.Constant_str ?_)) (by rfl))
  refine ⟨"str", _, PySem.F.plainAttrs_str, PySem.F.slot_str_join, PySem.F.type_str_join, typeIs_str _ _ _, (fun _ e => nomatch e), Calls.callWith_builtin rfl (Calls.evalArgs_plain (Calls.spliced_cons ?_))⟩
  refine wpAny_mono (wpAny_toks ((pe_lc (own := [("text", 1)]) rfl sc.nd (pi_listK (K := K) rfl (pv 0)) (blkOk_by (N := ["texts", "text", "written", "letter"]) (sc := defScope s_letters_of) (by decide +kernel)) (fun _ _ _ _ _ => (pg_name (i := 1) sc.nd rfl (Or.inl rfl))) (fun _ _ _ _ _ => pts_nil) (fun _ _ _ _ _ => (pe_joinK (K := K) rfl pe_str (pv 1)))).run
    [] { s1 with toks := s1.toks + 1 } _ H (fun v H1 => ∃ D, v = .ref D ∧ Same H H1 ∧ H1 D = some (.lst (tS (ts.map List.flatten)))) (I.tok _) ?_)) ?_ fun _ _ z => z.2
  · refine ⟨_, rfl, a, rfl, ⟨_, SqL.of ha⟩, fun D hD => ?_⟩
    refine lc_list (K := K) (a := a) (xs := us0) (fun i H' => Same H H' ∧ H' D = some (.lst (tS ((ts.map List.flatten).take i)))) ⟨Same.new hD, upd_same⟩ (fun i H' _ ⟨s1, _⟩ => SqL.of (s1 _ _ ha)) ?_ ?_
    · rintro i y H1 hi ⟨s1, h1⟩
      obtain ⟨t, ht, b, rfl, hb⟩ := paired_get hp hi
      have htm := List.mem_of_getElem? ht
      have hm2 : (ts.map List.flatten)[i]? = some t.flatten := by rw [List.getElem?_map, ht]; rfl
      have h2 := sum_lens t 100 (hx t htm)
      have h3 := hl2 t htm
      refine ⟨rfl, ⟨_, rfl⟩, _, rfl, _, b, t.map sOf, rfl, rfl, .inl (SqL.of (by rw [s1 _ _ hb]; simp [tS, vS])), by rw [hem]; omega, ?_⟩
      rw [join_empty]
      refine ⟨_, h1, smallLt (m := 100) (by rw [tS_len, List.length_take, List.length_map]; omega), Same.put s1 hD, ?_⟩
      rw [upd_same, take_more hm2, tS_app]
      rfl
    · rintro H1 ⟨s1, h1⟩
      rw [List.take_of_length_le (by rw [List.length_map]; omega)] at h1
      exact ⟨D, rfl, s1, h1⟩
  rintro u s2 ⟨k2, _, H2, I2, r2, D0, rfl, s02, hD0⟩
  have k2 : s1.toks + 1 ≤ s2.toks := k2
  cases r2
  have hsum := sum_lens (ts.map List.flatten) 10000 (by
    intro x hx
    obtain ⟨t, ht, rfl⟩ := List.mem_map.mp hx
    exact hfl t ht)
  rw [List.length_map] at hsum
  refine Calls.spliced_nil (wpAny_mono (wpAny_toks (mt_join [] s2 _ H2 (.str "") [.ref D0] _ [.ref D0] (fun v H3 => v = .str (sOf (ts.map List.flatten).flatten) ∧ H3 = H2) I2 ⟨_, rfl⟩ (.cons rfl .nil) ?_)) ?_ fun _ _ z => z.2)
  · refine ⟨_, D0, (ts.map List.flatten).map sOf, rfl, rfl, .inl (SqL.of (by rw [hD0]; simp [tS, vS])), by rw [hem]; omega, ?_⟩
    rw [join_empty]
    exact ⟨rfl, rfl⟩
  rintro u s3 ⟨k3, wv, H3, I3, r3, e1, e2⟩
  subst e1
  rw [e2] at I3
  refine wpAny_mono (wpAny_toks (store_ok I3 sc.nd (i := 2) rfl (Or.inr rfl) r3 (Q := fun _ s4 => L2.Inv _ [] _ H2 s4) (fun s4 I4 => I4) (Or.inl rfl))) ?_ fun _ _ z => z.2
  rintro _ s4 ⟨k4, I4⟩
  have lo4 : s.toks + 1 ≤ s4.toks := by omega
  clear k2 k3 k4 I3 r3 I2
  -- return [..][:6]
  show wpAny _ _ (execs _ _) _ _ _
  refine wpAny_execs_cons (wpAny_Return_some (Subscript_ (lc_raw (iy := 3) rfl sc.nd I4 (blkOk_by (N := ["texts", "text", "written", "letter"]) (sc := defScope s_letters_of) (by decide +kernel)) (by decide +kernel) (fun _ => rfl) ?_)))
  have ALs : (Str.ofString "abcdefghijklmnopqrstuvwxyz").cps = ((List.range 26).map fun k => 97 + k).toArray := ALPH
  refine ld_glob I4 rfl c_ALPHABET (wpAny_pyIter_ascii (by decide +kernel) ?_) rfl
  have up5 : ∀ b o, s4.heap.get? b = some o → (s4.heap.push { cls := .type "str_ascii_iterator", data := .fields #[.str "abcdefghijklmnopqrstuvwxyz" tA, .int 0 0] }).get? b = some o := fun b o e => Heap.get?_push_of_some _ e
  refine ⟨s4.heap.objs.size, _, _, _, _, H2, rfl, CK.kept (Nat.le_refl _) up5, I4.kept (t' := s4.toks) up5, rw_str (x := "abcdefghijklmnopqrstuvwxyz") (t := tA) (I4.ok.hd rfl), ⟨_, Heap.get?_push_size _ rfl, rfl, rfl⟩, I4.fpOk (Nat.le_refl _) (I4.hok.fresh (Nat.le_refl _)), by rw [Heap.size_push]; exact Nat.lt_succ_self _, fun D hD => ?_⟩
  have hD0' := s02.free hD
  refine ⟨fun i s' H' => Same H H' ∧ H' D = some (.lst (lV ((Vasedf.alphabet.take i).filter fun c => ts.any fun t => t.any fun x => x.contains c))) ∧
    (∃ (its : List Value) (n : Nat), s'.heap.get? D = some { cls := .type "list", data := .seq its.toArray n } ∧ Vals (lV ((Vasedf.alphabet.take i).filter fun c => ts.any fun t => t.any fun x => x.contains c)) its ∧ ∀ v ∈ its, Yng (s.toks + 1) s'.toks v) ∧ s.toks + 1 ≤ s'.toks, ?_, fun _ _ _ _ _ => trivial, ?_, ?_⟩
  · intro s6 k6 g6
    have k6 : s4.toks ≤ s6.toks := k6
    exact ⟨Same.put s02 hD0', upd_same, ⟨[], 0, g6, .nil, fun v hv => by simp at hv⟩, by omega⟩
  · rintro i s5 H5 u k1 hi ok5 ⟨sm, hD5, ⟨its, n, g5, rv, yg⟩, lo5⟩ ⟨c, hcx, rfl, rfl⟩ _
    refine ⟨.str ⟨#[c]⟩, ⟨_, rfl⟩, ?_⟩
    intro s3 H3 C cl s9 pinsB t9 keep9 nit nC hcl cell9 I9 h9
    have nDi : D ≠ s4.heap.objs.size := ne_of_none hD5 nit
    have nDC : D ≠ C := ne_of_none hD5 nC
    have g9 := keep9 D _ nDi nDC g5
    rw [ALs] at hcx hi
    have hi26 : i < 26 := by simpa using hi
    obtain ⟨g1, g2, g3⟩ := alph_get i hi26
    have ec : c = 97 + i := by
      have : (((List.range 26).map fun k => 97 + k).toArray)[i]? = some (97 + i) := by simp [hi26]
      rw [this] at hcx
      exact (Option.some.inj hcx).symm
    subst ec
    have est := stands ts (UInt8.ofNat (97 + i))
    rw [g3] at est
    have hbound := List.length_filter_le (fun c => ts.any fun t => t.any fun x => x.contains c) (Vasedf.alphabet.take i)
    rw [List.length_take] at hbound
    have t9 : s5.toks + 1 ≤ s9.toks := t9
    have yg9 : ∀ v ∈ its, Yng (s.toks + 1) s9.toks v := fun v hv => (yg v hv).up (by omega)
    refine wpAny_tests_one (wpAny_isTrue_Compare1 (has_name (i := 3) rfl I9.ok.kind h9 fun u hu => ?_) rfl)
    subst hu
    refine raw_name (i := 2) rfl (by first | exact .inl rfl | exact .inr (.inl rfl) | exact .inr (.inr rfl)) I9 rfl fun u ru => ?_
    obtain ⟨t2, rfl⟩ := ru
    refine PyProof.Rows.in_str (wpAny_truthy_bool ?_)
    rw [PySem.StrLaws.found_one, est]
    by_cases cc : (ts.any fun t => t.any fun x => x.contains (UInt8.ofNat (97 + i))) = true
    · rw [if_pos cc]
      refine has_name (i := 3) rfl I9.ok.kind h9 fun u hu => ?_
      subst hu
      have ap := fun (Q : Value → Shared → Prop) (h : _) => app_raw (Q := Q) (E := fun _ _ => False) I9 hD5 g9 rv (y := .str ⟨#[97 + i]⟩) (v := .str ⟨#[97 + i]⟩ s5.toks) ⟨_, rfl⟩ (smallLt (m := 100) (by rw [tS_len, List.length_map]; omega)) h
      refine ap _ fun s12 k12 I12 g12 => ?_
      have e12 : lV ((Vasedf.alphabet.take i).filter fun c => ts.any fun t => t.any fun x => x.contains c) ++ [V.str ⟨#[97 + i]⟩] = lV ((Vasedf.alphabet.take (i + 1)).filter fun c => ts.any fun t => t.any fun x => x.contains c) := by
        rw [take_more g1, List.filter_append, List.filter_cons, if_pos cc, ← g2]
        show _ = tS (List.map (fun c => [c]) (_ ++ [_]))
        rw [List.map_append, tS_app]
        rfl
      rw [e12] at I12
      refine ⟨_, I12, Same.put sm hD0', upd_same, ⟨its ++ [_], n + 1, g12, ?_, ?_⟩, by rw [k12]; omega⟩
      · rw [← e12]
        exact rv.append (.cons ⟨_, rfl⟩ .nil)
      · intro v hv
        rw [k12]
        rcases List.mem_append.mp hv with hv | hv
        · exact yg9 v hv
        · rw [List.mem_singleton.mp hv]
          exact ⟨_, _, rfl, lo5, by omega⟩
    · rw [if_neg cc]
      have e10 : ((Vasedf.alphabet.take (i + 1)).filter fun c => ts.any fun t => t.any fun x => x.contains c) = (Vasedf.alphabet.take i).filter fun c => ts.any fun t => t.any fun x => x.contains c := by
        rw [take_more g1, List.filter_append, List.filter_cons, if_neg cc]
        simp
      refine ⟨H5, I9, sm, by rw [e10]; exact hD5, ⟨its, n, g9, by rw [e10]; exact rv, yg9⟩, by omega⟩
  · rintro C s5 H5 s7 ⟨sm, hD5, ⟨its, n, g5, rv, yg⟩, lo5⟩ keep7 t7 nit nC I7 _
    have g7 := keep7 D _ (ne_of_none hD5 nit) (ne_of_none hD5 nC) g5
    rw [ALs] at hD5 rv
    rw [show Vasedf.alphabet.take (((List.range 26).map fun k => 97 + k).toArray).size = Vasedf.alphabet by decide +kernel] at hD5 rv
    have I8 := iv_freeze I7 hD5 g7 rv
    have hDf : upd H5 D (.frz { cls := .type "list", data := .seq its.toArray n } (.lst (lV (Vasedf.alphabet.filter fun c => ts.any fun t => t.any fun x => x.contains c)))) D = some (.frz { cls := .type "list", data := .seq its.toArray n } (.lst (lV (Vasedf.alphabet.filter fun c => ts.any fun t => t.any fun x => x.contains c)))) := upd_same
    have smf : Same H (upd H5 D (.frz { cls := .type "list", data := .seq its.toArray n } (.lst (lV (Vasedf.alphabet.filter fun c => ts.any fun t => t.any fun x => x.contains c))))) := Same.put sm hD0'
    generalize upd H5 D (.frz { cls := .type "list", data := .seq its.toArray n } (.lst (lV (Vasedf.alphabet.filter fun c => ts.any fun t => t.any fun x => x.contains c)))) = Hf at I8 hDf smf
    refine wpAny_Slice (wpAny_mono (wpAny_toks (po_none.run [] s7 _ Hf (fun o H' => o = none ∧ H' = Hf) I8 ⟨rfl, rfl⟩)) ?_ fun _ _ z => z.2)
    rintro vl s8 ⟨k8, l, H8, I9, pl, rfl, rfl⟩
    refine wpAny_mono (wpAny_toks ((show PO (cxOf CX0 P w K mg base ["texts", "text", "written", "letter"] "letters_of" (defScope s_letters_of) (He.ga K "letters_of") cdv A outer s H E) _ _ from po_some (pe_glob (x := "LETTERS_AT_MOST_family") (v := .int (6)) rfl c_LETTERS_AT_MOST_family ⟨_, rfl⟩)).run [] s8 _ H8 (fun o H' => o = some 6 ∧ H' = H8) I9 ⟨6, rfl, rfl, rfl⟩)) ?_ fun _ _ z => z.2
    rintro vu s10 ⟨k10, l2, H10, I10, pu, rfl, e10⟩
    rw [e10] at I10
    have k7 : s5.toks ≤ s10.toks := Nat.le_trans t7 (Nat.le_trans k8 k10)
    rw [evalPart_none]
    refine wpAny_pure ?_
    have I11 := I10.kept (t' := s10.toks) (h' := s10.heap.push { cls := .type "slice", data := .fields #[vl, vu, .none] }) fun b ob q => Heap.get?_push_of_some _ q
    have gL : ({ s10 with heap := s10.heap.push { cls := .type "slice", data := .fields #[vl, vu, .none] } } : Shared).heap.get? D = some { cls := .type "list", data := .seq its.toArray n } := (I11.hok D _ hDf).1
    have hIs : ({ s10 with heap := s10.heap.push { cls := .type "slice", data := .fields #[vl, vu, .none] } } : Shared).heap.IsList D its.toArray := ⟨_, gL, rfl, n, rfl⟩
    have hlen := rv.length
    have h26 : its.length ≤ 26 := by
      rw [← hlen, tS_len, List.length_map]
      exact List.length_filter_le _ _
    refine tail_any (s := { s10 with heap := s10.heap.push { cls := .type "slice", data := .fields #[vl, vu, .none] } }) (ops := [.ref s10.heap.objs.size, .ref D]) hIs.typeIs slot_list_getitem.lookup (wpAny_getItem_list_slice hIs (Heap.IsSliceOf.new ..) pl pu .none (by simp) ?_ (by rw [List.size_toArray]; exact small (m := 26) h26)) (by with_unfolding_all rfl)
    rw [slicePick_cut]
    have nq := I11.hok.fresh (Nat.le_refl _)
    have ecut : cutV (lV (Vasedf.alphabet.filter fun c => ts.any fun t => t.any fun x => x.contains c)) none (some 6) = lV (lettersIn ts) := by
      have e := cutV_take (lV (Vasedf.alphabet.filter fun c => ts.any fun t => t.any fun x => x.contains c)) 6
      rw [show (some (6 : Int)) = some ((6 : Nat) : Int) from rfl, e]
      simp [tS, lettersIn, Vasedf.FEW]
    have rq : Vals (lV (lettersIn ts)) ((its.drop (HT.sIx its.length 0 none)).take (HT.sIx its.length its.length (some 6) - HT.sIx its.length 0 none)) := by
      rw [← ecut, ← hlen]
      exact (rv.drop _).take _
    have hl6 := rq.length
    have hq6 : (lV (lettersIn ts)).length ≤ sizeLine := by
      rw [hl6, List.length_take, List.length_drop]
      exact small (m := 26) (by omega)
    refine ⟨_, upd H8 _ (.frz { cls := .type "list", data := .seq ((its.drop (HT.sIx its.length 0 none)).take (HT.sIx its.length its.length (some 6) - HT.sIx its.length 0 none)).toArray } (.lst (lV (lettersIn ts)))), I11.laid (t' := s10.toks) (fun b ob q => Heap.get?_push_of_some _ q) (Nat.le_refl _) ⟨Heap.get?_push_size _ rfl, hq6, _, 0, rq, Heap.get?_push_size _ rfl⟩,
      kq _ _ _ (smf.free nq) (Same.put smf (smf.free nq)) ⟨_, 0, upd_same, rq, fun v hv => (yg v (List.mem_of_mem_drop (List.mem_of_mem_take hv))).up k7⟩⟩
end
end Ls
set_option Elab.async false
set_option linter.all false
set_option maxRecDepth 100000
set_option maxHeartbeats 4000000
/-! tokens: the class Token, its instances with their exact texts -/
namespace Ls
open PySem PySem.Spec PyProof.Rows L2
/-- what the dict at d holds under f -/
def HasD (d : Addr) (f : Str) (φ : Value → Prop) (s : Shared) : Prop := ∃ m u, s.heap.Ns1 d m ∧ m f = some u ∧ φ u
/-- a token's instance: its text by its own token -/
def TokAt (K : PySem.W.Frag) (H : Hp) (p : Addr) (z : Str) (t : Tok) (k : Int) : Prop := ∃ (dx : Addr) (dob : Obj) (es : Array DictEntry) (ep : Nat), H p = some (.frz (PySem.W.instObj (He.ga K "Token") dx) (.own p)) ∧ dx ≠ p ∧
  H dx = some (.frz dob (.xd [("told", .str z), ("place", .int k)])) ∧ dob.data = .dict es ep ∧ nsFind es "told" = some (.str z t)
theorem TokAt.mono {K : PySem.W.Frag} {H H' : Hp} {p : Addr} {z : Str} {t : Tok} {k : Int} (h : TokAt K H p z t k) (s : ∀ b o u, H b = some (.frz o u) → H' b = some (.frz o u)) : TokAt K H' p z t k := by
  obtain ⟨dx, dob, es, ep, h1, h2, h3, h4⟩ := h
  exact ⟨dx, dob, es, ep, s _ _ _ h1, h2, s _ _ _ h3, h4⟩
section
variable {X : Cx} {pins : List (Addr × Obj)} {σ : L2.St} {H : Hp} {s : Shared} {A : Around} {E : Value → Shared → Prop}
theorem setattr_raw {a C dx : Addr} {fs : List (Str × V)} {f : Str} {y : V} {u : Value} {Q : Unit → Shared → Prop} (I : Inv X pins σ H s) (e : H a = some (.ins C dx fs)) (c : Cls X.K C) (n : NoAttr X.K C f) (hl : fs.length < 1000) (ry : RelV y u)
    (q : ∀ s1, Inv X pins σ (upd H a (.ins C dx (putF f y fs))) s1 → LK X s s1 → HasD dx f (· = u) s1 → (∀ g φ, g ≠ f → HasD dx g φ s → HasD dx g φ s1) → Q () s1) : wpAny (model X.prog X.w) A (setAttr (.ref a) f u) Q E s := by
  obtain ⟨mA, O, r, wi, _, ho⟩ := ins_get I.hok e
  have hdL : dx ≠ X.env.locals := fun z => by
    have h1 := I.free
    rw [← z, ho] at h1
    cases h1
  refine set_map I.kIn O c.sa c.po n.taker c.hd wi (by rw [List.length_map, sizeLine_eq]; omega) ?_
  intro h' O' sb
  have hd : ∃ o, h'.get? dx = some o := by
    obtain ⟨o, _, _, e', _⟩ := O'.ns
    exact ⟨o, e'⟩
  have J : Inv X pins σ (upd H a (.ins C dx (putF f y fs))) { s with heap := h', toks := s.toks + 2 } := by
    refine I.write (x := a) (e := dx) (by rw [e]; exact True.intro) (.inr ho) (fun b q hb z => by rw [sb.2 b hb]; exact z) hd ?_
    refine ⟨by rw [upd_ne O.ne]; exact ho, ?_, O.ne, O'.obj, _, O'.ns, ?_, ?_⟩
    · have h1 := length_putF f y fs
      omega
    · intro g
      show RelO ((putF f y fs).lookup g) (if g = f then some u else mA g)
      rw [lookup_putF]
      by_cases z : g = f
      · rw [if_pos z, if_pos z]
        exact ry
      · rw [if_neg z, if_neg z]
        exact r g
    · intro g hg
      by_cases z : g = f
      · rw [z]
        exact (keys_putF f y fs).1
      · refine (keys_putF f y fs).2 g (wi g fun w => hg ?_)
        show (if g = f then some u else mA g) = none
        rw [if_neg z]
        exact w
  refine q _ J ⟨by show s.toks ≤ s.toks + 2; omega, fun m hm => hm.sameBut sb (Ne.symm hdL)⟩ ⟨_, u, O'.ns, if_pos rfl, rfl⟩ ?_
  rintro g φ hg ⟨m, v, h1, h2, h3⟩
  refine ⟨_, v, O'.ns, ?_, h3⟩
  show (if g = f then some u else mA g) = some v
  rw [if_neg hg, ns_same O.ns.ns h1.ns g]
  exact h2
/-- where tracking is told anew, of instances -/
theorem retrack {H' : Hp} (I : Inv X pins σ H s) (old : ∀ b, H' b = H b ∨ (∃ C d fs, H b = some (.ins C d fs)) ∨ ∃ y, H b = some (.own y)) (hok : HOk X.prog X.w H' s.heap) : Inv X pins σ H' s := by
  have none_of : ∀ b, H b = none → H' b = none := fun b e => by
    obtain z | ⟨_, _, _, z⟩ | ⟨_, z⟩ := old b
    · rw [z]; exact e
    · rw [z] at e; cases e
    · rw [z] at e; cases e
  constructor
  · exact I.ok
  · exact I.os
  · exact I.bare
  · constructor
    · exact I.base.keep
    · exact I.base.slot
    · intro b o e n hx
      exact none_of b (I.base.free b o e n hx)
    · exact I.base.there
    · intro b xs e
      have h1 := I.base.tups b xs e
      obtain z | ⟨_, _, _, z⟩ | ⟨_, z⟩ := old b
      · rw [z]; exact h1
      · rw [z] at h1; cases h1
      · rw [z] at h1; cases h1
    · intro b o u e
      have h1 := I.base.frzs b o u e
      obtain z | ⟨_, _, _, z⟩ | ⟨_, z⟩ := old b
      · rw [z]; exact h1
      · rw [z] at h1; cases h1
      · rw [z] at h1; cases h1
    · intro b ps e
      obtain ⟨more, h1⟩ := I.base.tbls b ps e
      obtain z | ⟨_, _, _, z⟩ | ⟨_, z⟩ := old b
      · exact ⟨more, by rw [z]; exact h1⟩
      · rw [z] at h1; cases h1
      · rw [z] at h1; cases h1
  · exact I.loc
  · exact I.cell
  · exact none_of _ I.free
  · intro x c e
    exact none_of _ (I.freeC x c e)
  · intro p hp
    obtain ⟨e, n, ne, nf, d⟩ := I.pin p hp
    exact ⟨e, none_of _ n, ne, nf, d⟩
  · exact hok
  · exact I.len
/-- a token's instance is known from here on -/
theorem tok_known {p dx : Addr} {z : Str} {t : Tok} {k : Int} (I : Inv X pins σ H s) (hp : H p = some (.ins (He.ga X.K "Token") dx [("told", .str z), ("place", .int k)])) (hd : HasD dx "told" (· = Value.str z t) s) :
    ∃ H', Inv X pins σ H' s ∧ TokAt X.K H' p z t k ∧ (∀ b, b ≠ p → b ≠ dx → H' b = H b) := by
  obtain ⟨hdx, _, ne, hob, mA, n1, r, _⟩ := (show ObjOk X.prog X.w H s.heap p (.ins _ dx _) from I.hok p _ hp)
  obtain ⟨m, u, n2, hu, rfl⟩ := hd
  obtain ⟨dob, es, ep, e1, e2, e3, e4, e5⟩ := id n2
  refine ⟨upd (upd H dx (.frz dob (.xd [("told", .str z), ("place", .int k)]))) p (.frz (PySem.W.instObj (He.ga X.K "Token") dx) (.own p)), retrack I ?_ ?_, ⟨dx, dob, es, ep, upd_same, ne, ?_, e2, ?_⟩, ?_⟩
  · intro b
    by_cases hb : b = p
    · subst hb
      exact .inr (.inl ⟨_, _, _, hp⟩)
    · by_cases hb2 : b = dx
      · subst hb2
        exact .inr (.inr ⟨_, hdx⟩)
      · exact .inl (by rw [upd_ne hb, upd_ne hb2])
  · intro b o e
    by_cases hb : b = p
    · subst hb
      rw [upd_same] at e
      cases e
      exact ⟨hob, _, hob⟩
    · rw [upd_ne hb] at e
      by_cases hb2 : b = dx
      · subst hb2
        rw [upd_same] at e
        cases e
        exact ⟨e1, mA, n1, r⟩
      · rw [upd_ne hb2] at e
        refine (I.hok b o e).stay (fun _ _ _ q => q) ?_ ?_
        · intro c q
          have hc : c ≠ dx := by
            intro z
            rw [z, hdx] at q
            injection q with q
            injection q with q
            exact hb q.symm
          have hc2 : c ≠ p := by
            intro z
            rw [z, hp] at q
            cases q
          rw [upd_ne hc2, upd_ne hc]
          exact q
        · intro c xs q
          have hc : c ≠ dx := by
            intro z
            rw [z, hdx] at q
            cases q
          have hc2 : c ≠ p := by
            intro z
            rw [z, hp] at q
            cases q
          rw [upd_ne hc2, upd_ne hc]
          exact q
  · rw [upd_ne ne]
    exact upd_same
  · rw [e5]
    exact hu
  · intro b h1 h2
    rw [upd_ne h1, upd_ne h2]
end
/-! ### Token(told, place) -/
def spTokInit (K : PySem.W.Frag) : SpW := fun vs us s H Q _ => ∃ (p dx : Addr) (z : Str) (t : Tok) (k : Int) (tk : Tok), vs = [.ref p, .str z, .int k] ∧ us = [.ref p, .str z t, .int k tk] ∧ H p = some (.ins (He.ga K "Token") dx []) ∧
  ∀ s1, HasD dx "told" (· = Value.str z t) s1 → Q .none s1 (upd H p (.ins (He.ga K "Token") dx [("told", .str z), ("place", .int k)]))
section
variable {P : Program} {w : World} {K : PySem.W.Frag} {mg : Str → Option Value} {base : Heap}
theorem sc_Token___init__ : FnScope ["self", "told", "place"] ["self", "told", "place"] (defScope s_Token___init__) := ⟨rfl, rfl, rfl, by decide +kernel, rfl, by decide +kernel, by decide +kernel⟩
theorem ok_Token_init (T : Txt K mg) : ∃ fd, FnW P w K mg base CX0 1 (He.ma K (He.ga K "Token") "__init__") fd ["self", "told", "place"] (spTokInit K) ∧ Binds K fd ["self", "told", "place"] [] := by
  obtain ⟨fd, F⟩ := T.f_Token___init__
  have sc := sc_Token___init__
  refine ⟨fd, fnW F sc (fun vs us s H Q E h => by obtain ⟨_, _, _, _, _, _, rfl, _⟩ := h; rfl) (fun cdv A outer s H vs us Q E s1 hr r h ht I hh => noxW ?_), F.bindsN (fun _ _ _ _ _ _ us hl => match us, hl with | [_, _, _], _ => rfl)⟩
  obtain ⟨p, dx, z, t, k, tk, rfl, rfl, hp, kq⟩ := h
  have I := I.wish fun _ _ => False
  have h1 := hh 1 "told" (.str z t) rfl rfl rfl
  have h1 : Has (Cx.nox (cxOf CX0 P w K mg base ["self", "told", "place"] "Token.__init__" (defScope s_Token___init__) (He.fAd K ("Token", some "__init__")) cdv A outer s H E)) 1 (· = .str z t) s1 := h1
  clear hh r
  show wpAny (model P w) (Cx.nox (cxOf CX0 P w K mg base ["self", "told", "place"] "Token.__init__" (defScope s_Token___init__) (He.fAd K ("Token", some "__init__")) cdv A outer s H E)).A
    (execs (defBody s_Token___init__) (Cx.nox (cxOf CX0 P w K mg base ["self", "told", "place"] "Token.__init__" (defScope s_Token___init__) (He.fAd K ("Token", some "__init__")) cdv A outer s H E)).env) _ _ _
  refine wpAny_execs_cons (plainObj_wpAny_Assign_Attribute (has_name (i := 1) rfl I.ok.kind h1 ?_) (by rfl))
  rintro u rfl
  refine raw_name (i := 0) rfl (.inl rfl) I rfl ?_
  rintro _ rfl
  refine setattr_raw (y := .str z) I hp T.c_Token T.n_Token_told (by show 0 < 1000; decide) ⟨_, rfl⟩ ?_
  intro s2 I2 k2 d2 _
  refine wpAny_execs_cons (plainObj_wpAny_Assign_Attribute (raw_name (i := 2) rfl (.inl rfl) I2 rfl ?_) (by rfl))
  rintro u ⟨tk2, rfl⟩
  refine raw_name (i := 0) rfl (.inl rfl) I2 rfl ?_
  rintro _ rfl
  refine setattr_raw (y := .int k) I2 upd_same T.c_Token T.n_Token_place (by show 1 < 1000; decide) ⟨_, rfl⟩ ?_
  intro s3 I3 k3 _ d3
  refine wpAny_execs_nil ⟨_, _, I3, ?_⟩
  have e : upd (upd H p (.ins (He.ga K "Token") dx (putF "told" (.str z) []))) p (.ins (He.ga K "Token") dx (putF "place" (.int k) (putF "told" (.str z) []))) = upd H p (.ins (He.ga K "Token") dx [("told", .str z), ("place", .int k)]) := by rw [upd_upd]; rfl
  have kq := kq s3 (d3 _ _ (by decide) d2)
  rw [← e] at kq
  exact kq
end
section
variable {X : Cx} {pins : List (Addr × Obj)} {σ : L2.St} {H : Hp} {s : Shared}
theorem crw_ret {CX : CXT} {outer : List Env} {P : Program} {w : World} {H : Hp} {s s1 : Shared} {Q : WK} {E : XK} {u : Value} (h : CRW CX outer P w H s Q E (.ok (.ret u)) s1) : CEW outer P w H s Q u s1 := h
/-- Token(z, k), by values -/
theorem make_tok {z : Str} {t tk : Tok} {k : Int} {Q : Value → Shared → Prop} (T : Txt X.K X.mg) (hr : Room 2 X.A) (I : Inv X pins σ H s)
    (q : ∀ p s1 H1, LK X s s1 → Inv X pins σ H1 s1 → H p = none → Same H H1 → TokAt X.K H1 p z t k → Q (.ref p) s1) : wpAny (model X.prog X.w) X.A (call (.ref (He.ga X.K "Token")) [.str z t, .int k tk]) Q X.xe s := by
  obtain ⟨fd, F, hb⟩ := ok_Token_init (P := X.prog) (w := X.w) (base := X.base) T
  have M := T.m_Token
  have I2 := Inv.made (C := He.ga X.K "Token") I
  have hp : H (s.heap.objs.size + 1) = none := I.hok.fresh (Nat.le_succ _)
  have hd : H s.heap.objs.size = none := I.hok.fresh (Nat.le_refl _)
  have ne : s.heap.objs.size ≠ s.heap.objs.size + 1 := Nat.ne_of_lt (Nat.lt_succ_self _)
  have k0 : LK X s { s with heap := (s.heap.push PySem.W.emptyDict).push (PySem.W.instObj (He.ga X.K "Token") s.heap.objs.size) } := by
    refine ⟨Nat.le_refl _, ?_⟩
    rintro m ⟨o, es, ep, e, r⟩
    exact ⟨o, es, ep, Heap.get?_push_of_some _ (Heap.get?_push_of_some _ e), r⟩
  have r2 : Vals [V.ref (s.heap.objs.size + 1), .str z, .int k] [Value.ref (s.heap.objs.size + 1), .str z t, .int k tk] := .cons rfl (.cons ⟨_, rfl⟩ (.cons ⟨_, rfl⟩ .nil))
  refine wpAny_call (make_map I.kIn M.makes M.init (beq_iff_eq.mp M.fn) (codeAny_mono (F.go _ X.stack _ _ ⟨[Value.ref (s.heap.objs.size + 1), .str z t, .int k tk], []⟩ [Value.ref (s.heap.objs.size + 1), .str z t, .int k tk] _
    (fun u s1 H1 => u = .none ∧ HasD s.heap.objs.size "told" (· = Value.str z t) s1 ∧ H1 = upd (upd (upd H s.heap.objs.size (.own (s.heap.objs.size + 1))) (s.heap.objs.size + 1) (.ins (He.ga X.K "Token") s.heap.objs.size [])) (s.heap.objs.size + 1) (.ins (He.ga X.K "Token") s.heap.objs.size [("told", .str z), ("place", .int k)]))
    E0 (hr.make (He.ga X.K "Token") [.str z t, .int k tk] []) (I2.env0.make (He.ga X.K "Token") [.str z t, .int k tk] []) (hb _ _ I2.kIn rfl) r2 ⟨_, _, _, _, _, _, rfl, rfl, upd_same, fun s1 hd => ⟨rfl, hd, rfl⟩⟩) ?_))
  rintro (e | (_ | _ | _ | u)) s1 hq
  · exact pass0 pins σ _ _ e s1 I2 hq
  · exact hq.elim
  · exact hq.elim
  · exact hq.elim
  · have hq := crw_ret hq
    obtain ⟨k1, H1, I3, rfl, h1, rfl⟩ := afterW I2 hq
    refine ⟨rfl, ?_⟩
    rw [upd_upd] at I3
    obtain ⟨H4, I4, ta, hk⟩ := tok_known (t := t) I3 upd_same h1
    refine q _ _ H4 (k0.trans k1) I4 hp ?_ ta
    intro b o e
    have h3 : b ≠ s.heap.objs.size + 1 := ne_of_none e hp
    have h4 : b ≠ s.heap.objs.size := ne_of_none e hd
    rw [hk b h3 h4, upd_ne h3, upd_ne h4]
    exact e
/-- e.told, e.place of a token -/
def tTold (K : PySem.W.Frag) (ta : TE) : TE := fun σ H Q => ta σ H fun x H1 => ∃ p z t k, x = .ref p ∧ TokAt K H1 p z t k ∧ Q (.str z) H1
def tTplace (K : PySem.W.Frag) (ta : TE) : TE := fun σ H Q => ta σ H fun x H1 => ∃ p z t k, x = .ref p ∧ TokAt K H1 p z t k ∧ Q (.int k) H1
theorem tok_ns {p : Addr} {z : Str} {t : Tok} {k : Int} (I : Inv X pins σ H s) (h : TokAt X.K H p z t k) : ∃ dx mA, ObjM s.heap p dx (He.ga X.K "Token") mA ∧ mA "told" = some (.str z t) ∧ ∃ u, mA "place" = some u ∧ RelV (.int k) u := by
  obtain ⟨dx, dob, es, ep, h1, h2, h3, h4, h5⟩ := h
  obtain ⟨e1, _⟩ := I.hok p _ h1
  obtain ⟨e2, mA, n1, r⟩ := I.hok dx _ h3
  refine ⟨dx, mA, ⟨e1, n1, h2⟩, ?_, RelO.some_of (r "place")⟩
  obtain ⟨o, es', ep', g1, g2, _, _, g5⟩ := n1
  rw [e2] at g1; cases g1
  rw [h4] at g2
  injection g2 with g2 _
  subst g2
  rw [← g5]
  exact h5
/-- .. the text itself, and the state -/
theorem told_raw {p : Addr} {z : Str} {t : Tok} {k : Int} {A : Around} {E : Value → Shared → Prop} {Q : Value → Shared → Prop} (T : Txt X.K X.mg) (I : Inv X pins σ H s) (h : TokAt X.K H p z t k) (q : Q (.str z t) { s with toks := s.toks + 1 }) :
    wpAny (model X.prog X.w) A (getAttr (.ref p) "told" true) Q E s := by
  obtain ⟨dx, mA, O, h1, _⟩ := tok_ns I h
  exact get_map I.kIn O (T.c_Token.get _) T.c_Token.hd T.n_Token_told h1 rfl q
theorem pe_told {e : Expr} {pos : Pos} {ta : TE} {K : PySem.W.Frag} (hK : X.K = K) (T : Txt K X.mg) (he : PE X e ta) (hb : attributeBase e "told" X.env (eval e X.env) = eval e X.env := by rfl) : PE X (.Attribute e "told" pos) (tTold K ta) := by
  subst hK
  refine ⟨fun pins s σ H Q I h => attr_of hb (thn (he.run pins s σ H _ I h) ?_)⟩
  rintro u s1 ⟨x, H1, I1, rx, p, z, t, k, rfl, ht, q⟩
  obtain rfl : u = Value.ref p := rx
  exact told_raw T I1 ht ⟨.str z, H1, I1.tok _, ⟨_, rfl⟩, q⟩
theorem pe_tplace {e : Expr} {pos : Pos} {ta : TE} {K : PySem.W.Frag} (hK : X.K = K) (T : Txt K X.mg) (he : PE X e ta) (hb : attributeBase e "place" X.env (eval e X.env) = eval e X.env := by rfl) : PE X (.Attribute e "place" pos) (tTplace K ta) := by
  subst hK
  refine ⟨fun pins s σ H Q I h => attr_of hb (thn (he.run pins s σ H _ I h) ?_)⟩
  rintro u s1 ⟨x, H1, I1, rx, p, z, t, k, rfl, ht, q⟩
  obtain rfl : u = Value.ref p := rx
  obtain ⟨dx, mA, O, _, v, h1, rv⟩ := tok_ns I1 ht
  exact get_map I1.kIn O (T.c_Token.get _) T.c_Token.hd T.n_Token_place h1 (handed_of rv) ⟨.int k, H1, I1.tok _, rv, q⟩
end
end Ls
set_option Elab.async false
set_option linter.all false
set_option maxRecDepth 100000
set_option maxHeartbeats 4000000
/-! tokens: is_number; numbers told -/
namespace Ls
open PySem PySem.Spec PyProof.Rows L2
open VasedBase (isDigit decimal numberOf showNat)
/-! ### mathematics -/
theorem snocInd {α : Type} {p : List α → Prop} (h0 : p []) (h1 : ∀ y d, p y → p (y ++ [d])) (x : List α) : p x := by
  have h : ∀ l : List α, p l.reverse := by
    intro l
    induction l with
    | nil => exact h0
    | cons a l ih =>
      rw [List.reverse_cons]
      exact h1 _ _ ih
  have e := h x.reverse
  rwa [List.reverse_reverse] at e
theorem dec_snoc (y : Ln) (d : UInt8) : decimal (y ++ [d]) = 10 * decimal y + (d.toNat - 48) := by
  unfold decimal
  rw [List.foldl_append]
  rfl
theorem head_app {y : Ln} {z : Ln} (h : y ≠ []) : (y ++ z).head? = y.head? := by
  cases y with
  | nil => exact absurd rfl h
  | cons c r => rfl
def AllDig (x : Ln) : Prop := ∀ b ∈ x, isDigit b = true
theorem dig_of {b : UInt8} (h : isDigit b = true) : 48 ≤ b.toNat ∧ b.toNat ≤ 57 := of_decide_eq_true h
theorem dig_char : ∀ d : Nat, d < 10 → UInt8.ofNat (Nat.digitChar d).toNat = UInt8.ofNat (48 + d) := by decide
theorem dig_byte {b : UInt8} (h : isDigit b = true) : UInt8.ofNat (Nat.digitChar (b.toNat - 48)).toNat = b := by
  obtain ⟨h1, h2⟩ := dig_of h
  rw [dig_char _ (by omega), show 48 + (b.toNat - 48) = b.toNat by omega]
  exact UInt8.ofNat_toNat
theorem show_one {d : Nat} (h : d < 10) : showNat d = [UInt8.ofNat (Nat.digitChar d).toNat] := by
  unfold showNat
  rw [Nat.toDigits_of_lt_base h]
  rfl
theorem show_more {m d : Nat} (hm : 0 < m) (h : d < 10) : showNat (10 * m + d) = showNat m ++ [UInt8.ofNat (Nat.digitChar d).toNat] := by
  unfold showNat
  rw [← Nat.toDigits_append_toDigits (by decide) hm h, List.map_append, Nat.toDigits_of_lt_base h]
  rfl
theorem dec_pos {x : Ln} (h : AllDig x) (b : UInt8) (hb : x.head? = some b) (h48 : b ≠ 48) : 0 < decimal x := by
  revert h hb
  refine snocInd (p := fun x => AllDig x → x.head? = some b → 0 < decimal x) ?_ ?_ x
  · intro _ hb
    cases hb
  · intro y d ih h hb
    rw [dec_snoc]
    by_cases hy : y = []
    · subst hy
      obtain rfl : d = b := by simpa using hb
      have h1 := dig_of (h d (by simp))
      have h2 : d.toNat ≠ 48 := fun e => h48 (UInt8.toNat_inj.mp e)
      omega
    · have h1 := ih (fun c hc => h c (List.mem_append_left _ hc)) (by rw [head_app hy] at hb; exact hb)
      omega
theorem show_dec {x : Ln} (h : AllDig x) (hne : x ≠ []) (hc : ¬ (1 < x.length ∧ x.head? = some 48)) : showNat (decimal x) = x := by
  revert h hne hc
  refine snocInd (p := fun x => AllDig x → x ≠ [] → ¬ (1 < x.length ∧ x.head? = some 48) → showNat (decimal x) = x) ?_ ?_ x
  · intro _ hne
    exact absurd rfl hne
  · intro y d ih h hne hc
    have hd := h d (by simp)
    have hdr := dig_of hd
    rw [dec_snoc]
    by_cases hy : y = []
    · subst hy
      show showNat (10 * 0 + (d.toNat - 48)) = [d]
      rw [Nat.mul_zero, Nat.zero_add, show_one (by omega), dig_byte hd]
    · have hly : 0 < y.length := List.length_pos_iff.mpr hy
      have h0 : ¬ y.head? = some 48 := fun e => hc ⟨by simp; omega, by rw [head_app hy]; exact e⟩
      have hyd : AllDig y := fun c hc => h c (List.mem_append_left _ hc)
      obtain ⟨b, hb⟩ : ∃ b, y.head? = some b := by
        cases y with
        | nil => exact absurd rfl hy
        | cons c r => exact ⟨c, rfl⟩
      have hp := dec_pos hyd b hb (fun e => h0 (by rw [hb, e]))
      rw [show_more hp (by omega), dig_byte hd, ih hyd hy (fun ⟨_, e⟩ => h0 e)]
theorem dec_lt {x : Ln} (h : AllDig x) : decimal x < 10 ^ x.length := by
  revert h
  refine snocInd (p := fun x => AllDig x → decimal x < 10 ^ x.length) ?_ ?_ x
  · intro _
    decide
  · intro y d ih h
    have hdr := dig_of (h d (by simp))
    have h1 := ih fun c hc => h c (List.mem_append_left _ hc)
    rw [dec_snoc, List.length_append]
    show _ < 10 ^ (y.length + 1)
    rw [Nat.pow_succ]
    omega
theorem dec_zero (y : Ln) : decimal (48 :: y) = decimal y := rfl
theorem show_len {n k : Nat} (hk : 0 < k) (h : n < 10 ^ k) : (showNat n).length ≤ k := by
  induction k generalizing n with
  | zero => omega
  | succ k ih =>
    by_cases h10 : n < 10
    · rw [show_one h10]
      simp
    · have e : n = 10 * (n / 10) + n % 10 := (Nat.div_add_mod n 10).symm
      have hp : 0 < n / 10 := by omega
      rw [e, show_more hp (by omega), List.length_append]
      have hk0 : 0 < k := by
        rcases Nat.eq_zero_or_pos k with z | z
        · subst z; simp at h; omega
        · exact z
      have hq : n / 10 < 10 ^ k := by
        rw [Nat.pow_succ] at h
        omega
      have := ih hk0 hq
      simp only [List.length_cons, List.length_nil]
      omega
theorem num_canon {x : Ln} (h : AllDig x) (hne : x ≠ []) : showNat (decimal x) = x ↔ ¬ (1 < x.length ∧ x.head? = some 48) := by
  refine ⟨fun e hc => ?_, show_dec h hne⟩
  obtain ⟨h1, h2⟩ := hc
  cases x with
  | nil => exact hne rfl
  | cons c y =>
    obtain rfl : c = 48 := by simpa using h2
    have h3 := dec_lt (x := y) fun c hc => h c (List.mem_cons_of_mem _ hc)
    have hl : 0 < y.length := by simp at h1; omega
    have h4 := show_len hl h3
    rw [dec_zero] at e
    rw [e] at h4
    simp at h4
    omega
theorem number_some {x : Ln} (h : AllDig x) : (numberOf x).isSome = (decide (1 ≤ x.length ∧ x.length ≤ 10) && (decide (decimal x ≤ 1000000000) && decide (showNat (decimal x) = x))) := by
  unfold numberOf
  by_cases h0 : x = []
  · subst h0
    rfl
  have hl : 1 ≤ x.length := List.length_pos_iff.mpr h0
  rw [decide_eq_decide.mpr (num_canon h h0)]
  by_cases h1 : x.length ≤ 10
  · by_cases h2 : 1 < x.length ∧ x.head? = some 48
    · rw [if_pos (.inr (.inr (.inl h2))), decide_eq_false (p := ¬ _) (fun z => z h2)]
      simp
    · by_cases h3 : decimal x ≤ 1000000000
      · rw [if_neg (by rintro (z | z | z | z); exact h0 z; omega; exact h2 z; exact absurd z (by show ¬ 1000000000 < _; omega)), decide_eq_true (p := ¬ _) h2, decide_eq_true h3, decide_eq_true ⟨hl, h1⟩]
        rfl
      · rw [if_pos (.inr (.inr (.inr (by show 1000000000 < _; omega)))), decide_eq_false h3]
        simp
  · rw [if_pos (.inr (.inl (by omega))), decide_eq_false (by omega)]
    rfl
theorem number_val {x : Ln} {n : Nat} (h : numberOf x = some n) : n = decimal x := by
  unfold numberOf at h
  split at h
  · cases h
  · exact (Option.some.inj h).symm
/-! texts of numbers -/
theorem sOf_show (n : Nat) : Str.ofString (toString ((n : Nat) : Int)) = sOf (showNat n) := by
  have e := PySem.W.KIN.signs_num n
  have e2 : (sOf (showNat n)).cps.toList = (Nat.toDigits 10 n).map Char.toNat := by
    unfold sOf showNat
    rw [List.toList_toArray, List.map_map]
    refine List.map_congr_left fun c hc => ?_
    have r := digit_range (Nat.isDigit_of_mem_toDigits (by decide) (by decide) hc)
    show (UInt8.ofNat c.toNat).toNat = c.toNat
    rw [UInt8.toNat_ofNat']
    omega
  exact ext_cps (e.trans e2.symm)
theorem dval_dec (x : Ln) : NumText.digitsVal (x.map UInt8.toNat) = decimal x := by
  refine snocInd (p := fun x : Ln => NumText.digitsVal (x.map UInt8.toNat) = decimal x) rfl ?_ x
  intro y d ih
  rw [dec_snoc, ← ih]
  unfold NumText.digitsVal
  rw [List.map_append, List.foldl_append]
  show _ * 10 + (d.toNat - 48) = _
  rw [Nat.mul_comm]
theorem int_text {x : Ln} (h : AllDig x) (hne : x ≠ []) (hl : x.length ≤ 4300) : PySem.intText? (sOf x) = some ((decimal x : Nat) : Int) := by
  have e := intText_digits (x := sOf x) (by
    intro c hc
    rw [sOf_cps] at hc
    obtain ⟨b, hb, rfl⟩ := List.mem_map.mp hc
    exact dig_of (h b hb)) (by
    rw [sOf_cps]
    intro z
    exact hne (List.map_eq_nil_iff.mp z)) (by rw [sOf_len]; exact hl)
  rw [sOf_cps, dval_dec] at e
  exact e
theorem log_small {n : Nat} (h : n < 10 ^ 10) : n.log2 < 1920 := by
  by_cases h0 : n = 0
  · subst h0; decide
  · rw [Nat.log2_lt h0]
    exact Nat.lt_of_lt_of_le h (by
      have : (10 : Nat) ^ 10 ≤ 2 ^ 40 := by decide
      exact Nat.le_trans this (Nat.pow_le_pow_right (by omega) (by omega)))
def spIsNumber : Sp := fun vs H Q _ => ∃ x : Ln, vs = [vS x] ∧ AllDig x ∧ x.length ≤ 10000 ∧ Q (.bl (numberOf x).isSome) H
section
variable {P : Program} {w : World} {K : PySem.W.Frag} {mg : Str → Option Value} {base : Heap}
theorem sc_is_number : FnScope ["digits"] ["digits"] (defScope s_is_number) := ⟨rfl, rfl, rfl, by decide +kernel, rfl, by decide +kernel, by decide +kernel⟩
theorem ok_is_number (T : Txt K mg) : DOk P w K mg base CX0 1 "is_number" spIsNumber := by
  obtain ⟨fd, F⟩ := T.f_is_number
  have sc := sc_is_number
  obtain ⟨_, c_GREATEST_NUMBER⟩ := T.v_GREATEST_NUMBER
  refine dok F T.g_is_number (fun _ _ _ _ _ _ us hl => match us, hl with | [_], _ => rfl) sc (fun vs H Q E h => by obtain ⟨_, rfl, _⟩ := h; rfl) (fun cdv A outer s H vs Q E hr h => ?_)
  refine ⟨_, PSs.nox (pss_cons (ps_if (pt_not (pt_chain op_le op_le pe_int (pe_callB call_len_str rfl T.b_len boot_len (pa_cons (pv 0) pa_nil)) (pe_callB call_len_str rfl T.b_len boot_len (pa_cons (pe_callTy call_str_int rfl T.b_str boot_str (pa_cons (pe_glob (v := .int (1000000000)) rfl c_GREATEST_NUMBER ⟨_, rfl⟩) pa_nil)) pa_nil))))
  (pss_one (ps_ret pe_bl))
  pss_nil)
  (pss_one (ps_ret (pe_and (pe_cmpR op_le (pe_callTy call_int_str rfl T.b_int (by decide +kernel) (pa_cons (pv 0) pa_nil)) (pe_glob (v := .int (1000000000)) rfl c_GREATEST_NUMBER ⟨_, rfl⟩) (nomark _)) (pe_one (pe_cmpR op_eq (pe_callTy call_str_int rfl T.b_str boot_str (pa_cons (pe_callTy call_int_str rfl T.b_int (by decide +kernel) (pa_cons (pv 0) pa_nil)) pa_nil)) (pv 0) (nomark _))))))), ?_⟩
  obtain ⟨x, rfl, hx, hl, kq⟩ := h
  rw [number_some hx] at kq
  have e10 : (Str.ofString (toString (1000000000 : Int))).length = 10 := by decide +kernel
  refine ⟨_, rfl, _, rfl, small (m := 10000) (by rw [sOf_len]; exact hl), _, _, rfl, rfl, _, rfl, ite2 (fun c1 => ?_) fun c1 => ?_⟩
  · have d1 : (1 : Int) ≤ ((sOf x).length : Nat) := of_decide_eq_true c1
    rw [sOf_len] at d1
    have hne : x ≠ [] := fun z => by
      subst z
      simp at d1
    refine ⟨_, rfl, by decide, _, rfl, small (m := 10) (by rw [e10]; decide), _, _, rfl, rfl, _, rfl, ?_⟩
    show if (!decide ((((sOf x).length : Nat) : Int) ≤ (((Str.ofString (toString (1000000000 : Int))).length : Nat) : Int))) = true then _ else _
    rw [e10, sOf_len]
    by_cases c2 : x.length ≤ 10
    · have e2 : decide (((x.length : Nat) : Int) ≤ ((10 : Nat) : Int)) = true := decide_eq_true (by omega)
      have e3 : decide (1 ≤ x.length ∧ x.length ≤ 10) = true := decide_eq_true ⟨by omega, c2⟩
      rw [e2, if_neg (by simp)]
      rw [e3, Bool.true_and] at kq
      have hit := int_text hx hne (by omega)
      have hlt := dec_lt hx
      have h10 : decimal x < 10 ^ 10 := Nat.lt_of_lt_of_le hlt (Nat.pow_le_pow_right (by decide) c2)
      refine ⟨_, rfl, _, _, rfl, hit, by rw [sOf_len]; omega, _, _, rfl, rfl, _, rfl, ?_⟩
      have e4 : decide (((decimal x : Nat) : Int) ≤ (1000000000 : Int)) = decide (decimal x ≤ 1000000000) := by
        apply decide_eq_decide.mpr
        omega
      rw [e4]
      cases c3 : decide (decimal x ≤ 1000000000)
      · rw [c3] at kq
        exact kq
      · rw [c3, Bool.true_and] at kq
        refine ⟨_, rfl, _, _, rfl, hit, by rw [sOf_len]; omega, _, rfl, log_small h10, _, rfl, rfl, ?_⟩
        rw [sOf_show]
        show Q (.bl (decide (V.str (sOf (showNat (decimal x))) = vS x))) H
        have e5 : decide (V.str (sOf (showNat (decimal x))) = vS x) = decide (showNat (decimal x) = x) := by
          apply decide_eq_decide.mpr
          exact ⟨fun e => sOf_inj (V.str.inj e), fun e => by rw [e]; rfl⟩
        rw [e5]
        exact kq
    · have e2 : decide (((x.length : Nat) : Int) ≤ ((10 : Nat) : Int)) = false := decide_eq_false (by omega)
      have e3 : decide (1 ≤ x.length ∧ x.length ≤ 10) = false := decide_eq_false (by omega)
      rw [e2, if_pos (show (!false) = true from rfl)]
      rw [e3] at kq
      exact kq
  · have d1 : ¬ (1 : Int) ≤ ((sOf x).length : Nat) := fun h => c1 (decide_eq_true h)
    rw [sOf_len] at d1
    have e3 : decide (1 ≤ x.length ∧ x.length ≤ 10) = false := decide_eq_false (by omega)
    rw [e3] at kq
    exact ⟨_, rfl, kq⟩
end
end Ls
set_option Elab.async false
set_option linter.all false
set_option maxRecDepth 100000
set_option maxHeartbeats 4000000
/-! Fault(code, place): made, raised, read -/
namespace Ls
open PySem PySem.Spec PyProof.Rows L2
theorem oexcB_ok {K : PySem.W.Frag} {C : Addr} (h : oexcB K C "ValueError.__new__" = true) : ∃ nm q N bs bm sn sub ab col dd k0 k1 k2 k3 k5, K.lookup C = some (excClassObj nm q C N bs bm true sn sub ab col dd k0 k1 k2 k3 k5 "ValueError.__new__") ∧ PySem.HandSPX.refsVE bm = true := by
  unfold oexcB at h
  split at h
  · rename_i o ho
    split at h
    · rename_i t cd hcls hdata
      split at h
      · rename_i C' bm k0 k1 k2 k3 n k5 hm hs
        obtain ⟨c1, h⟩ := He.ba h
        obtain ⟨c2, h⟩ := He.ba h
        obtain ⟨c3, h⟩ := He.ba h
        obtain ⟨c4, h⟩ := He.ba h
        obtain ⟨c5, c6⟩ := He.ba h
        obtain ⟨ocls, odict, odata, osl⟩ := o
        obtain ⟨nm, bs, mro, ns, qn, hd, sn, sub, ab, col, del⟩ := cd
        dsimp only at hcls hdata hm hs c4 c5
        subst hcls hdata hm
        have e1 := eq_of_beq c1
        have e2 := eq_of_beq c2
        have e3 := eq_of_beq c3
        subst e1 e2 e3
        have e4 : del = false := by simpa using c4
        subst e4
        have e5 : hd = true := c5
        subst e5
        have hsl : osl = #[k0, k1, k2, k3, some (.builtin "ValueError.__new__"), k5] := by
          obtain ⟨l⟩ := osl
          simp only at hs
          rw [hs]
        subst hsl
        exact ⟨nm, qn, ns, bs, bm, sn, sub, ab, col, odict, k0, k1, k2, k3, k5, ho, c6⟩
      · cases h
    · cases h
  · cases h
structure OexF (K : PySem.W.Frag) (x : Str) (fs : List Str) : Prop where
  o : OexC K (He.ga K x)
  xf : XfC K (He.ga K x)
  i : PySem.W.findIn K (.ref (He.ga K x)) "__init__" = some (some (.ref (He.ma K (He.ga K x) "__init__")))
  t : PySem.W.typeIn K (.ref (He.ma K (He.ga K x) "__init__")) = some (.type "function")
  f : ∀ f ∈ fs, PySem.W.findIn K (.ref (He.ga K x)) f = some none
theorem oexB_ok {K : PySem.W.Frag} {x : Str} {fs : List Str} (h : oexB K x fs = true) : OexF K x fs := by
  unfold oexB at h
  obtain ⟨c1, h⟩ := He.ba h
  obtain ⟨c2, h⟩ := He.ba h
  obtain ⟨c3, h⟩ := He.ba h
  obtain ⟨c4, h⟩ := He.ba h
  obtain ⟨c5, h⟩ := He.ba h
  obtain ⟨c6, h⟩ := He.ba h
  obtain ⟨c7, h⟩ := He.ba h
  obtain ⟨c8, c9⟩ := He.ba h
  refine ⟨⟨oexcB_ok c1, of_decide_eq_true c2, of_decide_eq_true c3, of_decide_eq_true c4, c5⟩, xfB_ok c6, of_decide_eq_true c7, of_decide_eq_true c8, ?_⟩
  intro f hf
  exact of_decide_eq_true (List.all_eq_true.mp c9 f hf)
/-- Fault.__init__(self, code, place) -/
def spFaultInit (K : PySem.W.Frag) : Sp := fun vs H Q _ => ∃ (a : Addr) (c k : V), vs = [.ref a, c, k] ∧ H a = some (exo a (He.ga K "Fault") none) ∧
  ∀ d, H d = none → d ≠ a → Q .non (upd (upd (upd H d (exd d [("code", c)])) a (exo a (He.ga K "Fault") (some d))) d (exd d [("place", k), ("code", c)]))
section
variable {P : Program} {w : World} {K : PySem.W.Frag} {mg : Str → Option Value} {base : Heap}
theorem sc_Fault___init__ : FnScope ["self", "code", "place"] ["self", "code", "place"] (defScope s_Fault___init__) := ⟨rfl, rfl, rfl, by decide +kernel, rfl, by decide +kernel, by decide +kernel⟩
theorem ok_Fault_init (T : Txt K mg) : ∃ fd, FnOk P w K mg base CX0 1 (He.ma K (He.ga K "Fault") "__init__") fd ["self", "code", "place"] (spFaultInit K) ∧ Binds K fd ["self", "code", "place"] [] := by
  obtain ⟨fd, F⟩ := T.f_Fault___init__
  have sc := sc_Fault___init__
  have O := oexB_ok T.x_Fault
  refine ⟨fd, F.ok sc (fun vs H Q E h => by obtain ⟨_, _, _, rfl, _⟩ := h; rfl) (fun cdv A outer s H vs Q E hr h => ?_), F.bindsN (fun _ _ _ _ _ _ us hl => match us, hl with | [_, _, _], _ => rfl)⟩
  refine ⟨_, PSs.nox (pss_cons (ps_ost (pv 0) (pv 1)) (pss_one (ps_ost (pv 0) (pv 2)))), ?_⟩
  obtain ⟨a, c, k, rfl, ha, kq⟩ := h
  refine ⟨_, rfl, _, rfl, a, _, rfl, O.o, O.f _ (by decide), .inl ⟨ha, fun d hd hne => ?_⟩⟩
  refine ⟨_, rfl, _, rfl, a, _, rfl, O.o, O.f _ (by decide), .inr ⟨d, [("code", c)], upd_same, ?_, by show 1 ≤ 900; decide, ?_⟩⟩
  · rw [upd_ne hne]
    exact upd_same
  · exact kq d hd hne
end
/-- Fault(code, place), made -/
theorem fault_in {K : PySem.W.Frag} {H : Hp} {Q : XK} {c k : V} (h : ∀ d, H d = none → Q (.ref (He.ga K "Fault")) (some d) (upd H d (.xd [("place", k), ("code", c)]))) :
    ([c, k] : List V).length ≤ 1000 ∧ ∀ a, H a = none → spFaultInit K (.ref a :: ([c, k] ++ [])) (upd H a (exo a (He.ga K "Fault") none))
      (fun v H2 => v = .non ∧ ∃ (d : Addr) (fs : List (Str × V)), H2 a = some (exo a (He.ga K "Fault") (some d)) ∧ H2 d = some (exd d fs) ∧ H d = none ∧ Q (.ref (He.ga K "Fault")) (some d) (upd (del H2 a) d (.xd fs))) (fun _ _ _ => False) := by
  refine ⟨by show 2 ≤ 1000; decide, fun a ha => ⟨a, c, k, rfl, upd_same, ?_⟩⟩
  intro d hd hne
  rw [upd_ne hne] at hd
  refine ⟨rfl, d, _, ?_, upd_same, hd, ?_⟩
  · rw [upd_ne (Ne.symm hne)]
    exact upd_same
  · refine cast (congrArg (Q _ _) ?_) (h d hd)
    funext b
    by_cases h1 : b = d
    · subst h1
      rw [upd_same, upd_same]
    · rw [upd_ne h1, upd_ne h1]
      by_cases h2 : b = a
      · subst h2
        rw [del_same]
        exact ha
      · rw [del_ne h2, upd_ne h1, upd_ne h2, upd_ne h1, upd_ne h2]
theorem pmk_fault {X : Cx} {K : PySem.W.Frag} {j : Nat} {p pos : Pos} {e : Expr} {es : List Expr} {ta : TA} (hK : X.K = K) (T : Txt K X.mg) (hr : Room j X.A) (hj : 2 ≤ j) (hg : Gl X "Fault") (ha : PA X (e :: es) ta)
    (he : starEach (e :: es) X.env = (false, eval e X.env) :: starEach es X.env := by rfl) (hpl : (backTo pos (starEach es X.env)).any (·.1) = false := by rfl) : PMk X (.Call (.Name "Fault" p) (e :: es) [] pos) (tMkO (He.ga K "Fault") (spFaultInit K) [] ta) := by
  subst hK
  obtain ⟨fd, F, hb⟩ := ok_Fault_init (P := X.prog) (w := X.w) (base := X.base) T
  have O := oexB_ok T.x_Fault
  exact pmk_oex O.o O.i O.t F (hr.mono hj) hb .nil (fun _ _ _ _ _ _ _ h => h.elim) hg T.g_Fault ha (by decide) he hpl
end Ls
set_option Elab.async false
set_option linter.all false
set_option maxRecDepth 100000
set_option maxHeartbeats 4000000
/-! tokens: token_at -/
namespace Ls
open PySem PySem.Spec PyProof.Rows L2
open VasedBase (isDigit isLetter decimal numberOf showNat)
abbrev VTok := VasedBase.Tok
/-- a token's signs -/
def toldOf : VTok → Ln
  | .name b => b
  | .num n => showNat n
  | .sign c => [UInt8.ofNat c]
  | .last => []
/-- a fault is let out -/
def Flt (K : PySem.W.Frag) (H : Hp) (E : XK) (c k : Nat) : Prop := ∀ H1 d, Same H H1 → H d = none → H1 d = some (.xd [("place", .int k), ("code", .int c)]) → E (.ref (He.ga K "Fault")) (some d) H1
theorem Flt.mono {K : PySem.W.Frag} {H H' : Hp} {E : XK} {c k : Nat} (h : Flt K H E c k) (s : Same H H') : Flt K H' E c k := fun H1 d s1 hd hx => h H1 d (s.trans s1) (s.free hd) hx
section
variable {X : Cx} {pins : List (Addr × Obj)} {σ : L2.St} {H : Hp} {s : Shared} {e e1 e2 : Expr} {es : List Expr} {te : TE} {t : TA} {p p0 pos : Pos} {x : Str} {j k : Nat}
/-- a call of a def whose result is told exactly -/
theorem pe_dW {CX : CXT} {sp : SpW} {Q : WK} {E : XK} {QQ : Value → Shared → Prop} (c : DOkW X.prog X.w X.K X.mg X.base CX k x sp) (hr : Room j X.A) (hk : k ≤ j) (hg : Gl X x) (hx : PassesAt CX X σ E) (ha : PA X (e :: es) t) (I : Inv X pins σ H s)
    (h : t σ H fun vs H1 => ∀ us s1, Vals vs us → s.toks ≤ s1.toks → sp vs us s1 H1 Q E) (q : ∀ u s1 H1, s.toks ≤ s1.toks → Inv X pins σ H1 s1 → Q u s1 H1 → QQ u s1)
    (hdb : (x == ("__debug__" : Str)) = false := by decide) (he : starEach (e :: es) X.env = (false, eval e X.env) :: starEach es X.env := by rfl) (hpl : (backTo pos (starEach es X.env)).any (·.1) = false := by rfl) :
    wpAny (model X.prog X.w) X.A (eval (.Call (.Name x p) (e :: es) [] pos) X.env) QQ X.xe s := by
  obtain ⟨f, fd, ps, F, hm, kp, b⟩ := c.ex
  refine wpAny_Call_Name_kw (ld_glob I hg hm ?_ hdb)
  refine PySem.W.callWith_K (h₀ := X.base) I.ok.mod.kin kp (wpAny_mono (wpAny_toks (ha.run pos pins s σ H _ I h)) ?_ fun _ _ z => z.2) he hpl
  rintro us s1 ⟨ht, vs, H1, I1, r, q1⟩
  refine ⟨I1.kIn, callW F (hr.mono hk) b hx I1 r (q1 us s1 r ht) ?_⟩
  intro u s2 H2 k2 I2 q2
  exact q u s2 H2 (Nat.le_trans ht k2.1) I2 q2
/-- .. of a plain def of one argument: the frame is kept -/
theorem pk_d {sp : Sp} (c : DOk X.prog X.w X.K X.mg X.base CX0 k x sp) (hr : Room j X.A) (hk : k ≤ j) (hg : Gl X x) (ha : PK X e te)
    (hdb : (x == ("__debug__" : Str)) = false := by decide) (he : starEach [e] X.env = [(false, eval e X.env)] := by rfl) (hpl : (backTo pos (starEach [] X.env)).any (·.1) = false := by rfl) : PK X (.Call (.Name x p) [e] [] pos) (tCall sp [] E0 (tCons te tNil)) := by
  obtain ⟨f, fd, ps, F, hm, kp, b⟩ := c.ex
  constructor
  intro pins s σ H Q I h
  refine wpAny_Call_Name_kw (ld_glob I hg hm ?_ hdb)
  refine PySem.W.callWith_K (h₀ := X.base) I.ok.mod.kin kp ?_ he hpl
  rw [he]
  show wpAny _ _ (spliced [(false, eval e X.env)]) _ _ _
  refine Calls.spliced_cons (thn (ha.go pins s σ H _ I h) ?_)
  rintro v s1 ⟨k1, y, H1, I1, r1, q1⟩
  refine Calls.spliced_nil ⟨I1.kIn, ?_⟩
  refine thn (call_keep (E := E0) F (hr.mono hk) b (fun _ _ _ _ _ _ h => h.elim) I1 (.cons r1 .nil) q1) ?_
  rintro u s2 ⟨k2, q2⟩
  exact ⟨k1.trans k2, q2⟩
theorem pkt_val (h : PK X e te) (he : ∀ whole, isTrue e X.env whole = (do let v ← whole; standAt e.pos; holding [v] (truthy v)) := by intro _; rfl) : PKT1 X e (tB te) := by
  constructor
  intro pins s σ H Q I hw
  refine isTrue_plain (thn (h.go pins s σ H _ I hw) ?_) (he _)
  rintro v s1 ⟨k1, y, H1, I1, r1, d, rfl, q⟩
  cases r1
  exact wpAny_truthy_bool ⟨k1, H1, I1, q⟩
/-- Token(e1, e2), evaluated -/
theorem tok_call {n : Nat} {z : Str} {i : Int} {Q : Value → Shared → Prop} (T : Txt X.K X.mg) (hr : Room j X.A) (hj : 2 ≤ j) (I : Inv X pins σ H s) (hg : Gl X "Token") (h1 : wpAny (model X.prog X.w) X.A (eval e1 X.env) (fun v s1 => ∃ t : Nat, v = .str z t ∧ n ≤ t ∧ t < s1.toks ∧ Inv X pins σ H s1) X.xe s)
    (h2 : ∀ s1, Inv X pins σ H s1 → wpAny (model X.prog X.w) X.A (eval e2 X.env) (fun v s2 => ∃ tk, v = .int i tk ∧ Inv X pins σ H s2) X.xe s1)
    (q : ∀ (p : Addr) (t : Nat) s1 H1, Inv X pins σ H1 s1 → s.toks ≤ s1.toks → H p = none → Same H H1 → n ≤ t → t < s1.toks → TokAt X.K H1 p z t i → Q (.ref p) s1)
    (he : starEach [e1, e2] X.env = (false, eval e1 X.env) :: starEach [e2] X.env := by rfl) (he2 : starEach [e2] X.env = [(false, eval e2 X.env)] := by rfl) (hpl : (backTo pos (starEach [e2] X.env)).any (·.1) = false := by rfl) :
    wpAny (model X.prog X.w) X.A (eval (.Call (.Name "Token" p0) [e1, e2] [] pos) X.env) Q X.xe s := by
  have M := T.m_Token
  refine wpAny_with_toks (n := s.toks) (Nat.le_refl _) ?_
  refine wpAny_mono (E := X.xe) (Q := fun v s1 => s.toks ≤ s1.toks → Q v s1) ?_ (fun _ _ z => z) (fun _ _ z _ => z)
  refine wpAny_Call_Name_kw (ld_glob I hg T.g_Token ?_ (by decide))
  refine PySem.W.callWith_K (h₀ := X.base) I.ok.mod.kin M.kp ?_ he hpl
  rw [he, he2]
  show wpAny _ _ (spliced [(false, eval e1 X.env), (false, eval e2 X.env)]) _ _ _
  refine Calls.spliced_cons (thn h1 ?_)
  rintro v s1 ⟨t, rfl, ht, hts, I1⟩
  refine Calls.spliced_cons (wpAny_mono (wpAny_toks (h2 s1 I1)) ?_ fun _ _ z => z.2)
  rintro v s2 ⟨k2, tk, rfl, I2⟩
  refine Calls.spliced_nil ⟨I2.kIn, ?_⟩
  refine make_tok T (hr.mono hj) I2 ?_
  intro p s3 H3 k3 I3 hp s3' ta
  have h5 := k3.1
  intro h6
  exact q p t s3 H3 I3 h6 hp s3' ht (Nat.lt_of_lt_of_le hts (Nat.le_trans k2 h5)) ta
/-- the last statement, which never returns -/
theorem lastW {st : Stmt} {tS : TS} {Q : WK} (h : PS X st tS) (I : Inv X [] σ H s) (q : tS { nx := fun _ _ => False, rt := fun _ _ => False } σ H) : wpAny (model X.prog X.w) X.A (execs [st] X.env) (BW X Q) X.xe s := by
  refine wpAny_execs_cons (thn (h.run [] s σ H _ I q) ?_)
  rintro (_ | _ | _ | v) s1 q1
  · obtain ⟨_, _, _, z⟩ := q1
    exact z.elim
  · obtain ⟨_, _, _, z⟩ := q1
    exact z.elim
  · obtain ⟨_, _, _, z⟩ := q1
    exact z.elim
  · obtain ⟨_, _, _, _, _, z⟩ := q1
    exact z.elim
/-- if c: a, then the rest -/
theorem ifW {c : Expr} {a rest : List Stmt} {tc : TT} {Q : WK} {N : Bool → Hp → Prop} (hc : PKT1 X c tc) (I : Inv X [] σ H s) (q : tc σ H N)
    (ha : ∀ s1 H1, LK X s s1 → Inv X [] σ H1 s1 → N true H1 → wpAny (model X.prog X.w) X.A (execs a X.env) (fun f s2 => BW X Q f s2 ∧ f ≠ .next) X.xe s1)
    (hn : ∀ s1 H1, LK X s s1 → Inv X [] σ H1 s1 → N false H1 → wpAny (model X.prog X.w) X.A (execs rest X.env) (BW X Q) X.xe s1) : wpAny (model X.prog X.w) X.A (execs (.If c a [] pos :: rest) X.env) (BW X Q) X.xe s := by
  refine wpAny_execs_cons (wpAny_If (thn (hc.go [] s σ H N I q) ?_))
  rintro (_ | _) s1 ⟨k1, H1, I1, q1⟩
  · rw [if_neg Bool.false_ne_true]
    exact wpAny_execs_nil (hn s1 H1 k1 I1 q1)
  · rw [if_pos rfl]
    refine thn (ha s1 H1 k1 I1 q1) ?_
    rintro (_ | _ | _ | v) s2 ⟨q2, hne⟩
    · exact absurd rfl hne
    · exact q2
    · exact q2
    · exact q2
theorem ifW' {c : Expr} {a rest : List Stmt} {tc : TT} {Q : WK} {N : Bool → Hp → Prop} (hc : PT X c tc) (I : Inv X [] σ H s) (q : tc σ H N)
    (ha : ∀ s1 H1, s.toks ≤ s1.toks → Inv X [] σ H1 s1 → N true H1 → wpAny (model X.prog X.w) X.A (execs a X.env) (fun f s2 => BW X Q f s2 ∧ f ≠ .next) X.xe s1)
    (hn : ∀ s1 H1, s.toks ≤ s1.toks → Inv X [] σ H1 s1 → N false H1 → wpAny (model X.prog X.w) X.A (execs rest X.env) (BW X Q) X.xe s1) : wpAny (model X.prog X.w) X.A (execs (.If c a [] pos :: rest) X.env) (BW X Q) X.xe s := by
  refine wpAny_execs_cons (wpAny_If (wpAny_mono (wpAny_toks (hc.run [] s σ H N I q)) ?_ fun _ _ z => z.2))
  rintro (_ | _) s1 ⟨k1, H1, I1, q1⟩
  · rw [if_neg Bool.false_ne_true]
    exact wpAny_execs_nil (hn s1 H1 k1 I1 q1)
  · rw [if_pos rfl]
    refine thn (ha s1 H1 k1 I1 q1) ?_
    rintro (_ | _ | _ | v) s2 ⟨q2, hne⟩
    · exact absurd rfl hne
    · exact q2
    · exact q2
    · exact q2
end
theorem kind_letter : isKind 26 97 = isLetter := by
  funext b
  unfold isKind isLetter
  exact decide_eq_decide.mpr ⟨fun h => by omega, fun h => by omega⟩
theorem kind_digit : isKind 10 48 = isDigit := by
  funext b
  unfold isKind isDigit
  exact decide_eq_decide.mpr ⟨fun h => by omega, fun h => by omega⟩
theorem take_imp {α : Type} {p : α → Bool} : ∀ {l : List α} {c : α}, c ∈ l.takeWhile p → p c = true
  | [], _, h => by cases h
  | d :: l, c, h => by
    rw [List.takeWhile_cons] at h
    split at h
    · rename_i hd
      obtain e | h := List.mem_cons.mp h
      · rw [e]; exact hd
      · exact take_imp h
    · cases h
theorem take_none {p : UInt8 → Bool} {b : UInt8} {r : Ln} (h : p b = false) : (b :: r).takeWhile p = [] := by
  rw [List.takeWhile_cons, h]
  rfl
theorem take_some {p : UInt8 → Bool} {b : UInt8} {r : Ln} (h : p b = true) : 1 ≤ ((b :: r).takeWhile p).length := by
  rw [List.takeWhile_cons, h]
  simp
theorem tok_code (b : UInt8) (r : Ln) : VasedBase.token (b :: r) = if b = 59 then some (.sign 59, 1) else
    if decide (1 ≤ ((b :: r).takeWhile isLetter).length ∧ ((b :: r).takeWhile isLetter).length ≤ 8) = true then some (.name ((b :: r).takeWhile isLetter), ((b :: r).takeWhile isLetter).length) else
    if (numberOf ((b :: r).takeWhile isDigit)).isSome = true then some (.num (decimal ((b :: r).takeWhile isDigit)), ((b :: r).takeWhile isDigit).length) else none := by
  have e0 : VasedBase.token (b :: r) = if isLetter b = true then (if VasedBase.NAME < ((b :: r).takeWhile isLetter).length then none else some (.name ((b :: r).takeWhile isLetter), ((b :: r).takeWhile isLetter).length)) else
    if isDigit b = true then (numberOf ((b :: r).takeWhile isDigit)).map (fun n => (VasedBase.Tok.num n, ((b :: r).takeWhile isDigit).length)) else if VasedBase.SIGNS.contains b = true then some (.sign b.toNat, 1) else none := rfl
  rw [e0]
  have nil8 : ¬ decide (1 ≤ ([] : Ln).length ∧ ([] : Ln).length ≤ 8) = true := by decide
  have nilN : ¬ (numberOf ([] : Ln)).isSome = true := by decide
  cases hl : isLetter b
  · have hw := take_none (r := r) hl
    rw [hw, if_neg Bool.false_ne_true, if_neg nil8]
    cases hd : isDigit b
    · have hw2 := take_none (r := r) hd
      rw [hw2, if_neg Bool.false_ne_true, if_neg nilN]
      by_cases h59 : b = 59
      · subst h59
        rfl
      · have hc : ¬ VasedBase.SIGNS.contains b = true := by
          simp [VasedBase.SIGNS, h59]
        rw [if_neg hc, if_neg h59]
    · have h59 : ¬ b = 59 := fun e => by subst e; revert hd; decide
      rw [if_pos rfl, if_neg h59]
      generalize (b :: r).takeWhile isDigit = d
      cases hn : numberOf d with
      | none => rfl
      | some n =>
        rw [number_val hn]
        rfl
  · have hw := take_some (r := r) hl
    have h59 : ¬ b = 59 := fun e => by subst e; revert hl; decide
    have hd : isDigit b = false := by
      cases h : isDigit b
      · rfl
      · have h1 : 97 ≤ b.toNat ∧ b.toNat ≤ 122 := of_decide_eq_true hl
        have h2 : 48 ≤ b.toNat ∧ b.toNat ≤ 57 := of_decide_eq_true h
        omega
    have hw2 := take_none (r := r) hd
    rw [hw2, if_pos rfl, if_neg h59, if_neg nilN]
    generalize (b :: r).takeWhile isLetter = w at *
    by_cases h8 : w.length ≤ 8
    · have h9 : ¬ VasedBase.NAME < w.length := by show ¬ 8 < _; omega
      rw [if_neg h9, if_pos (decide_eq_true ⟨hw, h8⟩)]
    · have h9 : VasedBase.NAME < w.length := by show 8 < _; omega
      have h10 : ¬ decide (1 ≤ w.length ∧ w.length ≤ 8) = true := fun z => h8 (of_decide_eq_true z).2
      rw [if_pos h9, if_neg h10]
def spTokenAt (K : PySem.W.Frag) : SpW := fun vs _ s H Q E => ∃ (a : Addr) (bs : Ln) (p : Nat), vs = [.ref a, .int p] ∧ SqL K H a (bV bs) ∧ p < bs.length ∧ bs.length ≤ 5000 ∧
  (∀ tk n, VasedBase.token (bs.drop p) = some (tk, n) → ∀ (q : Addr) (t : Nat) s1 H1, H q = none → Same H H1 → s.toks ≤ t → t < s1.toks → TokAt K H1 q (sOf (toldOf tk)) t p → Q (.ref q) s1 H1) ∧
  (VasedBase.token (bs.drop p) = none → Flt K H E 2 p)
section
variable {P : Program} {w : World} {K : PySem.W.Frag} {mg : Str → Option Value} {base : Heap}
theorem ext_beq (u v : V) : (u == v) = decide (u = v) := rfl
theorem sc_token_at : FnScope ["script", "place", "letters", "digits"] ["script", "place"] (defScope s_token_at) := ⟨rfl, rfl, rfl, by decide +kernel, rfl, by decide +kernel, by decide +kernel⟩
theorem ok_token_at (T : Txt K mg) : DOkW P w K mg base (L2.CX P w) 3 "token_at" (spTokenAt K) := by
  obtain ⟨fd, F⟩ := T.f_token_at
  have sc := sc_token_at
  obtain ⟨_, c_ALPHABET⟩ := T.v_ALPHABET; obtain ⟨_, c_DIGITS⟩ := T.v_DIGITS; obtain ⟨_, c_FIRST_DIGIT⟩ := T.v_FIRST_DIGIT; obtain ⟨_, c_FIRST_LETTER⟩ := T.v_FIRST_LETTER; obtain ⟨_, c_NO_TOKEN⟩ := T.v_NO_TOKEN; obtain ⟨_, c_SEMICOLON⟩ := T.v_SEMICOLON
  have K_signs_at := ok_signs_at (P := P) (w := w) (base := base) T
  have K_is_word : DOk P w K mg base CX0 1 "is_word" spIsWord := ok_is_word T
  have K_is_number : DOk P w K mg base CX0 1 "is_number" spIsNumber := ok_is_number T
  refine dokW F T.g_token_at (fun _ _ _ _ _ _ us hl => match us, hl with | [_, _], _ => rfl) sc (fun vs us s H Q E h => by obtain ⟨_, _, _, rfl, _⟩ := h; rfl) (fun cdv A outer s H vs us Q E s1 hr r h ht I hh => ?_)
  obtain ⟨a, bs, p, rfl, ha, hp, hbl, kq, ke⟩ := h
  clear r hh
  obtain ⟨b, hb⟩ : ∃ b, bs[p]? = some b := ⟨bs[p]'hp, by simp⟩
  have hdr := drop_at hb
  rw [hdr, tok_code] at kq ke
  refine ifW' (N := fun d H1 => H = H1 ∧ d = decide (b = 59)) (pt_cmpR op_eq (pe_ix (ix_listK (K := K) rfl) (pv 0) (pv 1) (fun _ _ => rfl)) (pe_glob (v := .int (59)) rfl c_SEMICOLON ⟨_, rfl⟩) (nomark _)) I ?_ ?_ ?_
  · refine ⟨_, rfl, _, rfl, a, _, (p : Int), _, rfl, rfl, ha, bV_at hb, rfl, _, rfl, rfl, ?_⟩
    exact u8_int b 59 (by decide)
  · rintro s2 _ k2 I2 ⟨rfl, e⟩
    have h59 : b = 59 := of_decide_eq_true e.symm
    rw [if_pos h59] at kq
    have ez : Str.ofString ";" = sOf [59] := by decide +kernel
    refine wpAny_execs_cons (wpAny_Return_some (tok_call (n := s.toks) (z := sOf [59]) (i := (p : Int)) T hr (by decide) I2 rfl ?_ ?_ ?_))
    · refine Calls.Constant_str ⟨s2.toks, by rw [← ez], Nat.le_trans ht k2, Nat.lt_succ_self _, I2.tok _⟩
    · intro s3 I3
      refine raw_name (i := 1) rfl (.inl rfl) I3 rfl ?_
      rintro u ⟨tk, rfl⟩
      exact ⟨tk, rfl, I3⟩
    · intro q t s3 H3 I3 h3 hq s13 h4 h5 ta
      exact ⟨⟨_, H3, I3, kq _ _ rfl q t s3 H3 hq s13 h4 h5 ta⟩, by intro z; cases z⟩
  · rintro s2 _ k2 I2 ⟨rfl, e⟩
    have h59 : ¬ b = 59 := of_decide_eq_false e.symm
    rw [if_neg h59] at kq ke
    have h2 : s.toks ≤ s2.toks := Nat.le_trans ht k2
    -- letters
    refine wpAny_execs_cons (wpAny_Assign_Name (pe_dW (E := E0) (Q := fun u s3 H3 => H = H3 ∧ ∃ t : Nat, u = .str (sOf ((b :: bs.drop (p + 1)).takeWhile isLetter)) t ∧ s.toks ≤ t ∧ t < s3.toks) K_signs_at hr (by decide) rfl (fun _ _ _ _ _ _ h => h.elim)
      (pa_cons (pv 0) (pa_cons (pv 1) (pa_cons (pe_glob (v := .str "abcdefghijklmnopqrstuvwxyz") rfl c_ALPHABET ⟨_, rfl⟩) (pa_cons (pe_glob (v := .int (97)) rfl c_FIRST_LETTER ⟨_, rfl⟩) pa_nil)))) I2 ?_ ?_) (by rfl))
    · refine ⟨_, rfl, _, rfl, ?_⟩
      intro us s3 r3 h3
      refine ⟨a, bs, p, 26, 97, _, rfl, ha, Nat.le_of_lt hp, by omega, by decide +kernel, by decide, by decide, ?_⟩
      intro t s4 h4 h5
      refine ⟨rfl, t, ?_, Nat.le_trans h2 (Nat.le_trans h3 h4), h5⟩
      rw [← hdr, kind_letter]
    · rintro u s3 _ h3 I3 ⟨rfl, t3, rfl, ht3, ht3s⟩
      refine put_raw (i := 2) (v := vS ((b :: bs.drop (p + 1)).takeWhile isLetter)) I3 sc.nd rfl rfl ⟨_, rfl⟩ ?_
      intro s4 I4 h4 g4 _
      have h4 := Nat.le_of_lt h4
      have hwl : ((b :: bs.drop (p + 1)).takeWhile isLetter).length ≤ 5000 := by
        have h1 := (List.takeWhile_sublist (p := isLetter) (l := b :: bs.drop (p + 1))).length_le
        rw [← hdr, List.length_drop] at h1
        rw [← hdr]
        omega
      have hdl : ((b :: bs.drop (p + 1)).takeWhile isDigit).length ≤ 5000 := by
        have h1 := (List.takeWhile_sublist (p := isDigit) (l := b :: bs.drop (p + 1))).length_le
        rw [← hdr, List.length_drop] at h1
        rw [← hdr]
        omega
      have hdd : AllDig ((b :: bs.drop (p + 1)).takeWhile isDigit) := fun c hc => take_imp hc
      rw [← hdr] at hwl hdl hdd kq ke I4 g4
      generalize (bs.drop p).takeWhile isLetter = w at *
      refine ifW (N := fun d H1 => H = H1 ∧ d = decide (1 ≤ w.length ∧ w.length ≤ 8)) (pkt_val (pk_d K_is_word hr (by decide) rfl (pk_name (i := 2) rfl (.inl rfl)))) I4 ?_ ?_ ?_
      · exact ⟨_, rfl, w, rfl, by omega, _, rfl, rfl, rfl⟩
      · rintro s5 _ k5 I5 ⟨rfl, e⟩
        have kq := kq _ _ (if_pos e.symm)
        refine wpAny_execs_cons (wpAny_Return_some (tok_call (n := s.toks) (z := sOf w) (i := (p : Int)) T hr (by decide) I5 rfl ?_ ?_ ?_))
        · refine has_name (i := 2) rfl I5.ok.kind (g4.keep k5) ?_
          rintro u rfl
          exact ⟨t3, rfl, ht3, Nat.lt_of_lt_of_le ht3s (Nat.le_trans h4 k5.1), I5⟩
        · intro s6 I6
          refine raw_name (i := 1) rfl (.inl rfl) I6 rfl ?_
          rintro u ⟨tk, rfl⟩
          exact ⟨tk, rfl, I6⟩
        · intro q t s6 H6 I6 _ hq s16 h6 h7 ta
          exact ⟨⟨_, H6, I6, kq q t s6 H6 hq s16 h6 h7 ta⟩, by intro z; cases z⟩
      · rintro s5 _ k5 I5 ⟨rfl, e⟩
        have en : ¬ decide (1 ≤ w.length ∧ w.length ≤ 8) = true := by rw [← e]; exact Bool.false_ne_true
        rw [if_neg en] at kq ke
        have h5 : s.toks ≤ s5.toks := Nat.le_trans h2 (Nat.le_trans (by assumption) (Nat.le_trans h4 k5.1))
        clear g4
        -- digits
        refine wpAny_execs_cons (wpAny_Assign_Name (pe_dW (E := E0) (Q := fun u s6 H6 => H = H6 ∧ ∃ t : Nat, u = .str (sOf ((bs.drop p).takeWhile isDigit)) t ∧ s.toks ≤ t ∧ t < s6.toks) K_signs_at hr (by decide) rfl (fun _ _ _ _ _ _ h => h.elim)
          (pa_cons (pv 0) (pa_cons (pv 1) (pa_cons (pe_glob (v := .str "0123456789") rfl c_DIGITS ⟨_, rfl⟩) (pa_cons (pe_glob (v := .int (48)) rfl c_FIRST_DIGIT ⟨_, rfl⟩) pa_nil)))) I5 ?_ ?_) (by rfl))
        · refine ⟨_, rfl, _, rfl, ?_⟩
          intro us s6 r6 h6
          refine ⟨a, bs, p, 10, 48, _, rfl, ha, Nat.le_of_lt hp, by omega, by decide +kernel, by decide, by decide, ?_⟩
          intro t s7 h7 h8
          refine ⟨rfl, t, ?_, Nat.le_trans h5 (Nat.le_trans h6 h7), h8⟩
          rw [kind_digit]
        · rintro u s6 _ h6 I6 ⟨rfl, t6, rfl, ht6, ht6s⟩
          refine put_raw (i := 3) (v := vS ((bs.drop p).takeWhile isDigit)) I6 sc.nd rfl rfl ⟨_, rfl⟩ ?_
          intro s7 I7 h7 g7 _
          have h7 := Nat.le_of_lt h7
          generalize (bs.drop p).takeWhile isDigit = d at *
          refine ifW (N := fun c H1 => H = H1 ∧ c = (numberOf d).isSome) (pkt_val (pk_d K_is_number hr (by decide) rfl (pk_name (i := 3) rfl (.inl rfl)))) I7 ?_ ?_ ?_
          · exact ⟨_, rfl, d, rfl, hdd, by omega, _, rfl, rfl, rfl⟩
          · rintro s8 _ k8 I8 ⟨rfl, e8⟩
            have kq := kq _ _ (if_pos e8.symm)
            have ed : toldOf (.num (decimal d)) = d := by
              have h9 := number_some hdd
              rw [← e8] at h9
              have h10 := (Bool.and_eq_true_iff.mp (Bool.and_eq_true_iff.mp h9.symm).2).2
              exact of_decide_eq_true h10
            rw [ed] at kq
            refine wpAny_execs_cons (wpAny_Return_some (tok_call (n := s.toks) (z := sOf d) (i := (p : Int)) T hr (by decide) I8 rfl ?_ ?_ ?_))
            · refine has_name (i := 3) rfl I8.ok.kind (g7.keep k8) ?_
              rintro u rfl
              exact ⟨t6, rfl, ht6, Nat.lt_of_lt_of_le ht6s (Nat.le_trans h7 k8.1), I8⟩
            · intro s9 I9
              refine raw_name (i := 1) rfl (.inl rfl) I9 rfl ?_
              rintro u ⟨tk, rfl⟩
              exact ⟨tk, rfl, I9⟩
            · intro q t s9 H9 I9 _ hq s19 h9 h10 ta
              exact ⟨⟨_, H9, I9, kq q t s9 H9 hq s19 h9 h10 ta⟩, by intro z; cases z⟩
          · rintro s8 _ k8 I8 ⟨rfl, e8⟩
            have en8 : ¬ (numberOf d).isSome = true := by rw [← e8]; exact Bool.false_ne_true
            have ke := ke (if_neg en8)
            refine lastW (ps_raise rfl (takes_of rfl rfl rfl rfl) (pmk_fault rfl T hr (by decide) rfl (pa_cons (pe_glob (v := .int (2)) rfl c_NO_TOKEN ⟨_, rfl⟩) (pa_cons (pv 1) pa_nil)))) I8 ?_
            refine ⟨_, rfl, ?_⟩
            refine fault_in fun d hd => ?_
            exact ke _ d (Same.new hd) hd upd_same
end
end Ls
set_option Elab.async false
set_option linter.all false
set_option maxRecDepth 100000
set_option maxHeartbeats 4000000
/-! tokens: tokens_of -/
namespace Ls
open PySem PySem.Spec PyProof.Rows L2
open VasedBase (isBlank isDigit isLetter decimal numberOf showNat lex PTok)
/-! ### mathematics -/
theorem show_num {x : Ln} (h : AllDig x) (hn : (numberOf x).isSome = true) : showNat (decimal x) = x := by
  have h9 := number_some h
  rw [hn] at h9
  exact of_decide_eq_true (Bool.and_eq_true_iff.mp (Bool.and_eq_true_iff.mp h9.symm).2).2
theorem tok_len {b : UInt8} {r : Ln} {tk : VTok} {n : Nat} (h : VasedBase.token (b :: r) = some (tk, n)) : (toldOf tk).length = n ∧ 1 ≤ n ∧ n ≤ (b :: r).length := by
  rw [tok_code] at h
  split at h
  · cases h
    exact ⟨rfl, Nat.le_refl _, by simp⟩
  · split at h
    · rename_i h2
      have h3 := of_decide_eq_true h2
      cases h
      exact ⟨rfl, h3.1, (List.takeWhile_sublist _).length_le⟩
    · split at h
      · rename_i h2
        have hd : AllDig ((b :: r).takeWhile isDigit) := fun c hc => take_imp hc
        have h4 := number_some hd
        rw [h2] at h4
        have h5 := of_decide_eq_true (Bool.and_eq_true_iff.mp h4.symm).1
        cases h
        refine ⟨?_, h5.1, (List.takeWhile_sublist _).length_le⟩
        show (showNat (decimal _)).length = _
        rw [show_num hd h2]
      · cases h
theorem drop_len (l : Ln) (k : Nat) : (l.drop k).length = l.length - k := List.length_drop
theorem dropWhile_drop {p : UInt8 → Bool} : ∀ l : Ln, l.dropWhile p = l.drop (l.takeWhile p).length
  | [] => rfl
  | b :: r => by
    rw [List.dropWhile_cons, List.takeWhile_cons]
    split
    · rw [List.length_cons, List.drop_succ_cons]
      exact dropWhile_drop r
    · rfl
/-- enough fuel -/
theorem lex_fuel : ∀ (m : Nat) (l : Ln), l.length ≤ m → ∀ n at_, l.length < n → lex n at_ l = lex (l.length + 1) at_ l := by
  intro m
  induction m with
  | zero =>
    intro l hl n at_ hn
    obtain rfl : l = [] := List.length_eq_zero_iff.mp (by omega)
    cases n with
    | zero => omega
    | succ n => rfl
  | succ m ih =>
    intro l hl n at_ hn
    cases l with
    | nil =>
      cases n with
      | zero => omega
      | succ n => rfl
    | cons b r =>
      cases n with
      | zero => omega
      | succ n =>
        have hr : r.length ≤ m := by simp at hl; omega
        have hn' : r.length < n := by simp at hn; omega
        have hb : (b :: r).length = r.length + 1 := rfl
        rw [hb]
        unfold lex
        cases h1 : isBlank b
        · simp only [Bool.false_eq_true, if_false]
          cases h2 : b == 35
          · simp only [Bool.false_eq_true, if_false]
            cases h3 : VasedBase.token (b :: r) with
            | none => rfl
            | some x =>
              obtain ⟨tk, k⟩ := x
              obtain ⟨_, h5, h6⟩ := tok_len h3
              have hd : ((b :: r).drop k).length ≤ m := by rw [drop_len]; simp at h6 ⊢; omega
              have hdk : ((b :: r).drop k).length ≤ r.length := by rw [drop_len]; simp; omega
              dsimp only
              rw [ih _ hd n _ (by omega), ih _ hd (r.length + 1) _ (by omega)]
          · simp only [if_true]
            have hd : (r.dropWhile (· != 10)).length ≤ r.length := (List.dropWhile_sublist _).length_le
            rw [ih _ (by omega) n _ (by omega), ih _ (by omega) (r.length + 1) _ (by omega)]
        · simp only [if_true]
          rw [ih _ hr n _ hn']
def lexL (at_ : Nat) (l : Ln) : Except VasedBase.Fault (List PTok) := lex (l.length + 1) at_ l
theorem lexL_nil (at_ : Nat) : lexL at_ [] = .ok [⟨at_, .last⟩] := rfl
theorem lexL_blank {at_ : Nat} {b : UInt8} {r : Ln} (h : isBlank b = true) : lexL at_ (b :: r) = lexL (at_ + 1) r := by
  show lex (r.length + 1 + 1) at_ (b :: r) = _
  unfold lex
  rw [if_pos h]
  rfl
theorem lexL_remark {at_ : Nat} {r : Ln} : lexL at_ (35 :: r) = lexL (at_ + 1 + (r.takeWhile notEnd).length) (r.drop (r.takeWhile notEnd).length) := by
  show lex (r.length + 1 + 1) at_ (35 :: r) = _
  unfold lex
  rw [if_neg (by decide), if_pos (by decide)]
  have e : (fun x : UInt8 => x != 10) = notEnd := rfl
  rw [e, dropWhile_drop]
  exact lex_fuel _ _ (Nat.le_refl _) _ _ (by rw [drop_len]; omega)
theorem lexL_tok {at_ : Nat} {b : UInt8} {r : Ln} (h : isBlank b = false) (h2 : b ≠ 35) : lexL at_ (b :: r) = match VasedBase.token (b :: r) with
    | none => .error ⟨2, at_⟩
    | some x => (lexL (at_ + x.2) ((b :: r).drop x.2)).map fun l => ⟨at_, x.1⟩ :: l := by
  show lex (r.length + 1 + 1) at_ (b :: r) = _
  unfold lex
  rw [if_neg (by rw [h]; exact Bool.false_ne_true), if_neg (by simpa using h2)]
  cases h3 : VasedBase.token (b :: r) with
  | none => rfl
  | some x =>
    obtain ⟨tk, k⟩ := x
    obtain ⟨_, h5, h6⟩ := tok_len h3
    dsimp only
    unfold lexL
    rw [lex_fuel _ _ (Nat.le_refl _) (r.length + 1) _ (by rw [drop_len]; simp at h6 ⊢; omega)]
theorem lexL_skip : ∀ (n : Nat) (at_ : Nat) (l : Ln), l.length ≤ n → lexL at_ l = lexL (at_ + skipN false l) (l.drop (skipN false l)) := by
  intro n
  induction n with
  | zero =>
    intro at_ l hl
    obtain rfl : l = [] := List.length_eq_zero_iff.mp (by omega)
    rfl
  | succ n ih =>
    intro at_ l hl
    cases l with
    | nil => rfl
    | cons b r =>
      have hr : r.length ≤ n := by simp at hl; omega
      rw [skip_f]
      by_cases h1 : isBlank b = true
      · rw [if_pos h1, lexL_blank h1, ih _ r hr, Nat.add_comm 1, List.drop_succ_cons]
        congr 1
        omega
      · rw [if_neg h1]
        by_cases h2 : b = 35
        · subst h2
          rw [if_pos rfl, lexL_remark, skip_true, ih _ _ (by rw [drop_len]; omega), List.drop_drop, Nat.add_comm 1, List.drop_succ_cons]
          congr 1
          omega
        · rw [if_neg h2]
          rfl
/-- behind what is skipped stands nothing, or neither a blank nor a remark -/
theorem skip_head : ∀ (n : Nat) (l : Ln), l.length ≤ n → ∀ b r, l.drop (skipN false l) = b :: r → isBlank b = false ∧ b ≠ 35 := by
  intro n
  induction n with
  | zero =>
    intro l hl b r h
    obtain rfl : l = [] := List.length_eq_zero_iff.mp (by omega)
    cases h
  | succ n ih =>
    intro l hl b r h
    cases l with
    | nil => cases h
    | cons c l =>
      have hr : l.length ≤ n := by simp at hl; omega
      rw [skip_f] at h
      by_cases h1 : isBlank c = true
      · rw [if_pos h1, Nat.add_comm 1, List.drop_succ_cons] at h
        exact ih l hr b r h
      · rw [if_neg h1] at h
        by_cases h2 : c = 35
        · rw [if_pos h2, skip_true, Nat.add_comm 1, List.drop_succ_cons, ← List.drop_drop] at h
          exact ih _ (by rw [drop_len]; omega) b r h
        · rw [if_neg h2] at h
          cases h
          exact ⟨by simpa using h1, h2⟩
theorem sql_same {K : PySem.W.Frag} {H H' : Hp} {a : Addr} {xs : List V} (s : Same H H') (h : SqL K H a xs) : SqL K H' a xs := by
  obtain (h | ⟨o, h⟩) | h := h
  · exact .inl (.inl (s _ _ h))
  · exact .inl (.inr ⟨o, s _ _ h⟩)
  · exact .inr h
/-! ### the list of tokens -/
def TokL (K : PySem.W.Frag) (H : Hp) (vs : List V) (l : List PTok) (ts : List Nat) : Prop := vs.length = l.length ∧ ts.length = l.length ∧
  ∀ (i : Nat) (pt : PTok), l[i]? = some pt → ∃ (q : Addr) (t : Nat), vs[i]? = some (V.ref q) ∧ ts[i]? = some t ∧ TokAt K H q (sOf (toldOf pt.tok)) t ((pt.place : Nat) : Int)
/-- tokens given out one after another, below n -/
def Inc (ts : List Nat) (n : Nat) : Prop := ts.Pairwise (· < ·) ∧ ∀ t ∈ ts, 1 ≤ t ∧ t < n
theorem frz_same {H H' : Hp} (s : Same H H') : ∀ b o u, H b = some (.frz o u) → H' b = some (.frz o u) := fun b o u e => s b _ e
theorem TokL.mono {K : PySem.W.Frag} {H H' : Hp} {vs : List V} {l : List PTok} {ts : List Nat} (h : TokL K H vs l ts) (s : ∀ b o u, H b = some (.frz o u) → H' b = some (.frz o u)) : TokL K H' vs l ts := by
  obtain ⟨h1, h2, h3⟩ := h
  refine ⟨h1, h2, fun i pt e => ?_⟩
  obtain ⟨q, t, a, b, c⟩ := h3 i pt e
  exact ⟨q, t, a, b, c.mono s⟩
theorem get_snoc {α : Type} {l : List α} {x y : α} {i : Nat} (h : (l ++ [x])[i]? = some y) : l[i]? = some y ∨ (i = l.length ∧ y = x) := by
  by_cases hi : i < l.length
  · left
    rw [List.getElem?_append_left hi] at h
    exact h
  · right
    have h1 := get_lt h
    rw [List.length_append, List.length_singleton] at h1
    obtain rfl : i = l.length := by omega
    rw [List.getElem?_append_right (Nat.le_refl _), Nat.sub_self] at h
    exact ⟨rfl, (Option.some.inj h).symm⟩
theorem snoc_at {α : Type} {l : List α} {x : α} : (l ++ [x])[l.length]? = some x := by
  rw [List.getElem?_append_right (Nat.le_refl _), Nat.sub_self]
  rfl
theorem snoc_old {α : Type} {l : List α} {x y : α} {i : Nat} (h : l[i]? = some y) : (l ++ [x])[i]? = some y := by
  rw [List.getElem?_append_left (get_lt h)]
  exact h
theorem TokL.snoc {K : PySem.W.Frag} {H : Hp} {vs : List V} {l : List PTok} {ts : List Nat} {q : Addr} {pt : PTok} {t : Nat} (h : TokL K H vs l ts) (ha : TokAt K H q (sOf (toldOf pt.tok)) t (pt.place : Nat)) : TokL K H (vs ++ [.ref q]) (l ++ [pt]) (ts ++ [t]) := by
  obtain ⟨h1, h2, h3⟩ := h
  refine ⟨by simp [h1], by simp [h2], fun i pt' e => ?_⟩
  obtain e | ⟨rfl, rfl⟩ := get_snoc e
  · obtain ⟨q', t', a, b, c⟩ := h3 i pt' e
    exact ⟨q', t', snoc_old a, snoc_old b, c⟩
  · exact ⟨q, t, by rw [← h1]; exact snoc_at, by rw [← h2]; exact snoc_at, ha⟩
theorem Inc.up {ts : List Nat} {n m : Nat} (h : Inc ts n) (k : n ≤ m) : Inc ts m := ⟨h.1, fun t ht => ⟨(h.2 t ht).1, Nat.lt_of_lt_of_le (h.2 t ht).2 k⟩⟩
theorem Inc.snoc {ts : List Nat} {n m t : Nat} (h : Inc ts n) (h1 : n ≤ t) (h2 : t < m) (h3 : 1 ≤ n) : Inc (ts ++ [t]) m := by
  refine ⟨List.pairwise_append.mpr ⟨h.1, List.pairwise_singleton _ _, ?_⟩, ?_⟩
  · intro a ha b hb
    obtain rfl : b = t := by simpa using hb
    exact Nat.lt_of_lt_of_le (h.2 a ha).2 h1
  · intro a ha
    obtain ha | ha := List.mem_append.mp ha
    · have h4 := h.2 a ha
      exact ⟨h4.1, by omega⟩
    · obtain rfl : a = t := by simpa using ha
      exact ⟨by omega, h2⟩
section
variable {X : Cx} {pins : List (Addr × Obj)} {σ : L2.St} {H : Hp} {s : Shared}
/-- list.append(e), e told exactly -/
theorem append_raw {i : Nat} {x : Str} {e : Expr} {L : Addr} {vs0 : List V} {p apos pos pos2 : Pos} {QQ : Flow → Shared → Prop} (I : Inv X pins σ H s) (hx : X.N[i]? = some x) (hv : Vis X.env.scope x) (hσ : σ[i]? = some (some (.ref L))) (hL : H L = some (.lst vs0))
    (h : wpAny (model X.prog X.w) X.A (eval e X.env) (fun u s1 => ∃ v H1 vs, RelV v u ∧ Inv X pins σ H1 s1 ∧ H1 L = some (.lst vs) ∧ vs.length < sizeLine ∧ ∀ s2, s1.toks ≤ s2.toks → Inv X pins σ (upd H1 L (.lst (vs ++ [v]))) s2 → QQ .next s2) X.xe s)
    (hd : (x == ("__debug__" : Str)) = false := by decide) (hcd : (x == ("__classdict__" : Str)) = false := by decide)
    (hst : starEach [e] X.env = [(false, eval e X.env)] := by rfl) (hbase : attributeBase (.Name x p) "append" X.env (eval (.Name x p) X.env) = eval (.Name x p) X.env := by rfl) (hline : (apos.endLine == pos.line) = true := by rfl)
    (hs : swapsWith (.Call (.Attribute (.Name x p) "append" apos) [e] [] pos) none pos2.line X.env = pure false := by rfl) :
    wpAny (model X.prog X.w) X.A (exec (.Expr (.Call (.Attribute (.Name x p) "append" apos) [e] [] pos) pos2) X.env) QQ X.xe s := by
  refine wpAny_Expr_any ?_ I.quiet hs
  refine wpAny_Call_method_lateS hbase (by rw [hst]; rfl) hline (raw_name hx hv I hσ ?_ hd hcd)
  rintro _ rfl
  rw [hst]
  have hT := tyV_is (T := "list") I (x := .ref L) rfl (.inl ⟨rfl, _, SqL.of hL⟩)
  refine ⟨"list", _, F.plainAttrs_list, F.slot_list_append, F.type_list_append, hT.1, hT.2, Calls.callWith_builtin rfl (Calls.evalArgs_plain (Calls.spliced_cons (thn h ?_)))⟩
  rintro u s1 ⟨v, H1, vs, rv, I1, h1, hz, q⟩
  refine Calls.spliced_nil ?_
  refine wpAny_mono (wpAny_toks (mt_append pins s1 σ H1 (.ref L) [v] (.ref L) [u] (fun w H2 => H2 = upd H1 L (.lst (vs ++ [v]))) I1 rfl (.cons rv .nil) ⟨L, vs, v, rfl, rfl, h1, hz, rfl⟩)) ?_ fun _ _ z => z.2
  rintro w s2 ⟨k2, x', H2, I2, _, rfl⟩
  exact q s2 k2 I2
end
def spTokensOf (K : PySem.W.Frag) : SpW := fun vs _ s H Q E => ∃ (a : Addr) (bs : Ln), vs = [.ref a] ∧ SqL K H a (bV bs) ∧ bs.length ≤ 4096 ∧
  (∀ l, lexL 0 bs = .ok l → ∀ (L : Addr) vs ts s1 H1, H L = none → Same H H1 → H1 L = some (.lst vs) → TokL K H1 vs l ts → Inc ts s1.toks → Q (.ref L) s1 H1) ∧
  (∀ f, lexL 0 bs = .error f → Flt K H E f.code f.place)
section
variable {P : Program} {w : World} {K : PySem.W.Frag} {mg : Str → Option Value} {base : Heap}
theorem map_map_ex {α β γ ε : Type} (f : α → β) (g : β → γ) (e : Except ε α) : (e.map f).map g = e.map fun x => g (f x) := by
  cases e <;> rfl
theorem sc_tokens_of : FnScope ["script", "tokens", "place", "token"] ["script"] (defScope s_tokens_of) := ⟨rfl, rfl, rfl, by decide +kernel, rfl, by decide +kernel, by decide +kernel⟩
theorem ok_tokens_of (T : Txt K mg) : DOkW P w K mg base (L2.CX P w) 4 "tokens_of" (spTokensOf K) := by
  obtain ⟨fd, F⟩ := T.f_tokens_of
  have sc := sc_tokens_of
  skip
  have K_token_start : DOk P w K mg base CX0 2 "token_start" (spTokenStart K) := ok_token_start T
  have K_token_at := ok_token_at (P := P) (w := w) (base := base) T
  refine dokW F T.g_tokens_of (fun _ _ _ _ _ _ us hl => match us, hl with | [_], _ => rfl) sc (fun vs us s H Q E h => by obtain ⟨_, _, rfl, _⟩ := h; rfl) (fun cdv A outer s H vs us Q E s1 hr r h ht I hh => ?_)
  obtain ⟨a, bs, rfl, ha, hbl, kq, ke⟩ := h
  clear r hh
  -- tokens = []
  refine wpAny_execs_cons (wpAny_Assign_Name (wpAny_mono (wpAny_toks ((pe_lst pa_nil).run [] s1 _ H (fun v H1 => ∃ L, H L = none ∧ v = .ref L ∧ H1 = upd H L (.lst [])) I ⟨small (m := 1) (by show 0 ≤ 1; decide), fun p hp => ⟨p, hp, rfl, rfl⟩⟩)) ?_ fun _ _ z => z.2) (by rfl))
  rintro u s2 ⟨k2, _, _, I2, r2, L, hL, rfl, rfl⟩
  refine put_raw (i := 1) (v := .ref L) I2 sc.nd rfl rfl r2 ?_
  intro s3 I3 k3 _ _
  have s13 : Same H (upd H L (.lst [])) := Same.new hL
  have h13 : upd H L (.lst []) L = some (.lst []) := upd_same
  generalize upd H L (.lst []) = H3 at *
  have p3 : 1 ≤ s3.toks := by omega
  -- place = token_start(script, 0)
  refine seqW (N := fun σ' H' => H3 = H' ∧ σ' = [some (.ref a), some (.ref L), some (.int ((skipN false bs : Nat) : Int)), none]) (ps_set (i := 2) sc.nd rfl (Or.inl rfl) (pe_d K_token_start hr (by first | decide | omega) rfl (pa_cons (pv 0) (pa_cons pe_int pa_nil)))) I3 ?_ ?_
  · refine ⟨_, rfl, a, bs, 0, rfl, sql_same s13 ha, Nat.zero_le _, ?_⟩
    rw [List.drop_zero, Nat.zero_add]
    exact ⟨rfl, rfl⟩
  rintro s4 _ _ k4 I4 ⟨rfl, rfl⟩
  have hskl := skip_le false bs
  refine whileW I4 (passes_of rfl) (pt_cmpR op_lt (pv 2) (pe_callB (call_len_seqK (K := K) rfl) rfl T.b_len boot_len (pa_cons (pv 0) pa_nil)) (nomark _))
    (fun m n σ H' => ∃ p vs l ts v3, σ = [some (.ref a), some (.ref L), some (.int ((p : Nat) : Int)), v3] ∧ Same H H' ∧ H' L = some (.lst vs) ∧ TokL K H' vs l ts ∧ Inc ts n ∧ 1 ≤ n ∧ p ≤ bs.length ∧ m = bs.length - p ∧
      lexL 0 bs = (lexL p (bs.drop p)).map (l ++ ·) ∧ (∀ b r, bs.drop p = b :: r → isBlank b = false ∧ b ≠ 35) ∧ l.length ≤ p) ?_ ?_
  · refine ⟨_, skipN false bs, [], [], [], none, rfl, s13, h13, ⟨rfl, rfl, fun i pt e => by simp at e⟩, ⟨.nil, fun t ht => by cases ht⟩, by omega, hskl, rfl, ?_, skip_head _ bs (Nat.le_refl _), Nat.zero_le _⟩
    rw [lexL_skip _ 0 bs (Nat.le_refl _), Nat.zero_add]
    cases lexL (skipN false bs) (bs.drop (skipN false bs)) <;> rfl
  rintro m n σ H5 ⟨p, vs, l, ts, v3, rfl, s5, h5, hl, hi, hn1, hp, rfl, hlex, hhd, hlp⟩
  have ha5 : SqL K H5 a (bV bs) := sql_same s5 ha
  refine ⟨_, rfl, _, rfl, a, _, rfl, .inl ha5, _, _, rfl, rfl, _, rfl, ite2 (fun c1 => ?_) fun c1 => ?_⟩
  · have d1 : (p : Int) < (((bV bs).length : Nat) : Int) := of_decide_eq_true c1
    rw [bV_len] at d1
    have hpl : p < bs.length := by omega
    intro s6 k6 I6
    obtain ⟨b, hb⟩ : ∃ b, bs[p]? = some b := ⟨bs[p]'hpl, by simp⟩
    have hdr := drop_at hb
    obtain ⟨hb1, hb2⟩ := hhd b _ hdr
    rw [hdr, lexL_tok hb1 hb2, ← hdr] at hlex
    refine wpAny_execs_cons (wpAny_Assign_Name (pe_dW (E := E) (Q := fun u s7 H7 => ∃ (tk : VTok) (kk : Nat) (q : Addr) (t : Nat), VasedBase.token (bs.drop p) = some (tk, kk) ∧ u = .ref q ∧ H5 q = none ∧ Same H5 H7 ∧ n ≤ t ∧ t < s7.toks ∧ TokAt K H7 q (sOf (toldOf tk)) t p)
      K_token_at hr (by decide) rfl (passAt (takes_of rfl rfl rfl rfl) _) (pa_cons (pv 0) (pa_cons (pv 2) pa_nil)) I6 ?_ ?_) (by rfl))
    · refine ⟨_, rfl, _, rfl, ?_⟩
      intro us s7 r7 h7
      refine ⟨a, bs, p, rfl, ha5, hpl, by omega, ?_, ?_⟩
      · intro tk kk hk q t s8 H8 hq s58 h8 h9 ta
        exact ⟨tk, kk, q, t, hk, rfl, hq, s58, by omega, h9, ta⟩
      · intro hn
        rw [hn] at hlex
        exact (ke ⟨2, p⟩ hlex).mono s5
    rintro u s7 H7 h7 I7 ⟨tk, kk, q, t, hk, rfl, hq, s57, ht1, ht2, ta⟩
    rw [hk] at hlex
    obtain ⟨hk1, hk2, hk3⟩ := tok_len (b := b) (r := bs.drop (p + 1)) (by rw [← hdr]; exact hk)
    rw [← hdr, drop_len] at hk3
    refine put_raw (i := 3) (v := .ref q) I7 sc.nd rfl rfl rfl ?_
    intro s8 I8 h8 _ _
    have hL7 : H7 L = some (.lst vs) := s57 _ _ h5
    have hvl : vs.length ≤ 5000 := by
      have h1 := hl.1
      omega
    refine seqW (N := fun σ' H' => upd H7 L (.lst (vs ++ [.ref q])) = H' ∧ σ' = [some (.ref a), some (.ref L), some (.int ((p : Nat) : Int)), some (.ref q)])
      (ps_expr (pe_bmK (K := K) rfl PySem.F.plainAttrs_list PySem.F.slot_list_append PySem.F.type_list_append mt_append (pv 1) (pa_cons (pv 3) pa_nil))) I8 ?_ ?_
    · exact ⟨_, rfl, .inl ⟨rfl, _, SqL.of hL7⟩, _, rfl, L, vs, .ref q, rfl, rfl, hL7, smallLt (m := 5001) (by omega), rfl, rfl⟩
    rintro s9 _ _ h9 I9 ⟨rfl, rfl⟩
    have hfr : ∀ b o u, H7 b = some (.frz o u) → upd H7 L (.lst (vs ++ [.ref q])) b = some (.frz o u) := by
      intro c o u e
      have hne : c ≠ L := by
        intro z
        rw [z, hL7] at e
        cases e
      rw [upd_ne hne]
      exact e
    have ta9 := ta.mono hfr
    have hl9 := ((hl.mono (frz_same s57)).mono hfr).snoc (pt := ⟨p, tk⟩) ta9
    have hi9 := hi.snoc ht1 ht2 hn1
    have s9' : Same H (upd H7 L (.lst (vs ++ [.ref q]))) := Same.put (s5.trans s57) hL
    have h9L : upd H7 L (.lst (vs ++ [.ref q])) L = some (.lst (vs ++ [.ref q])) := upd_same
    generalize upd H7 L (.lst (vs ++ [.ref q])) = H9 at *
    have ha9 : SqL K H9 a (bV bs) := sql_same s9' ha
    refine seqW (N := fun σ' H' => H9 = H' ∧ σ' = [some (.ref a), some (.ref L), some (.int ((p + kk + skipN false (bs.drop (p + kk)) : Nat) : Int)), some (.ref q)])
      (ps_set (i := 2) sc.nd rfl (Or.inl rfl) (pe_d K_token_start hr (by first | decide | omega) rfl (pa_cons (pv 0) (pa_cons (pe_op op_add (pv 2) (pe_callB call_len_str rfl T.b_len boot_len (pa_cons (pe_told rfl T (pv 3)) pa_nil))) pa_nil)))) I9 ?_ ?_
    · refine ⟨_, rfl, _, rfl, _, rfl, q, _, _, _, rfl, ta9, _, rfl, small (m := 5000) (by rw [sOf_len, hk1]; omega), _, _, rfl, rfl, a, bs, p + kk, ?_, ha9, by omega, rfl, rfl⟩
      rw [sOf_len, hk1]
      rfl
    · rintro s10 _ _ h10 I10 ⟨rfl, rfl⟩
      refine wpAny_execs_nil ?_
      have hsk := skip_le false (bs.drop (p + kk))
      rw [drop_len] at hsk
      refine ⟨_, _, _, ?_, I10, p + kk + skipN false (bs.drop (p + kk)), _, _, _, _, rfl, s9', h9L, hl9, hi9.up (by omega), by omega, by omega, rfl, ?_, ?_, by simp; omega⟩
      · omega
      · rw [hlex]
        dsimp only
        rw [map_map_ex, lexL_skip _ (p + kk) _ (Nat.le_refl _), List.drop_drop, List.drop_drop]
        congr 1
        funext x
        simp
      · intro b' r' e
        rw [← List.drop_drop] at e
        exact skip_head _ _ (Nat.le_refl _) b' r' e
  · have d1 : ¬ (p : Int) < (((bV bs).length : Nat) : Int) := fun h => c1 (decide_eq_true h)
    rw [bV_len] at d1
    have hpl : p = bs.length := by omega
    rw [List.drop_eq_nil_of_le (by omega), lexL_nil] at hlex
    intro s6 k6 I6
    have e0 : Str.ofString "" = sOf [] := by decide +kernel
    have hvl : vs.length ≤ 5000 := by
      have h1 := hl.1
      omega
    refine wpAny_execs_cons (append_raw (i := 1) I6 rfl (.inl rfl) rfl h5 (tok_call (n := n) (z := sOf []) (i := (p : Int)) T hr (by decide) I6 rfl ?_ ?_ ?_))
    · exact Calls.Constant_str ⟨s6.toks, by rw [← e0], k6, Nat.lt_succ_self _, I6.tok _⟩
    · intro s7 I7
      refine raw_name (i := 2) rfl (.inl rfl) I7 rfl ?_
      rintro u ⟨tk, rfl⟩
      exact ⟨tk, rfl, I7⟩
    · intro q t s7 H7 I7 h7 hq s57 ht1 ht2 ta
      have hL7 : H7 L = some (.lst vs) := s57 _ _ h5
      refine ⟨.ref q, H7, vs, rfl, I7, hL7, smallLt (m := 5001) (by omega), ?_⟩
      intro s8 h8 I8
      have hfr : ∀ b o u, H7 b = some (.frz o u) → upd H7 L (.lst (vs ++ [.ref q])) b = some (.frz o u) := by
        intro c o u e
        have hne : c ≠ L := by
          intro z
          rw [z, hL7] at e
          cases e
        rw [upd_ne hne]
        exact e
      have ta8 := ta.mono hfr
      have hl8 := ((hl.mono (frz_same s57)).mono hfr).snoc (pt := ⟨p, .last⟩) ta8
      have hi8 := hi.snoc ht1 ht2 hn1
      have s8' : Same H (upd H7 L (.lst (vs ++ [.ref q]))) := Same.put (s5.trans s57) hL
      have h8L : upd H7 L (.lst (vs ++ [.ref q])) L = some (.lst (vs ++ [.ref q])) := upd_same
      generalize upd H7 L (.lst (vs ++ [.ref q])) = H8 at *
      refine wpAny_execs_cons (wpAny_Return_some (raw_name (i := 1) rfl (.inl rfl) I8 rfl ?_))
      rintro _ rfl
      exact ⟨_, H8, I8, kq _ hlex L _ _ s8 H8 hL s8' h8L hl8 (hi8.up h8)⟩
end
end Ls
set_option Elab.async false
set_option linter.all false
set_option maxRecDepth 100000
set_option maxHeartbeats 4000000
/-! parsing: the reader of tokens, read_told, read_letters, read_bounded -/
namespace Ls
open PySem PySem.Spec PyProof.Rows L2
open VasedBase (isBlank isDigit isLetter decimal numberOf showNat PTok Toks)
/-! ### tokens as they come -/
/-- a token that is not the end -/
def WfT : VTok → Prop
  | .name b => 1 ≤ b.length ∧ b.length ≤ 8 ∧ ∀ c ∈ b, isLetter c = true
  | .num n => n ≤ 1000000000
  | .sign c => c = 59
  | .last => False
def WfL (l : List PTok) : Prop := ∀ i pt, l[i]? = some pt → (i + 1 = l.length ∧ pt.tok = .last) ∨ (i + 1 < l.length ∧ WfT pt.tok)
/-- a reader: where it stands, its tokens -/
structure RD where
  r : Addr
  dx : Addr
  L : Addr
  vs : List V
  l : List PTok
  ts : List Nat
def trF (L : Addr) (k : Nat) : List (Str × V) := [("tokens", .ref L), ("place", .int k)]
structure TRd (K : PySem.W.Frag) (H : Hp) (R : RD) (k : Nat) : Prop where
  ob : H R.r = some (.ins (He.ga K "TokenReader") R.dx (trF R.L k))
  ls : H R.L = some (.lst R.vs)
  tk : TokL K H R.vs R.l R.ts
  wf : WfL R.l
  lt : k < R.l.length
  sz : R.l.length ≤ 5000
theorem TRd.ne {K : PySem.W.Frag} {H : Hp} {R : RD} {k : Nat} (h : TRd K H R k) : R.L ≠ R.r := fun e => by
  have h1 := h.ls
  rw [e, h.ob] at h1
  cases h1
theorem TRd.kp {K : PySem.W.Frag} {H H' : Hp} {R : RD} {k j : Nat} (h : TRd K H R k) (s : KpO R.r H H') (e : H' R.r = some (.ins (He.ga K "TokenReader") R.dx (trF R.L j))) (hj : j < R.l.length) : TRd K H' R j := by
  refine ⟨e, s _ _ h.ls h.ne, h.tk.mono ?_, h.wf, hj, h.sz⟩
  intro b o u hb
  refine s _ _ hb ?_
  rintro rfl
  rw [h.ob] at hb
  cases hb
theorem TRd.same {K : PySem.W.Frag} {H H' : Hp} {R : RD} {k : Nat} (h : TRd K H R k) (s : Same H H') : TRd K H' R k := h.kp (KpO.of s) (s _ _ h.ob) h.lt
/-- the token that stands there -/
theorem TRd.at {K : PySem.W.Frag} {H : Hp} {R : RD} {k : Nat} (h : TRd K H R k) : ∃ (pt : PTok) (q : Addr) (t : Nat), R.l[k]? = some pt ∧ R.vs[k]? = some (.ref q) ∧ R.ts[k]? = some t ∧ TokAt K H q (sOf (toldOf pt.tok)) t ((pt.place : Nat) : Int) ∧
    R.l.drop k = pt :: R.l.drop (k + 1) ∧ ((pt.tok = .last) ∨ (k + 1 < R.l.length ∧ WfT pt.tok)) := by
  have hk := h.lt
  obtain ⟨pt, hp⟩ : ∃ pt, R.l[k]? = some pt := ⟨R.l[k]'hk, by simp⟩
  obtain ⟨q, t, h1, h2, h3⟩ := h.tk.2.2 k pt hp
  refine ⟨pt, q, t, hp, h1, h2, h3, ?_, ?_⟩
  · rw [List.drop_eq_getElem_cons hk]
    congr 1
    rw [List.getElem?_eq_getElem hk] at hp
    exact Option.some.inj hp
  · obtain h4 | h4 := h.wf k pt hp
    · exact .inl h4.2
    · exact .inr h4
/-- a fault is let out, the reader's place apart -/
def FltR (K : PySem.W.Frag) (r : Addr) (H : Hp) (E : XK) (c k : Nat) : Prop := ∀ H1 d, KpO r H H1 → H d = none → H1 d = some (.xd [("place", .int k), ("code", .int c)]) → E (.ref (He.ga K "Fault")) (some d) H1
theorem kpo_free {r : Addr} {H H' : Hp} (s : KpO r H H') (hr : H' r ≠ none) {d : Addr} (h : H' d = none) : H d = none := by
  cases e : H d with
  | none => rfl
  | some o =>
    by_cases hd : d = r
    · rw [hd] at h
      exact absurd h hr
    · rw [s _ _ e hd] at h
      cases h
theorem FltR.mono {K : PySem.W.Frag} {r : Addr} {H H' : Hp} {E : XK} {c k : Nat} (h : FltR K r H E c k) (s : KpO r H H') (hr : H' r ≠ none) : FltR K r H' E c k := fun H1 d s1 hd hx => h H1 d (s.trans s1) (kpo_free s hr hd) hx
theorem FltR.make {K : PySem.W.Frag} {r : Addr} {H H1 : Hp} {E : XK} {c k : Nat} (h : FltR K r H E c k) (s : KpO r H H1) (hr : H1 r ≠ none) : ∀ d, H1 d = none → E (.ref (He.ga K "Fault")) (some d) (upd H1 d (.xd [("place", .int k), ("code", .int c)])) := fun d hd =>
  h _ d (s.trans (KpO.of (Same.new hd))) (kpo_free s hr hd) upd_same
/-- what reading comes to -/
def Pst {α : Type} (x : Except VasedBase.Fault (α × Toks)) (K : PySem.W.Frag) (R : RD) (H : Hp) (E : XK) (good : α → Nat → Hp → Prop) : Prop := match x with
  | .error f => FltR K R.r H E f.code f.place
  | .ok (v, rest) => ∀ j H', rest = R.l.drop j → KpO R.r H H' → TRd K H' R j → good v j H'
theorem Pst.imp {α : Type} {x : Except VasedBase.Fault (α × Toks)} {K : PySem.W.Frag} {R : RD} {H : Hp} {E : XK} {g g' : α → Nat → Hp → Prop} (h : Pst x K R H E g) (k : ∀ v j H', KpO R.r H H' → TRd K H' R j → g v j H' → g' v j H') : Pst x K R H E g' := by
  cases x with
  | error f => exact h
  | ok p => exact fun j H' e s t => k _ _ _ s t (h j H' e s t)
theorem Pst.map {α β : Type} {x : Except VasedBase.Fault (α × Toks)} {f : α → β} {K : PySem.W.Frag} {R : RD} {H : Hp} {E : XK} {g : β → Nat → Hp → Prop} (h : Pst (x.map fun y => (f y.1, y.2)) K R H E g) : Pst x K R H E (fun v => g (f v)) := by
  cases x with
  | error f => exact h
  | ok p => exact h
theorem Pst.bind {α β : Type} {x : Except VasedBase.Fault (α × Toks)} {f : α × Toks → Except VasedBase.Fault (β × Toks)} {K : PySem.W.Frag} {R : RD} {H : Hp} {E : XK} {g : β → Nat → Hp → Prop} (h : Pst (x.bind f) K R H E g) : Pst x K R H E (fun v j H' => Pst (f (v, R.l.drop j)) K R H' E g) := by
  cases x with
  | error f => exact h
  | ok p =>
    obtain ⟨v, rest⟩ := p
    intro j H' e s t
    subst e
    have h : Pst (f (v, R.l.drop j)) K R H E g := h
    generalize f (v, R.l.drop j) = y at *
    cases y with
    | error f2 => exact FltR.mono h s (by rw [t.ob]; intro z; cases z)
    | ok p2 => exact fun j2 H2 e2 s2 t2 => h j2 H2 e2 (s.trans s2) t2
theorem Pst.from {α : Type} {x : Except VasedBase.Fault (α × Toks)} {K : PySem.W.Frag} {R : RD} {H H1 : Hp} {k : Nat} {E : XK} {g : α → Nat → Hp → Prop} (h : Pst x K R H E g) (s : KpO R.r H H1) (t : TRd K H1 R k) : Pst x K R H1 E g := by
  cases x with
  | error f => exact FltR.mono h s (by rw [t.ob]; intro z; cases z)
  | ok p => exact fun j H' e s2 t2 => h j H' e (s.trans s2) t2
/-! ### texts of tokens -/
theorem let_ne {c : UInt8} (h : isLetter c = true) : 97 ≤ c.toNat ∧ c.toNat ≤ 122 := of_decide_eq_true h
theorem alpha_let : ∀ i : Fin 26, Unicode.isAlpha (97 + i.val) = true ∧ Unicode.isDigit (97 + i.val) = false := by decide +kernel
theorem alpha_dig : ∀ i : Fin 10, Unicode.isAlpha (48 + i.val) = false ∧ Unicode.isDigit (48 + i.val) = true := by decide +kernel
theorem alpha_semi : Unicode.isAlpha 59 = false ∧ Unicode.isDigit 59 = false := by decide +kernel
theorem show_ne (n : Nat) : showNat n ≠ [] := by
  unfold showNat
  intro e
  have h := List.map_eq_nil_iff.mp e
  have h2 := toDigits_len_ge 10 n
  rw [h] at h2
  exact absurd h2 (by decide)
theorem show_dig (n : Nat) : AllDig (showNat n) := by
  intro c hc
  unfold showNat at hc
  obtain ⟨ch, hch, rfl⟩ := List.mem_map.mp hc
  have r := digit_range (Nat.isDigit_of_mem_toDigits (by decide) (by decide) hch)
  unfold isDigit
  refine decide_eq_true ?_
  rw [UInt8.toNat_ofNat']
  omega
theorem txt_all {p : Nat → Bool} {x : Ln} (hne : x ≠ []) : (decide ((sOf x).length > 0) && (sOf x).cps.all p) = x.all fun c => p c.toNat := by
  have h1 : decide ((sOf x).length > 0) = true := decide_eq_true (by rw [sOf_len]; exact List.length_pos_iff.mpr hne)
  rw [h1, Bool.true_and, ← Array.all_toList, sOf_cps, List.all_map]
  rfl
theorem let_uni {c : UInt8} (h : isLetter c = true) : Unicode.isAlpha c.toNat = true ∧ Unicode.isDigit c.toNat = false := by
  obtain ⟨h1, h2⟩ := let_ne h
  have e := alpha_let ⟨c.toNat - 97, by omega⟩
  simp only at e
  rw [show 97 + (c.toNat - 97) = c.toNat by omega] at e
  exact e
theorem dig_uni {c : UInt8} (h : isDigit c = true) : Unicode.isAlpha c.toNat = false ∧ Unicode.isDigit c.toNat = true := by
  obtain ⟨h1, h2⟩ := dig_of h
  have e := alpha_dig ⟨c.toNat - 48, by omega⟩
  simp only at e
  rw [show 48 + (c.toNat - 48) = c.toNat by omega] at e
  exact e
theorem all_first {p : UInt8 → Bool} {x : Ln} (hne : x ≠ []) (h : ∀ c ∈ x, p c = false) : x.all p = false := by
  cases x with
  | nil => exact absurd rfl hne
  | cons c r =>
    rw [List.all_cons, h c (by simp)]
    rfl
theorem all_true {p : UInt8 → Bool} {x : Ln} (h : ∀ c ∈ x, p c = true) : x.all p = true := List.all_eq_true.mpr h
def isName : VTok → Bool
  | .name _ => true
  | _ => false
def isNum : VTok → Bool
  | .num _ => true
  | _ => false
theorem told_kind {tk : VTok} (h : tk = .last ∨ WfT tk) : Txt.isalpha (sOf (toldOf tk)) = isName tk ∧ Txt.isdigit (sOf (toldOf tk)) = isNum tk := by
  unfold Txt.isalpha Txt.isdigit
  cases tk with
  | last => exact ⟨rfl, rfl⟩
  | sign c =>
    obtain h | h := h
    · cases h
    · obtain rfl : c = 59 := h
      have hn : toldOf (.sign 59) ≠ [] := by intro z; cases z
      have hc : ∀ c ∈ toldOf (.sign 59), c = UInt8.ofNat 59 := fun c hc => by simpa [toldOf] using hc
      constructor
      · exact (txt_all hn).trans (all_first hn fun c h => by rw [hc c h]; exact alpha_semi.1)
      · exact (txt_all hn).trans (all_first hn fun c h => by rw [hc c h]; exact alpha_semi.2)
  | num n =>
    have hd : AllDig (toldOf (.num n)) := show_dig n
    have hn : toldOf (.num n) ≠ [] := show_ne n
    constructor
    · exact (txt_all hn).trans (all_first hn fun c hc => (dig_uni (hd c hc)).1)
    · exact (txt_all hn).trans (all_true fun c hc => (dig_uni (hd c hc)).2)
  | name b =>
    obtain h | h := h
    · cases h
    · obtain ⟨h1, _, h3⟩ : 1 ≤ b.length ∧ b.length ≤ 8 ∧ ∀ c ∈ b, isLetter c = true := h
      have hn : toldOf (.name b) ≠ [] := fun z => by
        have z : b = [] := z
        rw [z] at h1
        simp at h1
      constructor
      · exact (txt_all hn).trans (all_true fun c hc => (let_uni (h3 c hc)).1)
      · exact (txt_all hn).trans (all_first hn fun c hc => (let_uni (h3 c hc)).2)
theorem vS_dec (x y : Ln) : decide (vS x = vS y) = (x == y) := by
  rw [Bool.beq_eq_decide_eq]
  exact decide_eq_decide.mpr ⟨fun h => sOf_inj (V.str.inj h), fun h => by rw [h]⟩
theorem told_word {tk : VTok} (h : tk = .last ∨ WfT tk) {w : Ln} (hw : w ≠ []) (hl : ∀ c ∈ w, isLetter c = true) : decide (vS (toldOf tk) = vS w) = VasedBase.tokEq tk (.name w) := by
  rw [vS_dec]
  cases tk with
  | name b => rfl
  | last =>
    show ([] == w) = false
    rw [beq_eq_false_iff_ne]
    exact fun z => hw z.symm
  | num n =>
    show (showNat n == w) = false
    rw [beq_eq_false_iff_ne]
    intro z
    cases w with
    | nil => exact hw rfl
    | cons c r =>
      have h1 := dig_of (show_dig n c (by rw [z]; simp))
      have h2 := let_ne (hl c (by simp))
      omega
  | sign c =>
    obtain h | h := h
    · cases h
    · obtain rfl : c = 59 := h
      show ([UInt8.ofNat 59] == w) = false
      rw [beq_eq_false_iff_ne]
      rintro rfl
      have h2 := let_ne (hl (UInt8.ofNat 59) List.mem_cons_self)
      revert h2
      decide
theorem told_end {tk : VTok} (h : tk = .last ∨ WfT tk) : decide (vS (toldOf tk) = vS []) = VasedBase.tokEq tk .last := by
  rw [vS_dec]
  cases tk with
  | name b =>
    obtain h | ⟨h1, _, h3⟩ := h
    · cases h
    · show (b == []) = false
      rw [beq_eq_false_iff_ne]
      rintro rfl
      simp at h1
  | last => rfl
  | num n =>
    show (showNat n == []) = false
    rw [beq_eq_false_iff_ne]
    exact show_ne n
  | sign c => rfl
theorem told_semi {tk : VTok} (h : tk = .last ∨ WfT tk) : decide (vS (toldOf tk) = vS [59]) = VasedBase.tokEq tk (.sign 59) := by
  rw [vS_dec]
  cases tk with
  | name b =>
    obtain h | ⟨h1, _, h3⟩ := h
    · cases h
    · show (b == [59]) = false
      rw [beq_eq_false_iff_ne]
      rintro rfl
      have h2 := let_ne (h3 59 (by simp))
      revert h2
      decide
  | last => rfl
  | num n =>
    show (showNat n == [59]) = false
    rw [beq_eq_false_iff_ne]
    intro z
    have h1 := dig_of (show_dig n 59 (by rw [z]; simp))
    revert h1
    decide
  | sign c =>
    obtain h | h := h
    · cases h
    · obtain rfl : c = 59 := h
      rfl
theorem told_short {tk : VTok} (h : tk = .last ∨ WfT tk) : (toldOf tk).length ≤ 10 := by
  cases tk with
  | name b =>
    obtain h | ⟨h1, h2, h3⟩ := h
    · cases h
    · exact Nat.le_trans h2 (by decide)
  | last => exact Nat.zero_le _
  | num n =>
    obtain h | h := h
    · cases h
    · have h : n ≤ 1000000000 := h
      exact show_len (by decide) (Nat.lt_of_le_of_lt h (by decide))
  | sign c => exact (by decide : 1 ≤ 10)
end Ls
set_option Elab.async false
set_option linter.all false
set_option maxRecDepth 100000
set_option maxHeartbeats 4000000
/-! parsing: TokenReader, read_told, read_bounded -/
namespace Ls
open PySem PySem.Spec PyProof.Rows L2
open VasedBase (isBlank isDigit isLetter decimal numberOf showNat PTok Toks)
def spTRInit (K : PySem.W.Frag) : Sp := fun vs H Q _ => ∃ (p dx a : Addr), vs = [.ref p, .ref a] ∧ H p = some (.ins (He.ga K "TokenReader") dx []) ∧ Q .non (upd H p (.ins (He.ga K "TokenReader") dx (trF a 0)))
def spComing (K : PySem.W.Frag) : Sp := fun vs H Q _ => ∃ (R : RD) (k : Nat), vs = [.ref R.r] ∧ TRd K H R k ∧ ∀ q, R.vs[k]? = some (.ref q) → Q (.ref q) H
def spReadTok (K : PySem.W.Frag) : Sp := fun vs H Q _ => ∃ (R : RD) (k : Nat), vs = [.ref R.r] ∧ TRd K H R k ∧ ∀ q H', R.vs[k]? = some (.ref q) → KpO R.r H H' → H' R.r = some (.ins (He.ga K "TokenReader") R.dx (trF R.L (k + 1))) → Q (.ref q) H'
def spReadTold (K : PySem.W.Frag) : Sp := fun vs H Q E => ∃ (R : RD) (k : Nat) (x : Ln) (c : VTok), vs = [.ref R.r, vS x] ∧ TRd K H R k ∧ c ≠ .last ∧ (∀ tk, tk = .last ∨ WfT tk → decide (vS (toldOf tk) = vS x) = VasedBase.tokEq tk c) ∧
  Pst ((VasedBase.taken c (R.l.drop k)).map fun m => ((), m)) K R H E (fun _ _ H' => Q .non H')
def spBounded (K : PySem.W.Frag) : Sp := fun vs H Q E => ∃ (R : RD) (k lo hi : Nat), vs = [.ref R.r, .int lo, .int hi] ∧ TRd K H R k ∧ Pst (Vaseda.takeNum lo hi (R.l.drop k)) K R H E (fun n _ H' => Q (.int n) H')
section
variable {P : Program} {w : World} {K : PySem.W.Frag} {mg : Str → Option Value} {base : Heap}
theorem tr_tokens {a : Addr} {k : Nat} : (trF a k).lookup (Str.ofString "tokens") = some (.ref a) := rfl
theorem tr_place {a : Addr} {k : Nat} : (trF a k).lookup (Str.ofString "place") = some (.int k) := rfl
theorem sc_TokenReader___init__ : FnScope ["self", "tokens"] ["self", "tokens"] (defScope s_TokenReader___init__) := ⟨rfl, rfl, rfl, by decide +kernel, rfl, by decide +kernel, by decide +kernel⟩
theorem ok_TokenReader (T : Txt K mg) : COk P w K mg base 1 "TokenReader" (He.ga K "TokenReader") (spTRInit K) := by
  obtain ⟨fd, F⟩ := T.f_TokenReader___init__
  have sc := sc_TokenReader___init__
  refine cok F T.m_TokenReader T.g_TokenReader (fun _ _ _ _ _ _ us hl => match us, hl with | [_, _], _ => rfl) sc (fun vs H Q E h => by obtain ⟨_, _, _, rfl, _⟩ := h; rfl) (fun cdv A outer s H vs Q E hr h => ?_)
  refine ⟨_, PSs.nox (pss_cons (ps_fldK (K := K) rfl (pv 0) (pv 1) rfl)
  (pss_one (ps_fldK (K := K) rfl (pv 0) pe_int rfl))), ?_⟩
  obtain ⟨p, dx, a, rfl, hp, kq⟩ := h
  refine ⟨_, rfl, _, rfl, p, _, dx, _, rfl, hp, T.c_TokenReader, T.n_TokenReader_tokens, by show 0 < 1000; decide, ?_⟩
  refine ⟨_, rfl, p, _, dx, _, rfl, upd_same, T.c_TokenReader, T.n_TokenReader_place, by show 1 < 1000; decide, ?_⟩
  rw [upd_upd]
  exact kq
theorem sc_TokenReader_coming : FnScope ["self"] ["self"] (defScope s_TokenReader_coming) := ⟨rfl, rfl, rfl, by decide +kernel, rfl, by decide +kernel, by decide +kernel⟩
theorem ok_coming (T : Txt K mg) : MOk P w K mg base CX0 1 (He.ga K "TokenReader") "coming" (spComing K) := by
  obtain ⟨fd, F⟩ := T.f_TokenReader_coming
  have sc := sc_TokenReader_coming
  refine mok F T.c_TokenReader T.m_TokenReader_coming (fun _ _ _ _ _ _ us hl => match us, hl with | [_], _ => rfl) sc (fun vs H Q E h => by obtain ⟨_, _, rfl, _⟩ := h; rfl) (fun cdv A outer s H vs Q E hr h => ?_)
  refine ⟨_, PSs.nox (pss_one (ps_ret (pe_ix (ix_listK (K := K) rfl) (pe_fldK (K := K) rfl (pv 0) rfl) (pe_fldK (K := K) rfl (pv 0) rfl) (fun _ _ => rfl)))), ?_⟩
  obtain ⟨R, k, rfl, hR, kq⟩ := h
  obtain ⟨pt, q, t, h1, h2, h3, h4, h5, h6⟩ := hR.at
  exact ⟨_, rfl, R.r, _, R.dx, _, _, rfl, hR.ob, T.c_TokenReader, T.n_TokenReader_tokens, tr_tokens, _, rfl, R.r, _, R.dx, _, _, rfl, hR.ob, T.c_TokenReader, T.n_TokenReader_place, tr_place, R.L, _, (k : Int), _, rfl, rfl, SqL.of hR.ls, atI_at h2, kq q h2⟩
theorem sc_TokenReader_read_token : FnScope ["self", "token"] ["self"] (defScope s_TokenReader_read_token) := ⟨rfl, rfl, rfl, by decide +kernel, rfl, by decide +kernel, by decide +kernel⟩
theorem ok_read_token (T : Txt K mg) : MOk P w K mg base CX0 2 (He.ga K "TokenReader") "read_token" (spReadTok K) := by
  obtain ⟨fd, F⟩ := T.f_TokenReader_read_token
  have sc := sc_TokenReader_read_token
  have K_TokenReader_coming := ok_coming (P := P) (w := w) (base := base) T
  refine mok F T.c_TokenReader T.m_TokenReader_read_token (fun _ _ _ _ _ _ us hl => match us, hl with | [_], _ => rfl) sc (fun vs H Q E h => by obtain ⟨_, _, rfl, _⟩ := h; rfl) (fun cdv A outer s H vs Q E hr h => ?_)
  refine ⟨_, PSs.nox (pss_cons (ps_set (i := 1) sc.nd rfl (Or.inl rfl) (pe_mt0 (pv 0) K_TokenReader_coming hr (by first | decide | omega)))
  (pss_cons (ps_fldaugK (K := K) rfl (pv 0) pe_int in_add)
  (pss_one (ps_ret (pv 1))))), ?_⟩
  obtain ⟨R, k, rfl, hR, kq⟩ := h
  refine ⟨_, rfl, R.r, R.dx, _, rfl, hR.ob, rfl, R, k, rfl, hR, fun q hq => ?_⟩
  refine ⟨_, rfl, R.r, _, R.dx, _, _, rfl, hR.ob, T.c_TokenReader, T.n_TokenReader_place, tr_place, _, _, rfl, rfl, R.dx, _, hR.ob, by show 2 < 1000; decide, ?_⟩
  refine ⟨_, rfl, kq q _ hq KpO.put ?_⟩
  rw [upd_same]
  rfl
theorem sc_read_told : FnScope ["reader", "told", "token"] ["reader", "told"] (defScope s_read_told) := ⟨rfl, rfl, rfl, by decide +kernel, rfl, by decide +kernel, by decide +kernel⟩
theorem ok_read_told (T : Txt K mg) : DOk P w K mg base (L2.CX P w) 3 "read_told" (spReadTold K) := by
  obtain ⟨fd, F⟩ := T.f_read_told
  have sc := sc_read_told
  have K_TokenReader_read_token := ok_read_token (P := P) (w := w) (base := base) T
  obtain ⟨_, c_NOT_ALLOWED⟩ := T.v_NOT_ALLOWED
  refine dok F T.g_read_told (fun _ _ _ _ _ _ us hl => match us, hl with | [_, _], _ => rfl) sc (fun vs H Q E h => by obtain ⟨_, _, _, _, rfl, _⟩ := h; rfl) (fun cdv A outer s H vs Q E hr h => ?_)
  refine ⟨_, (pss_cons (ps_set (i := 2) sc.nd rfl (Or.inl rfl) (pe_mt0 (pv 0) K_TokenReader_read_token hr (by first | decide | omega)))
  (pss_one (ps_if (pt_cmpR op_ne (pe_told rfl T (pv 2)) (pv 1) (nomark _))
  (pss_one (ps_raise rfl (takes_of rfl rfl rfl rfl) (pmk_fault rfl T hr (by first | decide | omega) rfl (pa_cons (pe_glob (v := .int (3)) rfl c_NOT_ALLOWED ⟨_, rfl⟩) (pa_cons (pe_tplace rfl T (pv 2)) pa_nil)))))
  pss_nil))), ?_⟩
  obtain ⟨R, k, x, c, rfl, hR, hc, hx, kq⟩ := h
  obtain ⟨pt, q, t, h1, h2, h3, h4, h5, h6⟩ := hR.at
  have hw : pt.tok = .last ∨ WfT pt.tok := h6.imp (fun z => z) (fun z => z.2)
  refine ⟨_, rfl, R.r, R.dx, _, rfl, hR.ob, rfl, R, k, rfl, hR, fun q' H1 hq s1 e1 => ?_⟩
  rw [h2] at hq
  obtain rfl : q = q' := by injection hq with hq; injection hq
  have hne : H1 R.r ≠ none := by rw [e1]; intro z; cases z
  have ta : TokAt K H1 q (sOf (toldOf pt.tok)) t ((pt.place : Nat) : Int) := h4.mono fun b o u hb => s1 _ _ hb (by
    rintro rfl
    rw [hR.ob] at hb
    cases hb)
  refine ⟨_, rfl, q, _, _, _, rfl, ta, _, rfl, rfl, _, rfl, ?_⟩
  show if (!decide (vS (toldOf pt.tok) = vS x)) = true then _ else _
  rw [hx _ hw]
  rw [h5] at kq
  unfold VasedBase.taken at kq
  have en : VasedBase.next c (pt :: R.l.drop (k + 1)) = VasedBase.tokEq pt.tok c := rfl
  rw [en] at kq
  cases ht : VasedBase.tokEq pt.tok c
  · rw [ht, if_neg Bool.false_ne_true] at kq
    rw [if_pos (show (!false) = true from rfl)]
    have kq : FltR K R.r H E 3 pt.place := kq
    exact ⟨_, rfl, q, _, _, _, rfl, ta, fault_in (kq.make s1 hne)⟩
  · rw [ht, if_pos rfl] at kq
    rw [if_neg (show ¬ (!true) = true from Bool.false_ne_true)]
    have hlt : k + 1 < R.l.length := by
      obtain z | z := h6
      · rw [z] at ht
        cases c with
        | last => exact absurd rfl hc
        | name _ => cases ht
        | num _ => cases ht
        | sign _ => cases ht
      · exact z.1
    exact kq (k + 1) H1 rfl s1 (hR.kp s1 e1 hlt)
end
end Ls
set_option Elab.async false
set_option linter.all false
set_option maxRecDepth 100000
set_option maxHeartbeats 4000000
/-! parsing: read_bounded, read_letters, read_letters_or_none -/
namespace Ls
open PySem PySem.Spec PyProof.Rows L2
open VasedBase (isBlank isDigit isLetter decimal numberOf showNat PTok Toks)
theorem show_cps (n : Nat) : (showNat n).map UInt8.toNat = (Nat.toDigits 10 n).map Char.toNat := by
  unfold showNat
  rw [List.map_map]
  refine List.map_congr_left fun c hc => ?_
  have r := digit_range (Nat.isDigit_of_mem_toDigits (by decide) (by decide) hc)
  show (UInt8.ofNat c.toNat).toNat = c.toNat
  rw [UInt8.toNat_ofNat']
  omega
theorem dec_show (n : Nat) : decimal (showNat n) = n := by
  rw [← dval_dec, show_cps]
  exact PySem.W.KIN.val_back n
def spLettersW (K : PySem.W.Frag) : SpW := fun vs _ _ H Q E => ∃ (R : RD) (k : Nat), vs = [.ref R.r] ∧ TRd K H R k ∧ Pst (Vaseda.takeLetters (R.l.drop k)) K R H E (fun w _ H' => ∀ (t : Nat) s1, R.ts[k]? = some t → Q (.str (sOf w) t) s1 H')
def spLetters (K : PySem.W.Frag) : Sp := fun vs H Q E => ∃ (R : RD) (k : Nat), vs = [.ref R.r] ∧ TRd K H R k ∧ Pst (Vaseda.takeLetters (R.l.drop k)) K R H E (fun w _ H' => Q (vS w) H')
section
variable {P : Program} {w : World} {K : PySem.W.Frag} {mg : Str → Option Value} {base : Heap}
theorem sc_read_bounded : FnScope ["reader", "least", "greatest", "token", "number"] ["reader", "least", "greatest"] (defScope s_read_bounded) := ⟨rfl, rfl, rfl, by decide +kernel, rfl, by decide +kernel, by decide +kernel⟩
theorem ok_read_bounded (T : Txt K mg) : DOk P w K mg base (L2.CX P w) 3 "read_bounded" (spBounded K) := by
  obtain ⟨fd, F⟩ := T.f_read_bounded
  have sc := sc_read_bounded
  have K_TokenReader_read_token := ok_read_token (P := P) (w := w) (base := base) T
  obtain ⟨_, c_NOT_ALLOWED⟩ := T.v_NOT_ALLOWED; obtain ⟨_, c_OUT_OF_BOUNDS⟩ := T.v_OUT_OF_BOUNDS
  refine dok F T.g_read_bounded (fun _ _ _ _ _ _ us hl => match us, hl with | [_, _, _], _ => rfl) sc (fun vs H Q E h => by obtain ⟨_, _, _, _, rfl, _⟩ := h; rfl) (fun cdv A outer s H vs Q E hr h => ?_)
  refine ⟨_, (pss_cons (ps_set (i := 3) sc.nd rfl (Or.inl rfl) (pe_mt0 (pv 0) K_TokenReader_read_token hr (by first | decide | omega)))
  (pss_cons (ps_if (pt_not (pt_truthK (K := K) rfl (pe_bm0 PySem.F.plainAttrs_str PySem.F.slot_str_isdigit PySem.F.type_str_isdigit mt_isdigit (pe_told rfl T (pv 3))) (fun _ => rfl)))
  (pss_one (ps_raise rfl (takes_of rfl rfl rfl rfl) (pmk_fault rfl T hr (by first | decide | omega) rfl (pa_cons (pe_glob (v := .int (3)) rfl c_NOT_ALLOWED ⟨_, rfl⟩) (pa_cons (pe_tplace rfl T (pv 3)) pa_nil)))))
  pss_nil)
  (pss_cons (ps_set (i := 4) sc.nd rfl (Or.inl rfl) (pe_callTy call_int_str rfl T.b_int (by decide +kernel) (pa_cons (pe_told rfl T (pv 3)) pa_nil)))
  (pss_cons (ps_if (PW.pt (pw_or (pt_cmpR op_lt (pv 4) (pv 1) (nomark _)) (pw_or1 (pt_cmpR op_gt (pv 4) (pv 2) (nomark _)))))
  (pss_one (ps_raise rfl (takes_of rfl rfl rfl rfl) (pmk_fault rfl T hr (by first | decide | omega) rfl (pa_cons (pe_glob (v := .int (7)) rfl c_OUT_OF_BOUNDS ⟨_, rfl⟩) (pa_cons (pe_tplace rfl T (pv 3)) pa_nil)))))
  pss_nil)
  (pss_one (ps_ret (pv 4))))))), ?_⟩
  obtain ⟨R, k, lo, hi, rfl, hR, kq⟩ := h
  obtain ⟨pt, q, t, h1, h2, h3, h4, h5, h6⟩ := hR.at
  have hw : pt.tok = .last ∨ WfT pt.tok := h6.imp (fun z => z) (fun z => z.2)
  obtain ⟨_, hkd⟩ := told_kind hw
  have hsh := told_short hw
  refine ⟨_, rfl, R.r, R.dx, _, rfl, hR.ob, rfl, R, k, rfl, hR, fun q' H1 hq s1 e1 => ?_⟩
  rw [h2] at hq
  obtain rfl : q = q' := by injection hq with hq; injection hq
  have hne : H1 R.r ≠ none := by rw [e1]; intro z; cases z
  have ta : TokAt K H1 q (sOf (toldOf pt.tok)) t ((pt.place : Nat) : Int) := h4.mono fun b o u hb => s1 _ _ hb (by
    rintro rfl
    rw [hR.ob] at hb
    cases hb)
  refine ⟨_, rfl, q, _, _, _, rfl, ta, rfl, _, rfl, rfl, trivial, ?_⟩
  rw [hkd]
  rw [h5] at kq
  obtain ⟨place, tok⟩ := pt
  cases tok with
  | num n =>
    have hlt : k + 1 < R.l.length := by
      obtain z | z := h6
      · cases z
      · exact z.1
    have kq : Pst (if n < lo ∨ hi < n then .error ⟨7, place⟩ else .ok (n, R.l.drop (k + 1))) K R H E (fun n _ H' => Q (.int n) H') := kq
    refine ⟨true, rfl, ?_⟩
    show if (!true) = true then _ else _
    rw [if_neg (show ¬ (!true) = true from Bool.false_ne_true)]
    have hn : n ≤ 1000000000 := by
      obtain z | z := h6
      · cases z
      · exact z.2
    have hit : PySem.intText? (sOf (showNat n)) = some ((n : Nat) : Int) := by
      have e := int_text (show_dig n) (show_ne n) (Nat.le_trans hsh (by decide))
      rw [dec_show] at e
      exact e
    refine ⟨_, rfl, q, _, _, _, rfl, ta, _, _, rfl, hit, by rw [sOf_len]; exact Nat.le_trans hsh (by decide), ?_⟩
    refine ⟨_, rfl, _, rfl, _, _, rfl, rfl, _, rfl, ?_⟩
    show if decide (((n : Nat) : Int) < ((lo : Nat) : Int)) = true then _ else _
    by_cases c1 : n < lo
    · rw [if_pos (decide_eq_true (by omega))]
      rw [if_pos (.inl c1)] at kq
      have kq : FltR K R.r H E 7 place := kq
      exact ⟨_, rfl, q, _, _, _, rfl, ta, fault_in (kq.make s1 hne)⟩
    · rw [if_neg (by rw [decide_eq_true_eq]; omega)]
      refine ⟨_, rfl, _, rfl, _, _, rfl, rfl, _, rfl, ?_⟩
      show if decide (((hi : Nat) : Int) < ((n : Nat) : Int)) = true then _ else _
      by_cases c2 : hi < n
      · rw [if_pos (decide_eq_true (by omega))]
        rw [if_pos (.inr c2)] at kq
        have kq : FltR K R.r H E 7 place := kq
        exact ⟨_, rfl, q, _, _, _, rfl, ta, fault_in (kq.make s1 hne)⟩
      · rw [if_neg (by rw [decide_eq_true_eq]; omega)]
        rw [if_neg (by rintro (z | z) <;> omega)] at kq
        exact ⟨_, rfl, kq (k + 1) H1 rfl s1 (hR.kp s1 e1 hlt)⟩
  | name b =>
    have kq : FltR K R.r H E 3 place := kq
    exact ⟨false, rfl, _, rfl, q, _, _, _, rfl, ta, fault_in (kq.make s1 hne)⟩
  | sign c =>
    have kq : FltR K R.r H E 3 place := kq
    exact ⟨false, rfl, _, rfl, q, _, _, _, rfl, ta, fault_in (kq.make s1 hne)⟩
  | last =>
    have kq : FltR K R.r H E 3 place := kq
    exact ⟨false, rfl, _, rfl, q, _, _, _, rfl, ta, fault_in (kq.make s1 hne)⟩
theorem sc_read_letters : FnScope ["reader", "token"] ["reader"] (defScope s_read_letters) := ⟨rfl, rfl, rfl, by decide +kernel, rfl, by decide +kernel, by decide +kernel⟩
theorem okW_read_letters (T : Txt K mg) : DOkW P w K mg base (L2.CX P w) 3 "read_letters" (spLettersW K) := by
  obtain ⟨fd, F⟩ := T.f_read_letters
  have sc := sc_read_letters
  have K_TokenReader_read_token := ok_read_token (P := P) (w := w) (base := base) T
  obtain ⟨_, c_NOT_ALLOWED⟩ := T.v_NOT_ALLOWED
  refine dokW F T.g_read_letters (fun _ _ _ _ _ _ us hl => match us, hl with | [_], _ => rfl) sc (fun vs us s H Q E h => by obtain ⟨_, _, rfl, _⟩ := h; rfl) (fun cdv A outer s H vs us Q E s1 hr r h ht I hh => ?_)
  obtain ⟨R, k, rfl, hR, kq⟩ := h
  clear r hh
  obtain ⟨pt, q, t, h1, h2, h3, h4, h5, h6⟩ := hR.at
  have hw : pt.tok = .last ∨ WfT pt.tok := h6.imp (fun z => z) (fun z => z.2)
  obtain ⟨hka, _⟩ := told_kind hw
  have hown := He.tupB_ok T.t_OWN_WORDS
  rw [own_V] at hown
  refine seqW (N := fun σ' H1 => σ' = [some (.ref R.r), some (.ref q)] ∧ KpO R.r H H1 ∧ H1 R.r = some (.ins (He.ga K "TokenReader") R.dx (trF R.L (k + 1))))
    (ps_set (i := 1) sc.nd rfl (Or.inl rfl) (pe_mt0 (pv 0) K_TokenReader_read_token hr (by first | decide | omega))) I ?_ ?_
  · refine ⟨_, rfl, R.r, R.dx, _, rfl, hR.ob, rfl, R, k, rfl, hR, fun q' H1 hq s1 e1 => ?_⟩
    rw [h2] at hq
    obtain rfl : q = q' := by injection hq with hq; injection hq
    exact ⟨rfl, s1, e1⟩
  rintro s2 _ H1 k2 I2 ⟨rfl, sk, e1⟩
  have hne : H1 R.r ≠ none := by rw [e1]; intro z; cases z
  have ta : TokAt K H1 q (sOf (toldOf pt.tok)) t ((pt.place : Nat) : Int) := h4.mono fun b o u hb => sk _ _ hb (by
    rintro rfl
    rw [hR.ob] at hb
    cases hb)
  rw [h5] at kq
  refine seqW (N := fun σ' H' => σ' = [some (.ref R.r), some (.ref q)] ∧ H1 = H' ∧ ∃ b, pt.tok = .name b ∧ VasedBase.RESERVED.contains b = false)
    (ps_if (PW.pt (pw_or (pt_not (pt_truthK (K := K) rfl (pe_bm0 PySem.F.plainAttrs_str PySem.F.slot_str_isalpha PySem.F.type_str_isalpha mt_isalpha (pe_told rfl T (pv 1))) (fun _ => rfl))) (pw_or1 (pt_cmpR (op_inK (K := K) rfl) (pe_told rfl T (pv 1)) (pe_glob (v := .ref (He.ga K "OWN_WORDS")) rfl T.g_OWN_WORDS rfl) rfl))))
      (pss_one (ps_raise rfl (takes_of rfl rfl rfl rfl) (pmk_fault rfl T hr (by first | decide | omega) rfl (pa_cons (pe_glob (v := .int (3)) rfl c_NOT_ALLOWED ⟨_, rfl⟩) (pa_cons (pe_tplace rfl T (pv 1)) pa_nil)))))
      pss_nil) I2 ?_ ?_
  · refine ⟨_, rfl, q, _, _, _, rfl, ta, rfl, _, rfl, rfl, trivial, ?_⟩
    rw [hka]
    obtain ⟨place, tok⟩ := pt
    cases tok with
    | name b =>
      refine ⟨true, rfl, ?_⟩
      show if (!true) = true then _ else _
      rw [if_neg (show ¬ (!true) = true from Bool.false_ne_true)]
      refine ⟨_, rfl, q, _, _, _, rfl, ta, He.ga K "OWN_WORDS", _, rfl, .inr (hown H1), rfl, flat_tS _, _, rfl, ?_⟩
      show if (if false = true then !inV (vS b) (tS VasedBase.RESERVED) else inV (vS b) (tS VasedBase.RESERVED)) = true then _ else _
      rw [if_neg (show ¬ false = true from Bool.false_ne_true), inV_vS]
      have kq : Pst ((if VasedBase.RESERVED.contains b = true then VasedBase.wrong (⟨place, .name b⟩ :: R.l.drop (k + 1)) else .ok ((⟨place, b⟩ : VasedBase.PName), R.l.drop (k + 1))).map fun x => (x.1.name, x.2)) K R H E (fun w _ H' => ∀ (t : Nat) s1, R.ts[k]? = some t → Q (.str (sOf w) t) s1 H') := kq
      cases hc : VasedBase.RESERVED.contains b
      · rw [if_neg Bool.false_ne_true]
        exact ⟨rfl, rfl, b, rfl, hc⟩
      · rw [if_pos rfl]
        rw [if_pos hc] at kq
        have kq : FltR K R.r H E 3 place := kq
        exact ⟨_, rfl, q, _, _, _, rfl, ta, fault_in (kq.make sk hne)⟩
    | num n =>
      have kq : FltR K R.r H E 3 place := kq
      exact ⟨false, rfl, _, rfl, q, _, _, _, rfl, ta, fault_in (kq.make sk hne)⟩
    | sign c =>
      have kq : FltR K R.r H E 3 place := kq
      exact ⟨false, rfl, _, rfl, q, _, _, _, rfl, ta, fault_in (kq.make sk hne)⟩
    | last =>
      have kq : FltR K R.r H E 3 place := kq
      exact ⟨false, rfl, _, rfl, q, _, _, _, rfl, ta, fault_in (kq.make sk hne)⟩
  rintro s3 _ _ k3 I3 ⟨rfl, rfl, b, hb, hc⟩
  obtain ⟨place, tok⟩ := pt
  obtain rfl : tok = .name b := hb
  have hlt : k + 1 < R.l.length := by
    obtain z | z := h6
    · cases z
    · exact z.1
  have kq : Pst ((if VasedBase.RESERVED.contains b = true then VasedBase.wrong (⟨place, .name b⟩ :: R.l.drop (k + 1)) else .ok ((⟨place, b⟩ : VasedBase.PName), R.l.drop (k + 1))).map fun x => (x.1.name, x.2)) K R H E (fun w _ H' => ∀ (t : Nat) s1, R.ts[k]? = some t → Q (.str (sOf w) t) s1 H') := kq
  rw [if_neg (by rw [hc]; exact Bool.false_ne_true)] at kq
  refine wpAny_execs_cons (wpAny_Return_some (attr_of (by rfl) (raw_name (i := 1) rfl (.inl rfl) I3 rfl ?_)))
  rintro _ rfl
  refine told_raw T I3 ta ?_
  exact ⟨_, _, I3.tok _, kq (k + 1) _ rfl sk (hR.kp sk e1 hlt) t _ h3⟩
/-- a def whose result is told exactly, without that -/
theorem DOkW.plain {CX : CXT} {k : Nat} {x : Str} {spw : SpW} {sp : Sp} (c : DOkW P w K mg base CX k x spw) (h : ∀ vs H Q E us s, Vals vs us → sp vs H Q E → spw vs us s H (fun u _ H' => ∃ v, RelV v u ∧ Q v H') E) (hl : ∀ vs H Q E, sp vs H Q E → ∃ us, Vals vs us) : DOk P w K mg base CX k x sp := by
  obtain ⟨f, fd, ps, F, hm, kp, b⟩ := c.ex
  refine ⟨f, fd, ps, ⟨?_, ?_⟩, hm, kp, b⟩
  · intro vs H Q E q
    obtain ⟨us, r⟩ := hl vs H Q E q
    exact F.len vs us ({} : Shared) H _ E (h vs H Q E us _ r q)
  · intro A outer s H args us vs Q E hr he hb r q
    refine codeAny_mono (F.go A outer s H args us vs _ E hr he hb r (h vs H Q E us s r q)) ?_
    rintro (e | (_ | _ | _ | u)) s1 hq
    · exact hq
    · exact hq.elim
    · exact hq.elim
    · exact hq.elim
    · obtain ⟨H', os, bare, un, hok, _, v, rv, q1⟩ := crw_ret hq
      exact ⟨v, H', os, bare, un, hok, rv, q1⟩
theorem ok_read_letters (T : Txt K mg) : DOk P w K mg base (L2.CX P w) 3 "read_letters" (spLetters K) := by
  refine DOkW.plain (okW_read_letters T) ?_ ?_
  · rintro vs H Q E us s r ⟨R, k, rfl, hR, kq⟩
    exact ⟨R, k, rfl, hR, kq.imp fun v j H' _ _ q t s1 _ => ⟨vS v, ⟨t, rfl⟩, q⟩⟩
  · rintro vs H Q E ⟨R, k, rfl, hR, kq⟩
    exact ⟨[.ref R.r], .cons rfl .nil⟩
theorem inc_ne {ts : List Nat} {n : Nat} (h : Inc ts n) {i j a b : Nat} (hi : ts[i]? = some a) (hj : ts[j]? = some b) (hij : i < j) : a ≠ b := by
  obtain ⟨h1, e1⟩ := List.getElem?_eq_some_iff.mp hi
  obtain ⟨h2, e2⟩ := List.getElem?_eq_some_iff.mp hj
  have h3 := List.pairwise_iff_getElem.mp h.1 i j h1 h2 hij
  rw [e1, e2] at h3
  exact Nat.ne_of_lt h3
theorem inc_at {ts : List Nat} {n i a : Nat} (h : Inc ts n) (hi : ts[i]? = some a) : 1 ≤ a ∧ a < n := h.2 a (List.mem_of_getElem? hi)
def spInsteadW (K : PySem.W.Frag) : SpW := fun vs _ s H Q E => ∃ (R : RD) (k : Nat), vs = [.ref R.r] ∧ TRd K H R k ∧ Inc R.ts s.toks ∧
  Pst (Vaseda.takeInstead (R.l.drop k)) K R H E (fun w _ H' => ∀ (t : Nat) s1, 1 ≤ t → (∀ i t', R.ts[i]? = some t' → i < k → t' ≠ t) → Q (.str (sOf w) t) s1 H')
theorem word_let (s : String) (h : ((VasedBase.word s).all isLetter && !(VasedBase.word s).isEmpty) = true) : VasedBase.word s ≠ [] ∧ ∀ c ∈ VasedBase.word s, isLetter c = true := by
  obtain ⟨h1, h2⟩ := Bool.and_eq_true_iff.mp h
  refine ⟨fun z => ?_, fun c hc => List.all_eq_true.mp h1 c hc⟩
  rw [z] at h2
  cases h2
theorem sc_read_letters_or_none : FnScope ["reader"] ["reader"] (defScope s_read_letters_or_none) := ⟨rfl, rfl, rfl, by decide +kernel, rfl, by decide +kernel, by decide +kernel⟩
theorem okW_instead (T : Txt K mg) : DOkW P w K mg base (L2.CX P w) 4 "read_letters_or_none" (spInsteadW K) := by
  obtain ⟨fd, F⟩ := T.f_read_letters_or_none
  have sc := sc_read_letters_or_none
  have K_TokenReader_read_token := ok_read_token (P := P) (w := w) (base := base) T
  have K_TokenReader_coming := ok_coming (P := P) (w := w) (base := base) T
  have K_read_letters := okW_read_letters (P := P) (w := w) (base := base) T
  refine dokW F T.g_read_letters_or_none (fun _ _ _ _ _ _ us hl => match us, hl with | [_], _ => rfl) sc (fun vs us s H Q E h => by obtain ⟨_, _, rfl, _⟩ := h; rfl) (fun cdv A outer s H vs us Q E s1 hr r h ht I hh => ?_)
  obtain ⟨R, k, rfl, hR, hi, kq⟩ := h
  clear r hh
  obtain ⟨pt, q, t, h1, h2, h3, h4, h5, h6⟩ := hR.at
  have hw : pt.tok = .last ∨ WfT pt.tok := h6.imp (fun z => z) (fun z => z.2)
  obtain ⟨hn1, hn2⟩ := word_let "none" (by decide +kernel)
  have en : V.str (Str.ofString "none") = vS (VasedBase.word "none") := by decide +kernel
  have hti := inc_at hi h3
  have kq : Pst (if VasedBase.tokEq pt.tok (.name (VasedBase.word "none")) = true then .ok ([], R.l.drop (k + 1)) else Vaseda.takeLetters (R.l.drop k)) K R H E (fun w _ H' => ∀ (t : Nat) s1, 1 ≤ t → (∀ i t', R.ts[i]? = some t' → i < k → t' ≠ t) → Q (.str (sOf w) t) s1 H') := by
    unfold Vaseda.takeInstead at kq
    rw [h5] at kq ⊢
    exact kq
  refine ifW' (N := fun d H1 => H = H1 ∧ d = VasedBase.tokEq pt.tok (.name (VasedBase.word "none"))) (pt_cmpR op_eq (pe_told rfl T (pe_mt0 (pv 0) K_TokenReader_coming hr (by first | decide | omega))) pe_str (nomark _)) I ?_ ?_ ?_
  · refine ⟨_, rfl, R.r, R.dx, _, rfl, hR.ob, rfl, R, k, rfl, hR, fun q' hq => ?_⟩
    rw [h2] at hq
    obtain rfl : q = q' := by injection hq with hq; injection hq
    refine ⟨q, _, _, _, rfl, h4, rfl, _, rfl, rfl, ?_⟩
    rw [en]
    exact told_word hw hn1 hn2
  · rintro s2 _ k2 I2 ⟨rfl, e⟩
    rw [if_pos e.symm] at kq
    have hlt : k + 1 < R.l.length := by
      obtain z | z := h6
      · rw [z] at e
        cases e
      · exact z.1
    refine seqW (N := fun σ' H1 => σ' = [some (.ref R.r)] ∧ KpO R.r H H1 ∧ H1 R.r = some (.ins (He.ga K "TokenReader") R.dx (trF R.L (k + 1))))
      (ps_expr (pe_mt0 (pv 0) K_TokenReader_read_token hr (by first | decide | omega))) I2 ?_ ?_
    · exact ⟨_, rfl, R.r, R.dx, _, rfl, hR.ob, rfl, R, k, rfl, hR, fun q' H1 hq s1 e1 => ⟨rfl, s1, e1⟩⟩
    rintro s3 _ H1 k3 I3 ⟨rfl, sk, e1⟩
    refine wpAny_execs_cons (wpAny_Return_some (Calls.Constant_str ?_))
    refine ⟨⟨_, _, I3.tok _, kq (k + 1) H1 rfl sk (hR.kp sk e1 hlt) s3.toks _ (by omega) ?_⟩, by intro z; cases z⟩
    intro i t' hit _
    have := (inc_at hi hit).2
    omega
  · rintro s2 _ k2 I2 ⟨rfl, e⟩
    rw [if_neg (by rw [← e]; exact Bool.false_ne_true)] at kq
    refine wpAny_execs_cons (wpAny_Return_some (pe_dW (E := E) (Q := Q) K_read_letters hr (by decide) rfl (passAt (takes_of rfl rfl rfl rfl) _) (pa_cons (pv 0) pa_nil) I2 ?_ ?_))
    · refine ⟨_, rfl, ?_⟩
      intro us s3 r3 h3'
      refine ⟨R, k, rfl, hR, kq.imp ?_⟩
      intro w j H' _ _ g t' s4 ht'
      rw [h3] at ht'
      obtain rfl : t = t' := Option.some.inj ht'
      exact g t s4 hti.1 fun i t' hit hik => inc_ne hi hit h3 hik
    · intro u s3 H3 _ I3 q3
      exact ⟨_, _, I3, q3⟩
end
end Ls
set_option Elab.async false
set_option linter.all false
set_option maxRecDepth 100000
set_option maxHeartbeats 4000000
/-! for over a list whose items are told exactly, the target captured -/
namespace Ls
open PySem PySem.Spec PyProof.Rows L2
/-- a captured name's cell holds u -/
def HasC (X : Cx) (x : Str) (u : Value) (s : Shared) : Prop := ∃ c, X.env.cells.lookup x = some c ∧ s.heap.IsCell c (some u)
section
variable {X : Cx} {pins : List (Addr × Obj)} {σ : L2.St} {H : Hp} {s s1 : Shared} {x : Str} {u : Value}
theorem HasC.keep (h : HasC X x u s) (k : CK X s s1) : HasC X x u s1 := by
  obtain ⟨c, e, z⟩ := h
  exact ⟨c, e, k.2 x c e _ z⟩
theorem cell_name {p : Pos} {Q E : Value → Shared → Prop} (hk : X.env.scope.kind = .function) (hv : X.env.kindOf x = some .cell ∨ X.env.kindOf x = some .free) (h : HasC X x u s) (q : Q u s)
    (hd : (x == ("__debug__" : Str)) = false := by decide) (hcd : (x == ("__classdict__" : Str)) = false := by decide) : wpAny (model X.prog X.w) X.A (eval (.Name x p) X.env) Q E s := by
  obtain ⟨c, e, z⟩ := h
  rcases hv with hv | hv
  · exact wpAny_Name (wpAny_loadName_cell hk hv e z q) hd
  · exact wpAny_Name (wpAny_loadName_free hk hv e z q hcd) hd
/-- a captured name is stored -/
theorem put_cell {M : Model} {A : Around} {E : Value → Shared → Prop} {i : Nat} {v : V} {Q : Unit → Shared → Prop} (I : Inv X pins σ H s) (nd : X.N.Nodup) (hi : X.N[i]? = some x) (hk : X.env.kindOf x = some .cell) (hf : X.fn x = true) (r : RelV v u)
    (q : ∀ h', Inv X pins (σ.set i (some v)) H { s with heap := h' } → HasC X x u { s with heap := h' } → Q () { s with heap := h' }) : wpAny M A (storeName X.env x u) Q E s := by
  obtain ⟨c, hc⟩ := I.ok.has x (.inl hk)
  obtain ⟨w, hw⟩ := I.cell x c hc
  obtain ⟨oc, go, gd⟩ := id hw
  obtain ⟨m, hn, hl⟩ := id I.loc
  have hil : i < σ.length := by
    have h1 := (List.getElem?_eq_some_iff.mp hi).1
    have h2 := I.len
    omega
  have freeC : H c = none := I.freeC x c hc
  refine wpAny_storeName_cell I.ok.kind hk hc hw fun h' hc' sb => ?_
  have old : ∀ b o, X.s_0.heap.get? b = some o → b ≠ c := fun b o e => Nat.ne_of_lt (Nat.lt_of_lt_of_le (Heap.lt_size e) (I.ok.cab x c hf hc))
  have hok : HOk X.prog X.w H h' := by
    intro b ob e
    refine (I.hok b ob e).stay (fun d w' hd g => (sb.2 d ?_).trans g) (fun _ g => g) fun _ _ g => g
    intro z
    subst z
    rcases hd with hd | hd
    · rw [← hd, freeC] at e
      cases e
    · rw [freeC] at hd
      cases hd
  refine q h' ?_ ⟨c, hc, hc'⟩
  constructor
  · exact I.ok
  · exact I.os
  · exact I.bare
  · refine ⟨fun b o e n h1 h2 => (sb.2 b (old b o e)).trans (I.base.keep b o e n h1 h2), fun b o e n h1 h2 => ?_, I.base.free, fun b o e h2 => ?_, I.base.tups, I.base.frzs, I.base.tbls⟩
    · obtain ⟨sl, e1⟩ := I.base.slot b o e n h1 h2
      exact ⟨sl, (sb.2 b (old b o e)).trans e1⟩
    · obtain ⟨o', e1⟩ := I.base.there b o e h2
      exact ⟨o', (sb.2 b (old b o e)).trans e1⟩
  · refine ⟨m, hn.sameBut sb (Ne.symm (I.cne x c hc)), fun j y v' e1 e2 e3 => ?_⟩
    by_cases hj : j = i
    · subst hj
      rw [hi] at e1
      cases e1
      rw [List.getElem?_set_self hil] at e2
      cases e2
      exact ⟨u, r, .inr ⟨.inl hk, c, hc, hc'⟩⟩
    · rw [List.getElem?_set_ne (Ne.symm hj)] at e2
      obtain ⟨u', r', look⟩ := hl j y v' e1 e2 e3
      refine ⟨u', r', ?_⟩
      rcases look with look | ⟨k, d, e, z⟩
      · exact .inl look
      · refine .inr ⟨k, d, e, z.sameBut sb ?_⟩
        intro dc
        rw [dc] at e
        have hyx := I.ok.inj _ _ _ e hc
        rw [hyx] at e1
        exact hj (nodup_ix nd e1 hi)
  · intro y d e
    by_cases dc : d = c
    · rw [dc]
      exact ⟨_, hc'⟩
    · obtain ⟨w2, z2⟩ := I.cell y d e
      exact ⟨w2, z2.sameBut sb dc⟩
  · exact I.free
  · exact I.freeC
  · intro p hp
    obtain ⟨e, n, ne, nf, d⟩ := I.pin p hp
    refine ⟨(sb.2 p.1 fun z => ?_).trans e, n, ne, nf, d⟩
    rw [z, go] at e
    exact d w (by rw [← Option.some.inj e]; exact gd)
  · exact hok
  · rw [List.length_set]
    exact I.len
/-- for name in list: body, then the rest; the list's items are told exactly, the name is captured -/
theorem forC {py pos : Pos} {iter : Expr} {body rest : List Stmt} {Q : WK} {iy : Nat} (hp : PassesOwn (model X.prog X.w) X.A X.env X.xe) (hc : X.calm = true) (nd : X.N.Nodup) (hy : X.N[iy]? = some x) (hk : X.env.kindOf x = some .cell) (hf : X.fn x = true) (hs : ∀ v, foldedSetIterable iter X.env v = pure v)
    (hi : wpAny (model X.prog X.w) X.A (eval iter X.env) (fun v s1 => ∃ (L : Addr) (its : List Value) (n : Nat) (xs : List V) (σ1 : L2.St) (H1 : Hp), v = .ref L ∧ Inv X [] σ1 H1 s1 ∧ Vals xs its ∧ ∃ W : Nat → L2.St → Hp → Nat → Prop, W 0 σ1 H1 s1.toks ∧
      (∀ i σ' H' k, W i σ' H' k → H' L = some (.frz { cls := .type "list", data := .seq its.toArray n } (.lst xs))) ∧
      (∀ i u y σ3 H3 k3 s6 pinsB, its[i]? = some u → xs[i]? = some y → RelV y u → W i σ3 H3 k3 → k3 ≤ s6.toks → Inv X pinsB (σ3.set iy (some y)) H3 s6 → HasC X x u s6 →
        wpAny (model X.prog X.w) X.A (execs body X.env) (fun f s7 => f = .next ∧ ∃ σ7 H7, Inv X pinsB σ7 H7 s7 ∧ W (i + 1) σ7 H7 s7.toks) X.xe s6) ∧
      (∀ σ3 H3 k3 s4, W its.length σ3 H3 k3 → k3 ≤ s4.toks → Inv X [] σ3 H3 s4 → wpAny (model X.prog X.w) X.A (execs rest X.env) (BW X Q) X.xe s4)) X.xe s) :
    wpAny (model X.prog X.w) X.A (execs (.For (.Name x py) iter body [] pos :: rest) X.env) (BW X Q) X.xe s := by
  refine wpAny_execs_cons (wpAny_For (thn hi ?_) hs)
  rintro v s1 ⟨L, its, n, xs, σ1, H1, rfl, I1, rv, W, w0, wL, turn, fin⟩
  have lst : ∀ {s' : Shared} {H' : Hp}, HOk X.prog X.w H' s'.heap → H' L = some (.frz { cls := .type "list", data := .seq its.toArray n } (.lst xs)) → s'.heap.IsList L its.toArray := fun ok e => ⟨_, (ok L _ e).1, rfl, n, rfl⟩
  have l1 := lst I1.hok (wL _ _ _ _ w0)
  have ltL : L < s1.heap.objs.size := by
    obtain ⟨o, e, _⟩ := l1
    exact Heap.lt_size e
  refine wpAny_pyIter_list l1 ?_
  have R := rw_list (prog := X.prog) (w := X.w) (A := X.A) (it := s1.heap.objs.size) (L := L) (its := its.toArray) (I1.ok.hd hc) (Nat.ne_of_lt ltL)
  have I2 : Inv X [] σ1 H1 { s1 with heap := s1.heap.push { cls := .type "list_iterator", data := .fields #[.ref L, .int 0 0] } } := I1.kept (t' := s1.toks) fun b o e => Heap.get?_push_of_some _ e
  have f1 : FpOk X [] H1 s1.heap.objs.size := I1.fpOk (Nat.le_refl _) (I1.hok.fresh (Nat.le_refl _))
  have st1 : ({ s1 with heap := s1.heap.push { cls := .type "list_iterator", data := .fields #[.ref L, .int 0 0] } } : Shared).heap.IsListIter s1.heap.objs.size L 0 := ⟨_, Heap.get?_push_size _ rfl, rfl, rfl⟩
  generalize s1.heap.objs.size = it at *
  have stat : ∀ {H' : Hp}, H' it = none → ∀ b ∈ [it], FpOk X [] H' b := fun hn b hb => by
    rw [List.mem_singleton.mp hb]
    exact ⟨hn, f1.2⟩
  have hsz : its.toArray.size = its.length := List.size_toArray ..
  refine codeAny_forLoop_any (fun m s' => ∃ i σ' H' k, m = its.length - i ∧ i ≤ its.length ∧ k ≤ s'.toks ∧ Inv X [] σ' H' s' ∧ s'.heap.IsListIter it L i ∧ H' it = none ∧ W i σ' H' k) ?_ its.length ⟨0, σ1, H1, s1.toks, by omega, Nat.zero_le _, Nat.le_refl _, I2, st1, f1.1, w0⟩
  rintro m s3 ⟨i, σ3, H3, k3, rfl, hi3, tk3, I3, st3, n3, w3⟩
  have l3 := lst I3.hok (wL _ _ _ _ w3)
  by_cases hlt : i < its.length
  · refine wpAny_passesOwn hp (R.item i s3 _ _ (by rw [hsz]; exact hlt) st3 l3 fun u h' tk hu htk st4 k4 => ?_)
    have I4 : Inv X [] σ3 H3 { s3 with heap := h', toks := tk } := by
      obtain ⟨f0, f1, f2, f3, f4, f5⟩ := stat n3 it (List.mem_singleton.mpr rfl)
      exact I3.turned (t' := tk) k4 f0 f1 f3 f4 f5
    have I4p := I4.pinned (stat n3) (fun b hb => by rw [List.mem_singleton.mp hb]; exact R.obj _ _ st4)
    have hu' : its[i]? = some u := by
      have : its.toArray[i]? = some u := hu
      simpa using this
    obtain ⟨y, hxy, ry⟩ := vals_mono rv hu'
    show wpAny _ _ (letOwnedTupleGo (.Name x py) (.ref it) u) _ _ _
    rw [show letOwnedTupleGo (.Name x py) (.ref it) u = pure () from rfl]
    refine wpAny_pure ?_
    refine wpAny_passesOwn hp (wpAny_assign_Name (put_cell I4p nd hy hk hf ry fun h6 I6 c6 => ?_))
    have t6 : k3 ≤ tk := Nat.le_trans tk3 htk
    refine wpAny_passesOwn hp (wpAny_mono (wpAny_toks (turn i u y σ3 H3 k3 _ _ hu' hxy ry w3 t6 I6 c6)) ?_ fun _ _ z => z.2)
    rintro f s7 ⟨t7, rfl, σ7, H7, I7, w7⟩
    obtain ⟨oi, ei, _⟩ := R.obj _ _ st4
    have pin := I7.pin (it, oi) (List.mem_append_right _ (List.mem_append_right _ (mem_pinsAt (List.mem_singleton.mpr rfl) ei)))
    refine ⟨its.length - (i + 1), by omega, i + 1, σ7, H7, s7.toks, rfl, hlt, Nat.le_refl _, I7.unpinned, R.keep _ _ _ st4 fun o e => ?_, pin.2.1, w7⟩
    have q : oi = o := by rw [ei] at e; exact Option.some.inj e
    rw [← q]
    exact pin.1
  · obtain rfl : i = its.length := by omega
    refine wpAny_passesOwn hp (R.done s3 _ _ (by rw [hsz]; exact st3) l3 fun h' tk htk k4 => ?_)
    have I4 : Inv X [] σ3 H3 { s3 with heap := h', toks := tk } := by
      obtain ⟨f0, f1, f2, f3, f4, f5⟩ := stat n3 it (List.mem_singleton.mpr rfl)
      exact I3.turned (t' := tk) k4 f0 f1 f3 f4 f5
    exact wpAny_execs_nil (fin σ3 H3 k3 _ w3 (Nat.le_trans tk3 htk) I4)
/-- a tuple ('..', a, b) laid, its texts told exactly -/
theorem lay_sw {t0 ta tb : Tok} {k0 za zb : Str} {a b : Ln} (I : Inv X pins σ H s) (e0 : k0 = "swap") (ea : V.str za = vS a) (eb : V.str zb = vS b) (n1 : ta ≠ 0) (n2 : tb ≠ 0) (n3 : ta ≠ tb) :
    ∃ o : HO, Inv X pins σ (upd H s.heap.objs.size o) { s with heap := s.heap.push { cls := .type "tuple", data := .seq [Value.str k0 t0, .str za ta, .str zb tb].toArray } } ∧ H s.heap.objs.size = none ∧ RepD (upd H s.heap.objs.size o) (.ref s.heap.objs.size) (.swap a b) := by
  have h3s : 3 ≤ sizeLine := by decide
  refine ⟨.frz { cls := .type "tuple", data := .seq [Value.str k0 t0, .str za ta, .str zb tb].toArray } (.tup (dItems (.swap a b))), ?_, I.hok.fresh (Nat.le_refl _), _, rfl, ?_⟩
  · refine I.laid (t' := s.toks) (fun b u e => Heap.get?_push_of_some _ e) (Nat.le_refl _) ⟨Heap.get?_push_size _ rfl, h3s, [Value.str k0 t0, .str za ta, .str zb tb], ?_, IsTup.new s.heap _⟩
    show Vals [.str "swap", vS a, vS b] _
    rw [← e0, ← ea, ← eb]
    exact .cons ⟨_, rfl⟩ (.cons ⟨_, rfl⟩ (.cons ⟨_, rfl⟩ .nil))
  · rw [if_pos (show repl (.swap a b) = true from rfl)]
    exact ⟨_, upd_same, t0, ta, tb, k0, za, zb, 0, rfl, rfl, n1, n2, n3⟩
end
end Ls
set_option Elab.async false
set_option linter.all false
set_option maxRecDepth 100000
set_option maxHeartbeats 4000000
/-! family: swaps_of -/
namespace Ls
open PySem PySem.Spec PyProof.Rows L2
open Vasedf (lettersIn)
def swapsD (es : List VEx) : List VDeed := (lettersIn (es.map (·.a))).flatMap fun a => ((lettersIn (es.map (·.b))).filter fun b => b != a).map (fun b => Vaseda.Deed.swap [a] [b]) ++ [Vaseda.Deed.swap [a] []]
def spSwaps (K : PySem.W.Frag) : Sp := fun vs H Q _ => ∃ (a : Addr) (es : List VEx), vs = [.ref a] ∧ RepE K H a es ∧ okE es ∧ NewR RepD (swapsD es) H Q
def spSwapsW (K : PySem.W.Frag) : SpW := fun vs _ _ H Q _ => ∃ (a : Addr) (es : List VEx), vs = [.ref a] ∧ RepE K H a es ∧ okE es ∧
  ∀ p s' H' ys, H p = none → Same H H' → H' p = some (.lst ys) → Paired (RepD H') ys (swapsD es) → Q (.ref p) s' H'
/-- the swaps of a letter by some others -/
def swFor (c : UInt8) (l : List UInt8) : List VDeed := (l.filter fun b => b != c).map fun b => Vaseda.Deed.swap [c] [b]
theorem swFor_len (c : UInt8) (l : List UInt8) : (swFor c l).length ≤ l.length := by
  unfold swFor
  rw [List.length_map]
  exact List.length_filter_le _ _
theorem one_ne (b c : UInt8) : (sOf [b] != sOf [c]) = (b != c) := by
  by_cases h : b = c
  · subst h
    simp
  · have h2 : ¬ sOf [b] = sOf [c] := fun e => h (by simpa using sOf_inj e)
    rw [bne_iff_ne.mpr h, bne_iff_ne.mpr h2]
section
variable {X : Cx} {pins : List (Addr × Obj)} {σ : L2.St} {H : Hp} {s : Shared} {l b : Addr} {xs zs : List V}
/-- a list longer by another one, the frame kept -/
theorem ext_raw {Q E : Value → Shared → Prop} (I : Inv X pins σ H s) (hl : H l = some (.lst xs)) (hb : H b = some (.lst zs)) (hz : xs.length + zs.length ≤ sizeLine)
    (h : ∀ s', s'.toks = s.toks → CK X s s' → Inv X pins σ (upd H l (.lst (xs ++ zs))) s' → Q .none s') : wpAny (model X.prog X.w) X.A (call (.builtin "list.extend") [.ref l, .ref b]) Q E s := by
  obtain ⟨_, us, n, r, e1, g⟩ := I.lstM hl
  obtain ⟨_, us2, n2, r2, e2, g2⟩ := I.lstM hb
  have hs : us.toArray.size + us2.toArray.size ≤ sizeLine := by
    rw [List.size_toArray, List.size_toArray]
    omega
  have hg : ¬ (!us.toArray.isEmpty && Builtin.List.listTooLong (us.toArray.size + us2.toArray.size)) = true := by
    rw [notLongL hs, Bool.and_false]
    decide
  have hu : us.toArray.size ≤ sizeLine := by
    rw [List.size_toArray]
    omega
  refine call_meets PySem.F.slot_list_extend ⟨_, g, rfl⟩ PySem.F.entry_list_extend (PySem.F.args_list_extend_2 _ _) (AutoSeq1.list_extend_list_list_0 l us.toArray n b us2.toArray n2 hg hu (by omega)) ⟨g, g2, ?_⟩
  have nl : X.env.locals ≠ l := by
    intro z
    have f := I.free
    rw [z, hl] at f
    cases f
  refine h _ rfl (CK.of (Nat.le_refl _) (fun o e => ⟨o.slots, (Heap.get?_update_other s.heap _ nl.symm).trans e⟩) fun x c ec o e => ⟨o.slots, (Heap.get?_update_other s.heap _ ?_).trans e⟩) ?_
  · intro z
    have f := I.freeC x c ec
    rw [← z, hl] at f
    cases f
  · refine I.lset (its' := us ++ us2) hl g (by simp) (r.append r2) ?_
    rw [List.length_append]
    exact hz
/-- a captured name, in whatever frame -/
theorem cell_env {prog : Program} {w : World} {A : Around} {E : Value → Shared → Prop} {env : Env} {c : Addr} {x : Str} {u : Value} {p : Pos} {Q : Value → Shared → Prop} (hk : env.scope.kind = .function) (hv : env.kindOf x = some .cell ∨ env.kindOf x = some .free) (e : env.cells.lookup x = some c)
    (z : s.heap.IsCell c (some u)) (q : Q u s) (hd : (x == ("__debug__" : Str)) = false := by decide) (hcd : (x == ("__classdict__" : Str)) = false := by decide) : wpAny (model prog w) A (eval (.Name x p) env) Q E s := by
  rcases hv with hv | hv
  · exact wpAny_Name (wpAny_loadName_cell hk hv e z q) hd
  · exact wpAny_Name (wpAny_loadName_free hk hv e z q hcd) hd
/-- the frame by a list's new item -/
theorem ck_app {H' : Hp} {s' : Shared} (I : Inv X pins σ H s) (hl : H l = some (.lst xs)) (ht : s.toks ≤ s'.toks) (k : ∀ a o, a ≠ l → s.heap.get? a = some o → s'.heap.get? a = some o) : CK X s s' := by
  refine CK.of ht (fun o e => ⟨o.slots, k _ _ ?_ e⟩) fun x c ec o e => ⟨o.slots, k _ _ ?_ e⟩
  · intro z
    have f := I.free
    rw [z, hl] at f
    cases f
  · intro z
    have f := I.freeC x c ec
    rw [z, hl] at f
    cases f
end
section
variable {P : Program} {w : World} {K : PySem.W.Frag} {mg : Str → Option Value} {base : Heap}
theorem sc_swaps_of : FnScope ["examples", "example", "letters_after", "swaps", "letter", "other"] ["examples"] (defScope s_swaps_of) := ⟨rfl, rfl, rfl, by decide +kernel, rfl, by decide +kernel, by decide +kernel⟩
theorem okW_swaps_of (T : Txt K mg) : DOkW P w K mg base CX0 3 "swaps_of" (spSwapsW K) := by
  obtain ⟨fd, F⟩ := T.f_swaps_of
  have sc := sc_swaps_of
  have KL := okW_letters_of (P := P) (w := w) (base := base) T
  refine dokW0 F T.g_swaps_of (fun _ _ _ _ _ _ us hl => match us, hl with | [_], _ => rfl) sc (fun vs us s H Q E h => by obtain ⟨_, _, rfl, _⟩ := h; rfl) (fun cdv A outer s H vs us Q E s1 hr r h ht I hh => ?_)
  obtain ⟨a, es, rfl, ⟨ue, ha, hp⟩, hok, kq⟩ := h
  clear r hh
  have hul := paired_len hp
  have hes : ue.length ≤ 4 := by rw [hul]; exact hok.1
  obtain ⟨bsA, hbsA, hbiA⟩ := befores hp
  obtain ⟨bsB, hbsB, hbiB⟩ := afters hp
  have hblA : bsA.length = ue.length := by rw [paired_len hbsA, List.length_map, hul]
  have hblB : bsB.length = ue.length := by rw [paired_len hbsB, List.length_map, hul]
  obtain ⟨_, tA2, tA3⟩ := okTs (okE_a hok)
  obtain ⟨_, tB2, tB3⟩ := okTs (okE_b hok)
  have tA1 : (es.map (·.a)).length ≤ 10 := by rw [List.length_map]; omega
  have tB1 : (es.map (·.b)).length ≤ 10 := by rw [List.length_map]; omega
  have esw : swapsD es = (lettersIn (es.map (·.a))).flatMap fun c => swFor c (lettersIn (es.map (·.b))) ++ [Vaseda.Deed.swap [c] []] := rfl
  have lA := lettersIn_len (es.map (·.a))
  have lB := lettersIn_len (es.map (·.b))
  -- the letters of after
  refine wpAny_execs_cons (wpAny_Assign_Name (pe_dW (E := E) (Q := fun u s2 H2 => ∃ (q : Addr) (n : Nat), u = .ref q ∧ Same H H2 ∧ s1.toks ≤ n ∧ RawL H2 q (lettersIn (es.map (·.b))) (n + 1) s2.toks)
    KL hr (by decide) rfl (fun _ _ _ _ _ _ h => h.elim) (pa_cons (pe_lc (own := [("example", 1)]) rfl sc.nd (pi_listK (K := K) rfl (pv 0)) (blkOk_by (N := ["examples", "example", "letters_after", "swaps", "letter", "other"]) (sc := defScope s_swaps_of) (by decide +kernel)) (fun _ _ _ _ _ => (pg_name (i := 1) sc.nd rfl (Or.inl rfl))) (fun _ _ _ _ _ => pts_nil) (fun _ _ _ _ _ => (pe_fldK (K := K) rfl (pv 1) rfl))) pa_nil) I ?_ ?_) (by rfl))
  · refine ⟨_, rfl, a, rfl, ⟨_, SqL.of ha⟩, fun B hB => ?_⟩
    refine lc_list (K := K) (a := a) (xs := ue) (fun i H' => Same H H' ∧ H' B = some (.lst (bsB.take i))) ⟨Same.new hB, upd_same⟩ (fun i H1 _ ⟨s1, _⟩ => SqL.of (s1 _ _ ha)) ?_ ?_
    · rintro i y H1 hi ⟨sm, h1⟩
      obtain ⟨p, dx, b, c, rfl, hpp, hb⟩ := hbiB i y hi
      refine ⟨rfl, _, rfl, p, _, dx, _, _, rfl, sm _ _ hpp, T.c_Example, T.n_Example_after, ex_after _ _, _, h1, smallLt (m := 100) (by rw [List.length_take]; omega), Same.put sm hB, ?_⟩
      rw [upd_same, take_more hb]
    rintro H1 ⟨sm, h1⟩
    rw [← hblB, List.take_length] at h1
    intro us s2 r2 h2
    exact ⟨B, _, rfl, ⟨bsB, h1, RepT.sames sm hbsB⟩, tB1, tB2, tB3, fun q s' H' hq sm2 rq => ⟨q, s2.toks, rfl, sm.trans sm2, h2, rq⟩⟩
  rintro u s2 H2 k2 I2 ⟨L1, lo1, rfl, s02, hlo1, raw1⟩
  refine put_raw (i := 2) (v := .ref L1) I2 sc.nd rfl rfl rfl ?_
  intro s3 I3 k3 _ _
  obtain ⟨its1, n1, hL1, rv1, yg1⟩ := id raw1
  generalize hm1 : s2.toks = m1 at *
  -- swaps = []
  refine seqW (N := fun σ' H' => ∃ SW, σ' = [some (.ref a), none, some (.ref L1), some (.ref SW), none, none] ∧ H2 SW = none ∧ H' = upd H2 SW (.lst [])) (ps_set (i := 3) sc.nd rfl (Or.inl rfl) (pe_lst pa_nil)) I3 ?_ ?_
  · exact ⟨small (m := 10) (by show 0 ≤ 10; decide), fun SW hSW => ⟨SW, rfl, hSW, rfl⟩⟩
  rintro s4 _ _ k4 I4 ⟨SW, rfl, hSW, rfl⟩
  have s2sw := Same.new (o := HO.lst []) hSW
  have gsw : upd H2 SW (HO.lst []) SW = some (.lst []) := upd_same
  generalize hH3 : upd H2 SW (HO.lst []) = H3 at *
  have s03 := s02.trans s2sw
  -- for letter in ..
  refine forC (x := "letter") (iy := 4) PassesOwn.never rfl sc.nd rfl rfl rfl (fun _ => rfl) ?_
  refine pe_dW (E := E) (Q := fun u s5 H5 => ∃ (q : Addr) (n : Nat), u = .ref q ∧ Same H3 H5 ∧ H3 q = none ∧ s4.toks ≤ n ∧ RawL H5 q (lettersIn (es.map (·.a))) (n + 1) s5.toks)
    KL hr (by decide) rfl (fun _ _ _ _ _ _ h => h.elim) (pa_cons (pe_lc (own := [("example", 1)]) rfl sc.nd (pi_listK (K := K) rfl (pv 0)) (blkOk_by (N := ["examples", "example", "letters_after", "swaps", "letter", "other"]) (sc := defScope s_swaps_of) (by decide +kernel)) (fun _ _ _ _ _ => (pg_name (i := 1) sc.nd rfl (Or.inl rfl))) (fun _ _ _ _ _ => pts_nil) (fun _ _ _ _ _ => (pe_fldK (K := K) rfl (pv 1) rfl))) pa_nil) I4 ?_ ?_
  · refine ⟨_, rfl, a, rfl, ⟨_, SqL.of (s03 _ _ ha)⟩, fun B hB => ?_⟩
    refine lc_list (K := K) (a := a) (xs := ue) (fun i H' => Same H3 H' ∧ H' B = some (.lst (bsA.take i))) ⟨Same.new hB, upd_same⟩ (fun i H1 _ ⟨s1, _⟩ => SqL.of (s1 _ _ (s03 _ _ ha))) ?_ ?_
    · rintro i y H1 hi ⟨sm, h1⟩
      obtain ⟨p, dx, b, c, rfl, hpp, hb⟩ := hbiA i y hi
      refine ⟨rfl, _, rfl, p, _, dx, _, _, rfl, sm _ _ (s03 _ _ hpp), T.c_Example, T.n_Example_before, ex_before _ _, _, h1, smallLt (m := 100) (by rw [List.length_take]; omega), Same.put sm hB, ?_⟩
      rw [upd_same, take_more hb]
    rintro H1 ⟨sm, h1⟩
    rw [← hblA, List.take_length] at h1
    intro us s5 r5 h5
    exact ⟨B, _, rfl, ⟨bsA, h1, RepT.sames (s03.trans sm) hbsA⟩, tA1, tA2, tA3, fun q s' H' hq sm2 rq => ⟨q, s5.toks, rfl, sm.trans sm2, sm.free hq, h5, rq⟩⟩
  rintro u s5 H5 k5 I5 ⟨L2, lo2, rfl, s35, fL2, hlo2, raw2⟩
  obtain ⟨its2, n2, hL2, rv2, yg2⟩ := id raw2
  have len2 : its2.length = (lettersIn (es.map (·.a))).length := by
    rw [← rv2.length, tS_len, List.length_map]
  generalize hm2 : s5.toks = m2 at *
  have nSW2 : L2 ≠ SW := fun e => by rw [e, gsw] at fL2; cases fL2
  have nL1 : L1 ≠ SW := fun e => by rw [e] at hL1; rw [hSW] at hL1; cases hL1
  refine ⟨L2, its2, n2, _, _, H5, rfl, I5, rv2, fun i σ' H' k => ∃ v4 : Option V, σ' = [some (.ref a), none, some (.ref L1), some (.ref SW), v4, none] ∧ Same H2 H' ∧ m2 ≤ k ∧ H' L2 = some (.frz { cls := .type "list", data := .seq its2.toArray n2 } (.lst (lV (lettersIn (es.map (·.a)))))) ∧
    ∃ vs, H' SW = some (.lst vs) ∧ Paired (RepD H') vs (((lettersIn (es.map (·.a))).take i).flatMap fun c => swFor c (lettersIn (es.map (·.b))) ++ [Vaseda.Deed.swap [c] []]),
    ⟨none, rfl, s2sw.trans s35, Nat.le_refl _, hL2, [], s35 _ _ gsw, .nil⟩, fun i σ' H' k q => by obtain ⟨_, _, _, _, q, _⟩ := q; exact q, ?_, ?_⟩
  · rintro i u y _ H6 k6 s6 pinsB hu hy ry ⟨v4, rfl, sm6, mk6, hL26, vs, hSW6, rp6⟩ k66 I6 c6
    have h3s : 3 ≤ sizeLine := by decide
    obtain ⟨x0, hx0, rfl⟩ := tS_get hy
    rw [List.getElem?_map] at hx0
    obtain ⟨c, hc, rfl⟩ : ∃ c, (lettersIn (es.map (·.a)))[i]? = some c ∧ x0 = [c] := by
      cases hcc : (lettersIn (es.map (·.a)))[i]? with
      | none => rw [hcc] at hx0; cases hx0
      | some c => rw [hcc] at hx0; cases hx0; exact ⟨c, rfl, rfl⟩
    obtain ⟨zc, tc, rfl, tc1, tc2⟩ := yg2 u (List.mem_of_getElem? hu)
    obtain ⟨_, ez⟩ := ry
    injection ez with ez ez2
    subst ez
    clear ez2
    -- swaps.extend(..)
    have hL16 := sm6 _ _ hL1
    have isL1 : s6.heap.IsList L1 its1.toArray := ⟨_, (I6.hok L1 _ hL16).1, rfl, n1, rfl⟩
    have lvs : vs.length ≤ 7 * 6 := by
      rw [paired_len rp6]
      have h1 : ∀ l : List UInt8, (l.flatMap fun c => swFor c (lettersIn (es.map (·.b))) ++ [Vaseda.Deed.swap [c] []]).length ≤ 7 * l.length := by
        intro l
        induction l with
        | nil => simp
        | cons c l ih =>
          have h2 := swFor_len c (lettersIn (es.map (·.b)))
          simp only [List.flatMap_cons, List.length_append, List.length_cons, List.length_nil] at ih ⊢
          omega
      have h2 := h1 ((lettersIn (es.map (·.a))).take i)
      rw [List.length_take] at h2
      omega
    refine wpAny_execs_cons (wpAny_Expr_any (PySem.Call_method1 (by rfl) (by rfl) (by rfl) (raw_name (i := 3) rfl (.inl rfl) I6 rfl fun u ru => ?_)) I6.quiet (by rfl))
    obtain rfl : u = Value.ref SW := ru
    obtain ⟨_, _, _, _, _, gS⟩ := I6.lstM hSW6
    refine ⟨"list", _, PySem.F.plainAttrs_list, PySem.F.slot_list_extend, PySem.F.type_list_extend, ⟨_, gS, rfl⟩, (fun b e => by cases e; exact ⟨_, gS, rfl⟩), Calls.callWith_builtin rfl (Calls.evalArgs_plain (Calls.spliced_cons ?_))⟩
    refine lc_raw (iy := 5) rfl sc.nd I6 (blkOk_by (N := ["examples", "example", "letters_after", "swaps", "letter", "other"]) (sc := defScope s_swaps_of) (by decide +kernel)) (by decide +kernel) (fun _ => rfl) ?_
    refine raw_name (i := 2) rfl (.inl rfl) I6 rfl fun u ru => ?_
    obtain rfl : u = Value.ref L1 := ru
    refine wpAny_pyIter_list isL1 ?_
    have ltL : L1 < s6.heap.objs.size := by
      obtain ⟨o, e, _⟩ := isL1
      exact Heap.lt_size e
    have up6 : ∀ b o, s6.heap.get? b = some o → (s6.heap.push { cls := .type "list_iterator", data := .fields #[.ref L1, .int 0 0] }).get? b = some o := fun b o e => Heap.get?_push_of_some _ e
    refine ⟨s6.heap.objs.size, its1.toArray.size, _, _, _, H6, rfl, CK.kept (Nat.le_refl _) up6, I6.kept (t' := s6.toks) up6, rw_list (L := L1) (its := its1.toArray) (I6.ok.hd rfl) (Nat.ne_of_lt ltL), ⟨_, Heap.get?_push_size _ rfl, rfl, rfl⟩, I6.fpOk (Nat.le_refl _) (I6.hok.fresh (Nat.le_refl _)), by rw [Heap.size_push]; exact Nat.lt_succ_self _, fun D hD => ?_⟩
    have nDS : SW ≠ D := ne_of_none hSW6 hD
    refine ⟨fun i s' H' => Same H6 H' ∧ ∃ ys, H' D = some (.lst ys) ∧ Paired (RepD H') ys (swFor c ((lettersIn (es.map (·.b))).take i)), ?_, ?_, ?_, ?_⟩
    · intro s7 _ _
      exact ⟨Same.new hD, [], upd_same, .nil⟩
    · rintro i7 s7 H7 ok7 ⟨sm7, _⟩
      exact ⟨_, (ok7 L1 _ (sm7 _ _ hL16)).1, rfl, n1, rfl⟩
    · rintro i7 s7 H7 u7 k7 hi7 ok7 ⟨sm7, ys, hD7, rp7⟩ hu7 hk7
      have hu7' : its1[i7]? = some u7 := by simpa using hu7
      obtain ⟨x7, hx7, rx7⟩ := vals_mono rv1 hu7'
      refine ⟨x7, rx7, ?_⟩
      obtain ⟨x1, hx1, rfl⟩ := tS_get hx7
      rw [List.getElem?_map] at hx1
      obtain ⟨b, hb, rfl⟩ : ∃ b, (lettersIn (es.map (·.b)))[i7]? = some b ∧ x1 = [b] := by
        cases hcc : (lettersIn (es.map (·.b)))[i7]? with
        | none => rw [hcc] at hx1; cases hx1
        | some c => rw [hcc] at hx1; cases hx1; exact ⟨c, rfl, rfl⟩
      obtain ⟨zb, tb, rfl, tb1, tb2⟩ := yg1 u7 (List.mem_of_getElem? hu7')
      obtain ⟨_, ez⟩ := rx7
      injection ez with ez ez2
      subst ez
      clear ez2
      intro s8 H8 C cl s9 pins9 t9 keep9 nit nC hcl cell9 I9 h9
      obtain ⟨cc, ecc, gcc⟩ := id c6
      have gc9 := cell9 _ _ ecc _ gcc
      have hcl9 := hcl "letter" cc (by decide +kernel) ecc
      have lys := paired_len rp7
      have l6 : (swFor c ((lettersIn (es.map (·.b))).take i7)).length ≤ 6 := by
        have h1 := swFor_len c ((lettersIn (es.map (·.b))).take i7)
        rw [List.length_take] at h1
        omega
      refine wpAny_tests_one (wpAny_isTrue_Compare1 (has_name (i := 5) rfl I9.ok.kind h9 fun u' hu' => ?_) rfl)
      subst hu'
      refine cell_env I9.ok.kind (.inl rfl) hcl9 gc9 ?_
      refine PyProof.Rows.ne_str (wpAny_truthy_bool ?_)
      rw [one_ne]
      by_cases hbc : (b != c) = true
      · rw [if_pos hbc]
        refine wpAny_Tuple_spliced ?_
        show wpAny _ _ (spliced ((false, eval _ _) :: (false, eval _ _) :: (false, eval _ _) :: [])) _ _ _
        refine Calls.spliced_cons (Calls.Constant_str ?_)
        refine Calls.spliced_cons (cell_env I9.ok.kind (.inl rfl) hcl9 gc9 ?_)
        refine Calls.spliced_cons (has_name (i := 5) rfl I9.ok.kind (h9.keep (LK.tok (Nat.le_succ _))) ?_)
        rintro u' rfl
        refine Calls.spliced_nil ⟨h3s, ?_⟩
        obtain ⟨o, I10, fr10, rd10⟩ := lay_sw (a := [c]) (b := [b]) (t0 := s9.toks) (ta := tc) (tb := tb) (k0 := "swap") (za := sOf [c]) (zb := sOf [b]) (I9.tok (s9.toks + 1)) rfl rfl rfl (show (tc : Nat) ≠ 0 by omega) (show (tb : Nat) ≠ 0 by omega) (show (tc : Nat) ≠ tb by omega)
        have hD10 := (Same.new (o := o) fr10) _ _ hD7
        obtain ⟨_, its, n, rI, _, gI⟩ := I10.lstM hD10
        have ap := fun (Q : Value → Shared → Prop) (h : _) => app_raw (Q := Q) (E := fun _ _ => False) I10 hD10 gI rI (y := .ref s9.heap.objs.size) (v := .ref s9.heap.objs.size) rfl (smallLt (m := 100) (by omega)) h
        refine ap _ fun s12 k12 I12 g12 => ?_
        refine ⟨_, I12, Same.put (sm7.trans (Same.new fr10)) hD, _, upd_same, ?_⟩
        have e1 : swFor c ((lettersIn (es.map (·.b))).take (i7 + 1)) = swFor c ((lettersIn (es.map (·.b))).take i7) ++ [Vaseda.Deed.swap [c] [b]] := by
          unfold swFor
          rw [take_more hb, List.filter_append, List.map_append, List.filter_cons, if_pos hbc]
          rfl
        rw [e1]
        have im : Imm K (upd H7 _ o) _ := Imm.put (ys := ys ++ [.ref s9.heap.objs.size]) hD10
        exact paired_app (paired_imp (fun _ _ q => repD_imm ((Imm.new fr10).trans im) q) rp7) (.cons (repD_imm im rd10) .nil)
      · rw [if_neg hbc]
        have e1 : swFor c ((lettersIn (es.map (·.b))).take (i7 + 1)) = swFor c ((lettersIn (es.map (·.b))).take i7) := by
          unfold swFor
          rw [take_more hb, List.filter_append, List.map_append, List.filter_cons, if_neg hbc]
          simp
        exact ⟨H7, I9, sm7, ys, hD7, by rw [e1]; exact rp7⟩
    · rintro C s7 H7 s8 ⟨sm7, ys, hD7, rp7⟩ keep7 t7 nit nC I8 ck8
      rw [List.take_of_length_le (by rw [List.size_toArray, ← rv1.length, tS_len, List.length_map]; exact Nat.le_refl _)] at rp7
      have hSW7 := sm7 _ _ hSW6
      have lys := paired_len rp7
      have l6 := swFor_len c (lettersIn (es.map (·.b)))
      refine Calls.spliced_nil (ext_raw I8 hSW7 hD7 (small (m := 100) (by omega)) fun s10 t10 ck10 I10 => ?_)
      obtain ⟨cc, ecc, gc10⟩ := (c6.keep ck8).keep ck10
      have t68 : s6.toks ≤ s8.toks := ck8.1.1
      -- swaps.append(..)
      show wpAny _ _ (execs _ _) _ _ _
      obtain ⟨_, _, _, _, _, g10⟩ := I10.lstM upd_same
      refine wpAny_execs_cons (wpAny_Expr_any (PySem.Call_method1 (by rfl) (by rfl) (by rfl) (raw_name (i := 3) rfl (.inl rfl) I10 rfl fun u ru => ?_)) I10.quiet (by rfl))
      obtain rfl : u = Value.ref SW := ru
      refine ⟨"list", _, PySem.F.plainAttrs_list, PySem.F.slot_list_append, PySem.F.type_list_append, ⟨_, g10, rfl⟩, (fun b e => by cases e; exact ⟨_, g10, rfl⟩), Calls.callWith_builtin rfl (Calls.evalArgs_plain (Calls.spliced_cons (wpAny_Tuple_spliced ?_)))⟩
      show wpAny _ _ (spliced ((false, eval _ _) :: (false, eval _ _) :: (false, eval _ _) :: [])) _ _ _
      refine Calls.spliced_cons (Calls.Constant_str ?_)
      refine Calls.spliced_cons (cell_env I10.ok.kind (.inl rfl) ecc gc10 ?_)
      refine Calls.spliced_cons (Calls.Constant_str ?_)
      refine Calls.spliced_nil ⟨h3s, ?_⟩
      have em : V.str (Str.ofString "") = vS [] := by decide +kernel
      obtain ⟨o, I11, fr11, rd11⟩ := lay_sw (a := [c]) (b := []) (t0 := s10.toks) (ta := tc) (tb := s10.toks + 1) (k0 := "swap") (za := sOf [c]) (zb := "") (I10.tok (s10.toks + 1 + 1)) rfl rfl em (show (tc : Nat) ≠ 0 by omega) (Nat.succ_ne_zero _) (show (tc : Nat) ≠ s10.toks + 1 by omega)
      have sn := Same.new (o := o) fr11
      have h11 := sn _ _ (show upd H7 SW (HO.lst (vs ++ ys)) SW = some (HO.lst (vs ++ ys)) from upd_same)
      obtain ⟨_, its, n, rI, _, gI⟩ := I11.lstM h11
      refine Calls.spliced_nil (app_raw I11 h11 gI rI (y := .ref _) (v := .ref _) rfl (smallLt (m := 100) (by rw [List.length_append]; omega)) fun s12 k12 I12 g12 => ?_)
      have k12 : s12.toks = s10.toks + 1 + 1 := k12
      refine wpAny_execs_nil ⟨rfl, _, _, I12, some (vS [c]), rfl, ?_, by omega, ?_, _, upd_same, ?_⟩
      · exact Same.put ((Same.put (sm6.trans sm7) hSW).trans sn) hSW
      · rw [upd_ne nSW2]
        refine sn _ _ ?_
        rw [upd_ne nSW2]
        exact sm7 _ _ hL26
      · have im1 : Imm K H7 (upd H7 SW (HO.lst (vs ++ ys))) := Imm.put hSW7
        have im2 : Imm K (upd H7 SW (HO.lst (vs ++ ys))) (upd (upd H7 SW (HO.lst (vs ++ ys))) s10.heap.objs.size o) := Imm.new fr11
        have im3 : Imm K (upd (upd H7 SW (HO.lst (vs ++ ys))) s10.heap.objs.size o) _ := Imm.put (ys := vs ++ ys ++ [.ref s10.heap.objs.size]) h11
        rw [take_more hc, List.flatMap_append]
        have e1 : List.flatMap (fun c => swFor c (lettersIn (es.map (·.b))) ++ [Vaseda.Deed.swap [c] []]) [c] = swFor c (lettersIn (es.map (·.b))) ++ [Vaseda.Deed.swap [c] []] := by simp
        rw [e1, ← List.append_assoc]
        exact paired_app (paired_app (paired_imp (fun _ _ q => repD_imm ((((Same.imm sm7).trans im1).trans im2).trans im3) q) rp6) (paired_imp (fun _ _ q => repD_imm ((im1.trans im2).trans im3) q) rp7)) (.cons (repD_imm im3 rd11) .nil)
  · rintro _ H6 k6 s6 ⟨v4, rfl, sm6, mk6, hL26, vs, hSW6, rp6⟩ k66 I6
    rw [len2, List.take_length, ← esw] at rp6
    refine wpAny_execs_cons (wpAny_Return_some (raw_name (i := 3) rfl (.inl rfl) I6 rfl fun u ru => ?_))
    obtain rfl : u = Value.ref SW := ru
    exact ⟨_, _, I6, kq SW _ _ vs (s02.free hSW) (s02.trans sm6) hSW6 rp6⟩
theorem ok_swaps_of (T : Txt K mg) : DOk P w K mg base CX0 3 "swaps_of" (spSwaps K) := by
  refine DOkW.plain (okW_swaps_of T) ?_ ?_
  · rintro vs H Q E us s r ⟨a, es, rfl, re, hok, k⟩
    exact ⟨a, es, rfl, re, hok, fun p s' H' ys hp sm h rp => ⟨.ref p, rfl, k p H' ys hp sm h rp⟩⟩
  · rintro vs H Q E ⟨a, es, rfl, _⟩
    exact ⟨[.ref a], .cons rfl .nil⟩
end
end Ls
set_option Elab.async false
set_option linter.all false
set_option maxRecDepth 100000
set_option maxHeartbeats 4000000
/-! family: deeds_of, commands_of, single_scripts_of -/
namespace Ls
open PySem PySem.Spec PyProof.Rows L2
open Vasedf (asWord linesIn lettersIn most some_ deeds commands ones)
def spDeeds (K : PySem.W.Frag) : Sp := fun vs H Q _ => ∃ (a : Addr) (es : List VEx), vs = [.ref a] ∧ RepE K H a es ∧ okE es ∧ NewR RepD (deeds es) H Q
def spCommands (K : PySem.W.Frag) : Sp := fun vs H Q _ => ∃ (a : Addr) (es : List VEx), vs = [.ref a] ∧ RepE K H a es ∧ okE es ∧ NewR (RepC K) (commands es) H Q
def DK : Nat → Ln → VDeed
  | 0 => .change
  | 1 => .before
  | _ => .after
def kinds : List V := [.str "change", .str "before", .str "after"]
theorem kind_rep {i : Nat} {x : V} (h : kinds[i]? = some x) (z : Ln) (p : Addr) (H : Hp) (hp : H p = some (.tup [x, vS z])) : RepD H (.ref p) (DK i z) := by
  rcases i with _ | _ | _ | i
  · cases h; exact ⟨p, rfl, hp⟩
  · cases h; exact ⟨p, rfl, hp⟩
  · cases h; exact ⟨p, rfl, hp⟩
  · simp [kinds] at h
def deedsTo (ws : List Ln) (i : Nat) : List VDeed := [Vaseda.Deed.delete] ++ (List.range i).flatMap fun j => ws.map (DK j)
theorem deedsTo_succ (ws : List Ln) (i : Nat) : deedsTo ws (i + 1) = deedsTo ws i ++ ws.map (DK i) := by
  unfold deedsTo
  rw [List.range_succ, List.flatMap_append]
  simp
theorem deedsTo_len (ws : List Ln) : ∀ i, (deedsTo ws i).length = 1 + i * ws.length
  | 0 => by simp [deedsTo]
  | i + 1 => by
    rw [deedsTo_succ, List.length_append, deedsTo_len ws i, List.length_map, Nat.add_mul]
    omega
theorem swaps_len (l cb : List UInt8) (h : cb.length ≤ 6) : (l.flatMap fun a => (cb.filter fun b => b != a).map (fun b => Vaseda.Deed.swap [a] [b]) ++ [Vaseda.Deed.swap [a] []]).length ≤ 7 * l.length := by
  induction l with
  | nil => simp
  | cons a l ih =>
    have h1 := List.length_filter_le (fun b => b != a) cb
    simp only [List.flatMap_cons, List.length_append, List.length_map, List.length_cons, List.length_nil] at ih ⊢
    omega
theorem swapsD_len (es : List VEx) : (swapsD es).length ≤ 42 := by
  have h1 := lettersIn_len (es.map (·.a))
  have h2 := swaps_len (lettersIn (es.map (·.a))) (lettersIn (es.map (·.b))) (lettersIn_len _)
  unfold swapsD
  omega
theorem deeds_all (es : List VEx) : deedsTo (linesIn (es.map (·.b))) 3 ++ swapsD es = deeds es := by
  unfold deedsTo deeds swapsD
  simp [List.range_succ, DK]
section
variable {P : Program} {w : World} {K : PySem.W.Frag} {mg : Str → Option Value} {base : Heap}
theorem sc_deeds_of : FnScope ["examples", "example", "lines_after", "deeds", "kind", "line"] ["examples"] (defScope s_deeds_of) := ⟨rfl, rfl, rfl, by decide +kernel, rfl, by decide +kernel, by decide +kernel⟩
theorem ok_deeds_of (T : Txt K mg) : DOk P w K mg base CX0 4 "deeds_of" (spDeeds K) := by
  obtain ⟨fd, F⟩ := T.f_deeds_of
  have sc := sc_deeds_of
  have K_lines_of : DOk P w K mg base CX0 2 "lines_of" spLinesOf := ok_lines_of T
  have K_swaps_of : DOk P w K mg base CX0 3 "swaps_of" (spSwaps K) := ok_swaps_of T
  refine dok F T.g_deeds_of (fun _ _ _ _ _ _ us hl => match us, hl with | [_], _ => rfl) sc (fun vs H Q E h => by obtain ⟨_, _, rfl, _⟩ := h; rfl) (fun cdv A outer s H vs Q E hr h => ?_)
  refine ⟨_, PSs.nox (pss_cons (ps_set (i := 2) sc.nd rfl (Or.inl rfl) (pe_d K_lines_of hr (by first | decide | omega) rfl (pa_cons (pe_lc (own := [("example", 1)]) rfl sc.nd (pi_listK (K := K) rfl (pv 0)) (blkOk_by (N := ["examples", "example", "lines_after", "deeds", "kind", "line"]) (sc := defScope s_deeds_of) (by decide +kernel)) (fun _ _ _ _ _ => (pg_name (i := 1) sc.nd rfl (Or.inl rfl))) (fun _ _ _ _ _ => pts_nil) (fun _ _ _ _ _ => (pe_fldK (K := K) rfl (pv 1) rfl))) pa_nil)))
  (pss_cons (ps_set (i := 3) sc.nd rfl (Or.inl rfl) (pe_lst (pa_cons (pe_tup (pa_cons pe_str pa_nil)) pa_nil)))
  (pss_cons (ps_for PassesOwn.never rfl (pi_tupK (K := K) rfl (pe_tup (pa_cons pe_str (pa_cons pe_str (pa_cons pe_str pa_nil))))) (pg_name (i := 4) sc.nd rfl (Or.inr rfl))
  (pss_one (ps_expr (pe_bmK (K := K) rfl PySem.F.plainAttrs_list PySem.F.slot_list_extend PySem.F.type_list_extend mt_extend (pv 3) (pa_cons (pe_lc (own := [("line", 5)]) rfl sc.nd (pi_listK (K := K) rfl (pv 2)) (blkOk_by (N := ["examples", "example", "lines_after", "deeds", "kind", "line"]) (sc := defScope s_deeds_of) (by decide +kernel)) (fun _ _ _ _ _ => (pg_name (i := 5) sc.nd rfl (Or.inl rfl))) (fun _ _ _ _ _ => pts_nil) (fun _ _ _ _ _ => (pe_tup (pa_cons (pv 4) (pa_cons (pv 5) pa_nil))))) pa_nil)))))
  (pss_one (ps_ret (pe_op op_cat (pv 3) (pe_d K_swaps_of hr (by first | decide | omega) rfl (pa_cons (pv 0) pa_nil)))))))), ?_⟩
  obtain ⟨a, es, rfl, re, hok, k⟩ := h
  obtain ⟨us, ha, hp⟩ := id re
  have hul := paired_len hp
  have hes : us.length ≤ 4 := by rw [hul]; exact hok.1
  obtain ⟨bs, hbs, hbi⟩ := afters hp
  have hbl : bs.length = us.length := by rw [paired_len hbs, List.length_map, hul]
  obtain ⟨ts1, ts2⟩ := okE_b hok
  obtain ⟨tz1, tz2, tz3⟩ := okTs ⟨ts1, ts2⟩
  generalize hts : es.map (·.b) = ts at *
  refine ⟨_, rfl, a, rfl, ⟨_, SqL.of ha⟩, fun B hB => ?_⟩
  refine lc_list (K := K) (a := a) (xs := us) (fun i H' => Same H H' ∧ H' B = some (.lst (bs.take i))) ⟨Same.new hB, upd_same⟩ (fun i H1 _ ⟨s1, _⟩ => SqL.of (s1 _ _ ha)) ?_ ?_
  · rintro i y H1 hi ⟨s1, h1⟩
    obtain ⟨p, dx, b, c, rfl, hpp, hb⟩ := hbi i y hi
    refine ⟨rfl, _, rfl, p, _, dx, _, _, rfl, s1 _ _ hpp, T.c_Example, T.n_Example_after, ex_after _ _, _, h1, smallLt (m := 100) (by rw [List.length_take]; omega), Same.put s1 hB, ?_⟩
    rw [upd_same, take_more hb]
  rintro H1 ⟨s1, h1⟩
  rw [← hbl, List.take_length] at h1
  have hbs1 := RepT.sames s1 hbs
  refine ⟨B, ts, rfl, ⟨bs, h1, hbs1⟩, tz1, tz3, fun L H2 hL s2 h2 => ?_⟩
  have hlin := linesIn_len ts
  have hwl : (linesIn ts).length ≤ 12 := hlin
  have s12 := s1.trans s2
  generalize hws : linesIn ts = ws at *
  refine ⟨small (m := 10) (by show 1 ≤ 10; decide), fun p0 hp0 => ⟨small (m := 10) (by show 1 ≤ 10; decide), fun l hl => ?_⟩⟩
  have s3 := Same.new (o := HO.tup [V.str (Str.ofString "delete")]) hp0
  have hl1 : H2 l = none := s3.free hl
  have g3 : Same H2 (upd (upd H2 p0 (HO.tup [V.str (Str.ofString "delete")])) l (.lst [.ref p0])) ∧ (upd (upd H2 p0 (HO.tup [V.str (Str.ofString "delete")])) l (.lst [.ref p0])) l = some (.lst [.ref p0]) ∧
      Paired (RepD (upd (upd H2 p0 (HO.tup [V.str (Str.ofString "delete")])) l (.lst [.ref p0]))) [.ref p0] [Vaseda.Deed.delete] :=
    ⟨Same.put s3 hl1, upd_same, .cons ⟨p0, rfl, by rw [upd_ne (ne_of_none upd_same hl)]; exact upd_same⟩ .nil⟩
  generalize upd (upd H2 p0 (HO.tup [V.str (Str.ofString "delete")])) l (.lst [.ref p0]) = H3 at *
  obtain ⟨s3', h3, r3⟩ := g3
  refine ⟨small (m := 10) (by show 3 ≤ 10; decide), fun tp htp => ?_⟩
  have s4 := Same.new (o := HO.tup kinds) htp
  have h4t : upd H3 tp (HO.tup kinds) tp = some (HO.tup kinds) := upd_same
  have g4 : Same H2 (upd H3 tp (HO.tup kinds)) ∧ upd H3 tp (HO.tup kinds) l = some (.lst [.ref p0]) ∧ Paired (RepD (upd H3 tp (HO.tup kinds))) [.ref p0] [Vaseda.Deed.delete] :=
    ⟨s3'.trans s4, s4 _ _ h3, paired_imp (fun _ _ q => RepD.mono (Same.tups s4) q) r3⟩
  show ∃ a, _
  refine ⟨tp, rfl, ⟨kinds, SqT.of upd_same⟩, ?_⟩
  change ∃ W : Nat → Nat → L2.St → Hp → Prop, (∃ m, W 0 m _ (upd H3 tp (HO.tup kinds))) ∧ _
  generalize upd H3 tp (HO.tup kinds) = H4 at *
  obtain ⟨s4', h4, r4⟩ := g4
  refine for_it (walk_tup (xs := kinds)) (fun i σ H' => ∃ v4 : Option V, σ = [some (.ref a), none, some (.ref L), some (.ref l), v4, none] ∧ Same H2 H' ∧ H' tp = some (.tup kinds) ∧ ∃ vs, H' l = some (.lst vs) ∧ Paired (RepD H') vs (deedsTo ws i))
    ⟨none, rfl, s4', h4t, _, h4, r4⟩ (fun i σ H' _ ⟨_, _, _, ht, _⟩ => SqT.of ht) ?_ ?_
  · rintro i x σ H5 H6 hi ⟨v4, rfl, s5, h5t, vs, h5, r5⟩ ⟨rfl, hx⟩
    have hi3 : i < 3 := hi
    refine ⟨_, rfl, .inl ⟨rfl, _, SqL.of h5⟩, ?_⟩
    have h5L := s5 _ _ h2
    refine ⟨_, rfl, L, rfl, ⟨_, SqL.of h5L⟩, fun D hD => ?_⟩
    refine lc_rep (K := K) (walk_list (xs := tS ws)) hD RepD (fun _ _ _ _ s r => repD_imm s r) (ws.map (DK i)) (by rw [List.length_map, tS_len]) (by rw [tS_len]; omega) (fun _ s => SqL.of (s _ _ h5L)) ?_ ?_
    · rintro j y b H7 H8 Q4 hj hb s7 ⟨rfl, hy⟩ kq
      obtain ⟨z, hz, rfl⟩ := tS_get hy
      rw [List.getElem?_map, hz] at hb
      cases hb
      exact ⟨rfl, _, rfl, _, rfl, small (m := 10) (by show 2 ≤ 10; decide), fun p hp => kq _ _ (Same.new hp) (kind_rep hx z p _ upd_same)⟩
    rintro ys G sG hy ry
    have ly := paired_len ry
    have lv := paired_len r5
    rw [deedsTo_len] at lv
    rw [List.length_map] at ly
    have hmul : i * ws.length ≤ 2 * 12 := Nat.mul_le_mul (by omega) hwl
    refine ⟨l, D, vs, ys, rfl, rfl, sG _ _ h5, hy, small (m := 100) (by omega), ?_⟩
    obtain ⟨e1, e2, e3⟩ := ext_step (R := RepD) (K := K) (fun _ _ _ _ s r => repD_imm s r) hl1 s5 h5 r5 sG ry
    refine ⟨_, rfl, e1, ?_, _, e2, by rw [deedsTo_succ]; exact e3⟩
    rw [upd_ne (ne_of h5t h5 (by intro z; cases z))]
    exact sG _ _ h5t
  · rintro σ H5 ⟨v4, rfl, s5, h5t, vs, h5, r5⟩
    have lv := paired_len r5
    rw [deedsTo_len] at lv
    refine ⟨_, rfl, _, rfl, a, es, rfl, RepE.same (s12.trans s5) re, hok, fun q H6 ys hq s6 h6 r6 => ?_⟩
    have lsw := swapsD_len es
    have l6 := paired_len r6
    refine ⟨l, q, vs, ys, rfl, rfl, s6 _ _ h5, h6, small (m := 200) (by show vs.length + ys.length ≤ 200; change vs.length = 1 + 3 * ws.length at lv; omega), fun r hr => ?_⟩
    have sall := (s12.trans s5).trans s6
    have sn := Same.new (o := HO.lst (vs ++ ys)) hr
    refine k r _ _ (sall.free hr) (sall.trans sn) upd_same ?_
    rw [← deeds_all, hts, hws]
    exact paired_app (paired_imp (fun _ _ q => RepD.mono (Same.tups (s6.trans sn)) q) r5) (paired_imp (fun _ _ q => RepD.mono (Same.tups sn) q) r6)
theorem some_len {es : List VEx} (h : okE es) : (some_ es).length ≤ 25 := by
  have h1 := linesIn_len (es.map (·.a))
  have h2 := lettersIn_len (es.map (·.a))
  have h3 := most_le (okE_a h).2
  have e : some_ es = Vaseda.Addr.last :: ((List.range (most (es.map (·.a)))).map (fun k => Vaseda.Addr.line (k + 1)) ++ ((linesIn (es.map (·.a))).map Vaseda.Addr.is_ ++ (lettersIn (es.map (·.a))).map fun c => Vaseda.Addr.has [c])) := rfl
  rw [e]
  generalize es.map (·.a) = ts at *
  simp only [List.length_append, List.length_map, List.length_range, List.length_cons]
  omega
theorem addrs_len {es : List VEx} (h : okE es) : (Vasedf.addrs es).length ≤ 51 := by
  have h1 := some_len h
  unfold Vasedf.addrs
  simp only [List.length_append, List.length_map, List.length_cons]
  omega
theorem deeds_len (es : List VEx) : (deeds es).length ≤ 79 := by
  have h1 := linesIn_len (es.map (·.b))
  have h2 := swapsD_len es
  rw [← deeds_all, List.length_append, deedsTo_len]
  omega
theorem repC_imm {K : PySem.W.Frag} {H H' : Hp} {v : V} {c : VCmd} (s : Imm K H H') (r : RepC K H v c) : RepC K H' v c := r.mono s
/-- a new object of a class that is made with two fields -/
theorem new_ins {K : PySem.W.Frag} {H : Hp} {x dx C : Addr} {fs : List (Str × V)} (hx : H x = none) (hd : H dx = none) (ne : dx ≠ x) : Same H (upd (upd H dx (.own x)) x (.ins C dx fs)) :=
  (Same.new hd).trans (Same.new (by rw [upd_ne (Ne.symm ne)]; exact hx))
theorem sc_commands_of : FnScope ["examples", "addresses", "commands", "deed", "address"] ["examples"] (defScope s_commands_of) := ⟨rfl, rfl, rfl, by decide +kernel, rfl, by decide +kernel, by decide +kernel⟩
theorem ok_commands_of (T : Txt K mg) : DOk P w K mg base CX0 5 "commands_of" (spCommands K) := by
  obtain ⟨fd, F⟩ := T.f_commands_of
  have sc := sc_commands_of
  have K_addresses_of : DOk P w K mg base CX0 3 "addresses_of" (spAddrs K) := ok_addresses_of T
  have K_deeds_of : DOk P w K mg base CX0 4 "deeds_of" (spDeeds K) := ok_deeds_of T
  have K_Command := ok_Command (P := P) (w := w) (base := base) T
  refine dok F T.g_commands_of (fun _ _ _ _ _ _ us hl => match us, hl with | [_], _ => rfl) sc (fun vs H Q E h => by obtain ⟨_, _, rfl, _⟩ := h; rfl) (fun cdv A outer s H vs Q E hr h => ?_)
  refine ⟨_, PSs.nox (pss_cons (ps_set (i := 1) sc.nd rfl (Or.inl rfl) (pe_d K_addresses_of hr (by first | decide | omega) rfl (pa_cons (pv 0) pa_nil)))
  (pss_cons (ps_set (i := 2) sc.nd rfl (Or.inl rfl) (pe_lst pa_nil))
  (pss_cons (ps_for PassesOwn.never rfl (pi_listK (K := K) rfl (pe_d K_deeds_of hr (by first | decide | omega) rfl (pa_cons (pv 0) pa_nil))) (pg_name (i := 3) sc.nd rfl (Or.inr rfl))
  (pss_one (ps_expr (pe_bmK (K := K) rfl PySem.F.plainAttrs_list PySem.F.slot_list_extend PySem.F.type_list_extend mt_extend (pv 2) (pa_cons (pe_lc (own := [("address", 4)]) rfl sc.nd (pi_listK (K := K) rfl (pv 1)) (blkOk_by (N := ["examples", "addresses", "commands", "deed", "address"]) (sc := defScope s_commands_of) (by decide +kernel)) (fun _ _ _ _ _ => (pg_name (i := 4) sc.nd rfl (Or.inl rfl))) (fun _ _ _ _ _ => pts_nil) (fun _ _ _ _ _ => (pe_mk K_Command hr (by first | decide | omega) rfl (pa_cons (pv 4) (pa_cons (pv 3) pa_nil))))) pa_nil)))))
  (pss_one (ps_ret (pv 2)))))), ?_⟩
  obtain ⟨a, es, rfl, re, hok, k⟩ := h
  have hal := addrs_len hok
  have hdl := deeds_len es
  refine ⟨_, rfl, a, es, rfl, re, hok, fun L H2 avs hL s2 h2 r2 => ?_⟩
  have lav := paired_len r2
  refine ⟨small (m := 10) (by show 0 ≤ 10; decide), fun l hl => ?_⟩
  have s3 := Same.new (o := HO.lst []) hl
  refine ⟨_, rfl, a, es, rfl, RepE.same (s2.trans s3) re, hok, fun q H4 dvs hq s4 h4 r4 => ?_⟩
  have ldv := paired_len r4
  have h4l : H4 l = some (.lst []) := s4 _ _ upd_same
  have hqs : H4 q = some (.lst dvs) := h4
  have nql : q ≠ l := fun e => by rw [e] at hq; rw [upd_same] at hq; cases hq
  have s24 : Same H2 H4 := s3.trans s4
  refine ⟨q, rfl, ⟨_, SqL.of h4⟩, for_list (K := K) (a := q) (xs := dvs) (fun i σ H' => ∃ v4 : Option V, σ = [some (.ref a), some (.ref L), some (.ref l), v4, none] ∧ Same H2 H' ∧ Imm K H4 H' ∧ H' q = some (.lst dvs) ∧
    ∃ vs, H' l = some (.lst vs) ∧ Paired (RepC K H') vs (((deeds es).take i).flatMap fun d => (Vasedf.addrs es).map fun a => (⟨a, d⟩ : VCmd)))
    ⟨none, rfl, s24, Imm.refl, h4, _, h4l, .nil⟩ (fun i σ H' _ ⟨_, _, _, _, hq, _⟩ => SqL.of hq) ?_ ?_⟩
  · rintro i x σ H5 hi ⟨v4, rfl, s5, i5, h5q, vs, h5, r5⟩
    obtain ⟨d, hd, rd⟩ := paired_get r4 hi
    have hid : i < (deeds es).length := get_lt hd
    refine ⟨_, rfl, .inl ⟨rfl, _, SqL.of h5⟩, ?_⟩
    have h5L := s5 _ _ h2
    have rd5 : RepD H5 x d := repD_imm i5 rd
    refine ⟨_, rfl, L, rfl, ⟨_, SqL.of h5L⟩, fun D hD => ?_⟩
    refine lc_rep (K := K) (walk_list (xs := avs)) hD (RepC K) (fun _ _ _ _ s r => repC_imm s r) ((Vasedf.addrs es).map fun a => (⟨a, d⟩ : VCmd)) (by rw [List.length_map, lav]) (by omega) (fun _ s => SqL.of (s _ _ h5L)) ?_ ?_
    · rintro j y b H7 H8 Q4 hj hb s7 ⟨rfl, hy⟩ kq
      obtain ⟨z, hz, rz⟩ := paired_get r2 hy
      rw [List.getElem?_map, hz] at hb
      cases hb
      refine ⟨rfl, _, rfl, _, rfl, fun c dx hc hdx ne => ?_⟩
      refine ⟨c, dx, y, x, rfl, upd_same, rfl, ?_⟩
      rw [upd_upd]
      have sn := new_ins (K := K) (C := He.ga K "Command") (fs := [("address", y), ("deed", x)]) hc hdx ne
      exact kq _ _ sn ⟨c, dx, y, x, rfl, upd_same, RepA.mono (Same.tups ((s5.trans s7).trans sn)) rz, RepD.mono (Same.tups (s7.trans sn)) rd5⟩
    rintro ys G sG hy ry
    have ly := paired_len ry
    have lv := paired_len r5
    rw [List.length_map] at ly
    have lv2 : vs.length ≤ 79 * 51 := by
      rw [lv]
      have : ∀ l : List VDeed, (l.flatMap fun d => (Vasedf.addrs es).map fun a => (⟨a, d⟩ : VCmd)).length = l.length * (Vasedf.addrs es).length := by
        intro l
        induction l with
        | nil => simp
        | cons d l ih => simp only [List.flatMap_cons, List.length_append, List.length_map, List.length_cons, ih, Nat.add_mul]; omega
      rw [this]
      exact Nat.mul_le_mul (by rw [List.length_take]; omega) hal
    refine ⟨l, D, vs, ys, rfl, rfl, sG _ _ h5, hy, small (m := 5000) (by omega), ?_⟩
    obtain ⟨e1, e2, e3⟩ := ext_step (R := RepC K) (K := K) (fun _ _ _ _ s r => repC_imm s r) hl s5 h5 r5 sG ry
    refine ⟨_, rfl, e1, (i5.trans (Same.imm sG)).trans (Imm.put (sG _ _ h5)), ?_, _, e2, ?_⟩
    · rw [upd_ne nql]
      exact sG _ _ h5q
    · rw [take_more hd, List.flatMap_append]
      simpa using e3
  · rintro σ H5 ⟨v4, rfl, s5, i5, h5q, vs, h5, r5⟩
    rw [ldv, List.take_length] at r5
    exact ⟨_, rfl, k l _ _ (s2.free hl) (s2.trans s5) h5 r5⟩
end
end Ls
set_option Elab.async false
set_option linter.all false
set_option maxRecDepth 100000
set_option maxHeartbeats 4000000
/-! family: single_scripts_of; what the family's commands keep to -/
namespace Ls
open PySem PySem.Spec PyProof.Rows L2
open Vasedf (asWord linesIn lettersIn most some_ deeds commands ones)
theorem mem_lines {ts : List (List Ln)} {x : Ln} (h : x ∈ linesIn ts) : x ≠ [] ∧ x.length ≤ 8 := by
  unfold linesIn at h
  have h1 := List.mem_of_mem_take h
  rw [List.mem_eraseDups, List.mem_filter] at h1
  have h2 := h1.2
  unfold asWord at h2
  simp only [Bool.and_eq_true, decide_eq_true_eq, Bool.not_eq_true'] at h2
  refine ⟨fun e => ?_, h2.2.1⟩
  rw [e] at h2
  cases h2.1
theorem ok_some {es : List VEx} (oe : okE es) {a : VAddr} (h : a ∈ some_ es) : okA a ∧ nots a = 0 := by
  have e : some_ es = Vaseda.Addr.last :: ((List.range (most (es.map (·.a)))).map (fun k => Vaseda.Addr.line (k + 1)) ++ ((linesIn (es.map (·.a))).map Vaseda.Addr.is_ ++ (lettersIn (es.map (·.a))).map fun c => Vaseda.Addr.has [c])) := rfl
  rw [e] at h
  have h3 := most_le (okE_a oe).2
  rcases List.mem_cons.mp h with rfl | h
  · exact ⟨trivial, rfl⟩
  · rcases List.mem_append.mp h with h | h
    · obtain ⟨k, hk, rfl⟩ := List.mem_map.mp h
      have := List.mem_range.mp hk
      exact ⟨by show k + 1 < 100; omega, rfl⟩
    · rcases List.mem_append.mp h with h | h
      · obtain ⟨x, hx, rfl⟩ := List.mem_map.mp h
        have := (mem_lines hx).2
        exact ⟨by show x.length ≤ 100; omega, rfl⟩
      · obtain ⟨c, hc, rfl⟩ := List.mem_map.mp h
        exact ⟨by show [c].length ≤ 100; simp, rfl⟩
theorem ok_addr {es : List VEx} (oe : okE es) {a : VAddr} (h : a ∈ Vasedf.addrs es) : okA a ∧ nots a ≤ 1 := by
  have e : Vasedf.addrs es = Vaseda.Addr.all :: (some_ es ++ (some_ es).map Vaseda.Addr.not) := rfl
  rw [e] at h
  rcases List.mem_cons.mp h with rfl | h
  · exact ⟨trivial, Nat.zero_le _⟩
  · rcases List.mem_append.mp h with h | h
    · obtain ⟨h1, h2⟩ := ok_some oe h
      exact ⟨h1, by omega⟩
    · obtain ⟨b, hb, rfl⟩ := List.mem_map.mp h
      obtain ⟨h1, h2⟩ := ok_some oe hb
      exact ⟨h1, by show nots b + 1 ≤ 1; omega⟩
theorem ok_deedF {es : List VEx} {d : VDeed} (h : d ∈ deeds es) : okD d ∧ okR d := by
  rw [← deeds_all] at h
  rcases List.mem_append.mp h with h | h
  · unfold deedsTo at h
    rcases List.mem_append.mp h with h | h
    · rw [List.mem_singleton.mp h]
      exact ⟨trivial, trivial⟩
    · obtain ⟨j, _, h⟩ := List.mem_flatMap.mp h
      obtain ⟨x, hx, rfl⟩ := List.mem_map.mp h
      obtain ⟨h1, h2⟩ := mem_lines hx
      rcases j with _ | _ | j
      · exact ⟨⟨by omega, h1⟩, by show x.length ≤ 16; omega⟩
      · exact ⟨⟨by omega, h1⟩, by show x.length ≤ 16; omega⟩
      · exact ⟨⟨by omega, h1⟩, by show x.length ≤ 16; omega⟩
  · unfold swapsD at h
    obtain ⟨a, _, h⟩ := List.mem_flatMap.mp h
    rcases List.mem_append.mp h with h | h
    · obtain ⟨b, _, rfl⟩ := List.mem_map.mp h
      exact ⟨⟨⟨by simp, by simp⟩, by simp⟩, ⟨by simp, by simp, by simp⟩⟩
    · rw [List.mem_singleton.mp h]
      exact ⟨⟨⟨by simp, by simp⟩, by simp⟩, ⟨by simp, by simp, by simp⟩⟩
theorem ok_cmd {es : List VEx} (oe : okE es) {c : VCmd} (h : c ∈ commands es) : okC c ∧ okRC c := by
  unfold commands at h
  obtain ⟨d, hd, h⟩ := List.mem_flatMap.mp h
  obtain ⟨a, ha, rfl⟩ := List.mem_map.mp h
  obtain ⟨h1, h2⟩ := ok_addr oe ha
  obtain ⟨h3, h4⟩ := ok_deedF hd
  exact ⟨⟨h1, h2, h3⟩, by show nots a ≤ 3; omega, h4⟩
theorem commands_len {es : List VEx} (oe : okE es) : (commands es).length ≤ 4029 := by
  have hal := addrs_len oe
  have hdl := deeds_len es
  have h : ∀ l : List VDeed, (l.flatMap fun d => (Vasedf.addrs es).map fun a => (⟨a, d⟩ : VCmd)).length = l.length * (Vasedf.addrs es).length := by
    intro l
    induction l with
    | nil => simp
    | cons d l ih => simp only [List.flatMap_cons, List.length_append, List.length_map, List.length_cons, ih, Nat.add_mul]; omega
  have e : commands es = (deeds es).flatMap fun d => (Vasedf.addrs es).map fun a => (⟨a, d⟩ : VCmd) := rfl
  rw [e, h]
  exact Nat.mul_le_mul hdl hal
def spSingles (K : PySem.W.Frag) : Sp := fun vs H Q _ => ∃ (a : Addr) (es : List VEx), vs = [.ref a] ∧ RepE K H a es ∧ okE es ∧ NewR (RepSc K) (ones es) H Q
section
variable {P : Program} {w : World} {K : PySem.W.Frag} {mg : Str → Option Value} {base : Heap}
theorem RepS.put {H : Hp} {D p : Addr} {acc ys : List V} {s : List VCmd} (hD : H D = some (.lst acc)) (ne : p ≠ D) (r : RepS K H p s) : RepS K (upd H D (.lst ys)) p s := by
  obtain ⟨vs, h, q⟩ := r
  exact ⟨vs, by rw [upd_ne ne]; exact h, paired_imp (fun _ _ r => repC_imm (Imm.put hD) r) q⟩
theorem sc_single_scripts_of : FnScope ["examples", "command"] ["examples"] (defScope s_single_scripts_of) := ⟨rfl, rfl, rfl, by decide +kernel, rfl, by decide +kernel, by decide +kernel⟩
theorem ok_single_scripts_of (T : Txt K mg) : DOk P w K mg base CX0 6 "single_scripts_of" (spSingles K) := by
  obtain ⟨fd, F⟩ := T.f_single_scripts_of
  have sc := sc_single_scripts_of
  have K_commands_of : DOk P w K mg base CX0 5 "commands_of" (spCommands K) := ok_commands_of T
  refine dok F T.g_single_scripts_of (fun _ _ _ _ _ _ us hl => match us, hl with | [_], _ => rfl) sc (fun vs H Q E h => by obtain ⟨_, _, rfl, _⟩ := h; rfl) (fun cdv A outer s H vs Q E hr h => ?_)
  refine ⟨_, PSs.nox (pss_one (ps_ret (pe_lc (own := [("command", 1)]) rfl sc.nd (pi_listK (K := K) rfl (pe_d K_commands_of hr (by first | decide | omega) rfl (pa_cons (pv 0) pa_nil))) (blkOk_by (N := ["examples", "command"]) (sc := defScope s_single_scripts_of) (by decide +kernel)) (fun _ _ _ _ _ => (pg_name (i := 1) sc.nd rfl (Or.inl rfl))) (fun _ _ _ _ _ => pts_nil) (fun _ _ _ _ _ => (pe_lst (pa_cons (pv 1) pa_nil)))))), ?_⟩
  obtain ⟨a, es, rfl, re, hok, k⟩ := h
  have hcl := commands_len hok
  refine ⟨_, rfl, a, es, rfl, re, hok, fun L H1 cvs hL s1 h1 r1 => ?_⟩
  have lcv := paired_len r1
  refine ⟨L, rfl, ⟨_, SqL.of h1⟩, fun D hD => ?_⟩
  refine lc_rep2 (walk_list (K := K) (xs := cvs)) hD (fun H v s => ∃ p, p ≠ D ∧ v = .ref p ∧ RepS K H p s) (fun H H' v b s r => ?_) (fun H acc ys v b h r => ?_) (ones es) ?_ (by omega) (fun _ s => SqL.of (s _ _ h1)) ?_ ?_
  · obtain ⟨p, n, e, r⟩ := r
    exact ⟨p, n, e, r.same s⟩
  · obtain ⟨p, n, e, r⟩ := r
    exact ⟨p, n, e, r.put h n⟩
  · unfold ones
    rw [List.length_map, lcv]
  · rintro i x b H2 H3 Q4 hi hb s2 ⟨acc, hacc⟩ ⟨rfl, hx⟩ kq
    obtain ⟨c, hc, rc⟩ := paired_get r1 hx
    unfold ones at hb
    rw [List.getElem?_map, hc] at hb
    cases hb
    refine ⟨rfl, _, rfl, small (m := 10) (by show 1 ≤ 10; decide), fun p hp => kq _ _ (Same.new hp) ⟨p, fun e => ?_, rfl, [x], upd_same, .cons (RepC.mono (Same.imm (s2.trans (Same.new hp))) rc) .nil⟩⟩
    rw [e, hacc] at hp
    cases hp
  · rintro ys H2 s2 h2 r2
    exact k D H2 ys (s1.free hD) (s1.trans s2) h2 (paired_imp (fun _ _ ⟨p, _, e, r⟩ => ⟨p, e, r⟩) r2)
end
end Ls
set_option Elab.async false
set_option linter.all false
set_option maxRecDepth 100000
set_option maxHeartbeats 4000000
/-! least: useful commands, the least script -/
namespace Ls
open PySem PySem.Spec PyProof.Rows L2
open Vasedf (asWord linesIn lettersIn most some_ deeds commands ones missing fits total useful leastOf bytes)
/-! ### mathematics -/
def isUseful (es : List VEx) (c : VCmd) : Bool :=
  ((es.map (missing [])).zip (es.map (missing [c]))).all (fun x => decide (x.2 ≤ x.1)) && ((es.map (missing [])).zip (es.map (missing [c]))).any fun x => decide (x.2 < x.1)
theorem useful_is (es : List VEx) : useful es = ((commands es).filter (isUseful es)).take 40 := rfl
/-- after i examples: none is farther off; whether one is nearer -/
def farTo (es : List VEx) (c : VCmd) : Bool := es.all fun e => decide (missing [c] e ≤ missing [] e)
def nearTo (es : List VEx) (c : VCmd) : Bool := es.any fun e => decide (missing [c] e < missing [] e)
theorem zip_all (es : List VEx) (f g : VEx → Nat) (p : Nat × Nat → Bool) : ((es.map f).zip (es.map g)).all p = es.all fun e => p (f e, g e) := by
  induction es with
  | nil => rfl
  | cons e es ih => simp only [List.map_cons, List.zip_cons_cons, List.all_cons, ih]
theorem zip_any (es : List VEx) (f g : VEx → Nat) (p : Nat × Nat → Bool) : ((es.map f).zip (es.map g)).any p = es.any fun e => p (f e, g e) := by
  induction es with
  | nil => rfl
  | cons e es ih => simp only [List.map_cons, List.zip_cons_cons, List.any_cons, ih]
theorem isUseful_eq (es : List VEx) (c : VCmd) : isUseful es c = (farTo es c && nearTo es c) := by
  unfold isUseful farTo nearTo
  rw [zip_all, zip_any]
theorem fm (l : List (List VCmd)) : ∀ b : List VCmd, ∃ r : List VCmd, l.foldl (fun (b : Option (List VCmd)) s => match b with
    | none => some s
    | some x => if bytes s < bytes x then some s else some x) (some b) = some r ∧
    ((r = b ∧ ∀ (j : Nat) (y : List VCmd), l[j]? = some y → bytes b ≤ bytes y) ∨ ∃ i : Nat, l[i]? = some r ∧ bytes r < bytes b ∧ ∀ (j : Nat) (y : List VCmd), l[j]? = some y → bytes r ≤ bytes y ∧ (j < i → bytes r < bytes y)) := by
  induction l with
  | nil => intro b; exact ⟨b, rfl, .inl ⟨rfl, fun j y h => by simp at h⟩⟩
  | cons s l ih =>
    intro b
    rw [List.foldl_cons]
    by_cases hb : bytes s < bytes b
    · rw [show (match some b with | none => some s | some x => if bytes s < bytes x then some s else some x) = some s from if_pos hb]
      obtain ⟨r, h1, h2⟩ := ih s
      refine ⟨r, h1, .inr ?_⟩
      rcases h2 with ⟨rfl, h2⟩ | ⟨i, h2, h3, h4⟩
      · refine ⟨0, rfl, hb, fun j y hy => ⟨?_, fun h => absurd h (Nat.not_lt_zero _)⟩⟩
        cases j with
        | zero =>
          have e : r = y := by simpa using hy
          rw [e]
          exact Nat.le_refl _
        | succ j => exact h2 j y (by simpa using hy)
      · refine ⟨i + 1, by simpa using h2, by omega, fun j y hy => ?_⟩
        cases j with
        | zero =>
          have e : s = y := by simpa using hy
          subst e
          exact ⟨by omega, fun _ => h3⟩
        | succ j =>
          obtain ⟨h5, h6⟩ := h4 j y (by simpa using hy)
          exact ⟨h5, fun h => h6 (by omega)⟩
    · rw [show (match some b with | none => some s | some x => if bytes s < bytes x then some s else some x) = some b from if_neg hb]
      obtain ⟨r, h1, h2⟩ := ih b
      refine ⟨r, h1, ?_⟩
      rcases h2 with ⟨rfl, h2⟩ | ⟨i, h2, h3, h4⟩
      · refine .inl ⟨rfl, fun j y hy => ?_⟩
        cases j with
        | zero =>
          have e : s = y := by simpa using hy
          subst e
          omega
        | succ j => exact h2 j y (by simpa using hy)
      · refine .inr ⟨i + 1, by simpa using h2, h3, fun j y hy => ?_⟩
        cases j with
        | zero =>
          have e : s = y := by simpa using hy
          subst e
          exact ⟨by omega, fun _ => by omega⟩
        | succ j =>
          obtain ⟨h5, h6⟩ := h4 j y (by simpa using hy)
          exact ⟨h5, fun h => h6 (by omega)⟩
theorem leastOf_is {l : List (List VCmd)} {i : Nat} {x : List VCmd} (hx : l[i]? = some x) (h : ∀ (j : Nat) (y : List VCmd), l[j]? = some y → bytes x ≤ bytes y ∧ (j < i → bytes x < bytes y)) : leastOf l = some x := by
  cases l with
  | nil => simp at hx
  | cons b l =>
    obtain ⟨r, h1, h2⟩ := fm l b
    show List.foldl _ (some b) l = some x
    have e : x = r := by
      rcases h2 with ⟨rfl, h2⟩ | ⟨k, h2, h3, h4⟩
      · cases i with
        | zero =>
          have e : r = x := by simpa using hx
          exact e.symm
        | succ i =>
          have h5 := (h 0 r rfl).2 (by omega)
          have h6 := h2 i x (by simpa using hx)
          omega
      · cases i with
        | zero =>
          have e : b = x := by simpa using hx
          subst e
          have h5 := (h (k + 1) r (by simpa using h2)).1
          omega
        | succ i =>
          have h5 := h4 i x (by simpa using hx)
          have h6 := h (k + 1) r (by simpa using h2)
          rcases Nat.lt_trichotomy i k with hik | hik | hik
          · have := h5.2 hik
            have := h6.1
            omega
          · subst hik
            have hx2 : l[i]? = some x := by simpa using hx
            rw [h2] at hx2
            exact (Option.some.inj hx2).symm
          · have := h6.2 (by omega)
            have := h5.1
            omega
    rw [e]
    exact h1
def spIsUseful (K : PySem.W.Frag) : Sp := fun vs H Q _ => ∃ (v : V) (b d : Addr) (c : VCmd) (es : List VEx), vs = [v, .ref b, .ref d] ∧ RepC K H v c ∧ okRC c ∧ RepE K H b es ∧ okE es ∧ H d = some (.lst (es.map fun e => V.int (missing [] e : Nat))) ∧
  ∀ H', Same H H' → Q (.bl (isUseful es c)) H'
def spUsefuls (K : PySem.W.Frag) : Sp := fun vs H Q _ => ∃ (a : Addr) (es : List VEx), vs = [.ref a] ∧ RepE K H a es ∧ okE es ∧ NewR (RepC K) (useful es) H Q
section
variable {P : Program} {w : World} {K : PySem.W.Frag} {mg : Str → Option Value} {base : Heap}
theorem sc_is_useful : FnScope ["command", "examples", "distances", "is_nearer", "example", "distance", "far"] ["command", "examples", "distances"] (defScope s_is_useful) := ⟨rfl, rfl, rfl, by decide +kernel, rfl, by decide +kernel, by decide +kernel⟩
theorem ok_is_useful (T : Txt K mg) : DOk P w K mg base CX0 9 "is_useful" (spIsUseful K) := by
  obtain ⟨fd, F⟩ := T.f_is_useful
  have sc := sc_is_useful
  have K_far_from : DOk P w K mg base CX0 8 "far_from" (spFarFrom K) := ok_far_from T
  refine dok F T.g_is_useful (fun _ _ _ _ _ _ us hl => match us, hl with | [_, _, _], _ => rfl) sc (fun vs H Q E h => by obtain ⟨_, _, _, _, _, rfl, _⟩ := h; rfl) (fun cdv A outer s H vs Q E hr h => ?_)
  refine ⟨_, PSs.nox (pss_cons (ps_set (i := 3) sc.nd rfl (Or.inl rfl) pe_bl)
  (pss_cons (ps_for PassesOwn.never rfl (pi_zipK (K := K) rfl rfl T.b_zip (pa_cons (pv 1) (pa_cons (pv 2) pa_nil))) (pg_tupK (K := K) rfl rfl (pgs_cons (pg_name (i := 4) sc.nd rfl (Or.inl rfl)) (pgs_cons (pg_name (i := 5) sc.nd rfl (Or.inl rfl)) pgs_nil)))
  (pss_cons (ps_set (i := 6) sc.nd rfl (Or.inl rfl) (pe_d K_far_from hr (by first | decide | omega) rfl (pa_cons (pe_lst (pa_cons (pv 0) pa_nil)) (pa_cons (pv 4) pa_nil))))
    (pss_cons (ps_if (pt_cmpR op_gt (pv 6) (pv 5) (nomark _))
    (pss_one (ps_ret pe_bl))
    pss_nil)
    (pss_one (ps_if (pt_cmpR op_lt (pv 6) (pv 5) (nomark _))
    (pss_one (ps_set (i := 3) sc.nd rfl (Or.inl rfl) pe_bl))
    pss_nil)))))
  (pss_one (ps_ret (pv 3))))), ?_⟩
  obtain ⟨v, b, d, c, es, rfl, rc, hrc, ⟨us, hb, hp⟩, oe, hd, kq⟩ := h
  have hul := paired_len hp
  rw [isUseful_eq] at kq
  refine ⟨_, rfl, _, rfl, b, d, us, _, rfl, SqL.of hb, SqL.of hd, for_it (walk_zip (n := us.length) (by rw [List.length_map, hul, Nat.min_self])) (fun i σ H' => ∃ v4 v5 v6 : Option V, σ = [some v, some (.ref b), some (.ref d), some (.bl (nearTo (es.take i) c)), v4, v5, v6] ∧ Same H H' ∧ farTo (es.take i) c = true)
    ⟨none, none, none, rfl, Same.refl _, rfl⟩ (fun i σ H' _ ⟨_, _, _, _, s, _⟩ => ⟨SqL.of (s _ _ hb), SqL.of (s _ _ hd)⟩) ?_ ?_⟩
  · rintro i y σ H5 H6 hi ⟨v4, v5, v6, rfl, s5, hf⟩ ⟨T0, x1, x2, rfl, hT, rfl, e1, e2⟩
    obtain ⟨e, he, re⟩ := paired_get hp e1
    have e2 : (es.map fun e => V.int (missing [] e : Nat))[i]? = some x2 := e2
    rw [List.getElem?_map, he] at e2
    cases e2
    have oe1 := oe.2 e (List.mem_of_getElem? he)
    have s6 := Same.new (o := HO.tup [x1, V.int (missing [] e : Nat)]) hT
    have s56 := s5.trans s6
    have hfar : farTo (es.take (i + 1)) c = decide (missing [c] e ≤ missing [] e) := by
      rw [take_more he]
      unfold farTo at hf ⊢
      rw [List.all_append, hf]
      simp
    have hnear : nearTo (es.take (i + 1)) c = (nearTo (es.take i) c || decide (missing [c] e < missing [] e)) := by
      rw [take_more he]
      unfold nearTo
      rw [List.any_append]
      simp
    refine ⟨T0, _, rfl, SqT.of upd_same, rfl, _, _, rfl, _, _, rfl, rfl, ?_⟩
    generalize upd H5 T0 (HO.tup [x1, V.int (missing [] e : Nat)]) = H6 at *
    refine ⟨_, rfl, small (m := 10) (by show 1 ≤ 10; decide), fun q hq => ?_⟩
    have s7 := Same.new (o := HO.lst [v]) hq
    have s57 := s56.trans s7
    refine ⟨_, rfl, q, x1, [c], e, rfl, ⟨[v], upd_same, .cons (repC_imm (Same.imm s57) rc) .nil⟩, by simpa using hrc, by simp, RepX.same s57 re, oe1, fun H8 s8 => ?_⟩
    refine ⟨_, rfl, _, rfl, _, _, rfl, rfl, _, rfl, ite2 (fun c1 => ?_) fun c1 => ?_⟩
    · have d1 : ((missing [] e : Nat) : Int) < ((missing [c] e : Nat) : Int) := of_decide_eq_true c1
      have hall : farTo es c = false := by
        have e3 : es = es.take (i + 1) ++ es.drop (i + 1) := (List.take_append_drop ..).symm
        rw [e3]
        have e4 : farTo (es.take (i + 1) ++ es.drop (i + 1)) c = (farTo (es.take (i + 1)) c && farTo (es.drop (i + 1)) c) := by
          unfold farTo
          rw [List.all_append]
        rw [e4, hfar, decide_eq_false (by omega), Bool.false_and]
      have kk := kq H8 (s57.trans s8)
      rw [hall] at kk
      exact kk
    · have d1 : ¬ ((missing [] e : Nat) : Int) < ((missing [c] e : Nat) : Int) := fun h => c1 (decide_eq_true h)
      have hft : farTo (es.take (i + 1)) c = true := by rw [hfar]; exact decide_eq_true (by omega)
      refine ⟨_, rfl, _, rfl, _, _, rfl, rfl, _, rfl, ite2 (fun c2 => ?_) fun c2 => ?_⟩
      · have d2 : ((missing [c] e : Nat) : Int) < ((missing [] e : Nat) : Int) := of_decide_eq_true c2
        exact ⟨some x1, some (.int (missing [] e : Nat)), some (.int (missing [c] e : Nat)), by rw [hnear, decide_eq_true (show missing [c] e < missing [] e by omega), Bool.or_true]; rfl, s57.trans s8, hft⟩
      · have d2 : ¬ ((missing [c] e : Nat) : Int) < ((missing [] e : Nat) : Int) := fun h => c2 (decide_eq_true h)
        exact ⟨some x1, some (.int (missing [] e : Nat)), some (.int (missing [c] e : Nat)), by rw [hnear, decide_eq_false (show ¬ missing [c] e < missing [] e by omega), Bool.or_false]; rfl, s57.trans s8, hft⟩
  · rintro σ H5 ⟨v4, v5, v6, rfl, s5, hf⟩
    rw [hul, List.take_length] at hf
    have kk := kq H5 s5
    rw [hf, Bool.true_and] at kk
    rw [hul, List.take_length]
    exact ⟨_, rfl, kk⟩
theorem sc_useful_commands : FnScope ["examples", "example", "distances", "useful", "command"] ["examples"] (defScope s_useful_commands) := ⟨rfl, rfl, rfl, by decide +kernel, rfl, by decide +kernel, by decide +kernel⟩
theorem ok_useful_commands (T : Txt K mg) : DOk P w K mg base CX0 10 "useful_commands" (spUsefuls K) := by
  obtain ⟨fd, F⟩ := T.f_useful_commands
  have sc := sc_useful_commands
  obtain ⟨_, c_USEFUL_AT_MOST⟩ := T.v_USEFUL_AT_MOST
  have K_far_from : DOk P w K mg base CX0 8 "far_from" (spFarFrom K) := ok_far_from T
  have K_commands_of : DOk P w K mg base CX0 5 "commands_of" (spCommands K) := ok_commands_of T
  have K_is_useful : DOk P w K mg base CX0 9 "is_useful" (spIsUseful K) := ok_is_useful T
  refine dok F T.g_useful_commands (fun _ _ _ _ _ _ us hl => match us, hl with | [_], _ => rfl) sc (fun vs H Q E h => by obtain ⟨_, _, rfl, _⟩ := h; rfl) (fun cdv A outer s H vs Q E hr h => ?_)
  refine ⟨_, PSs.nox (pss_cons (ps_setLc (own := [("example", 1)]) (i := 2) rfl sc.nd rfl rfl (sw_true rfl rfl rfl (by decide +kernel)) (pi_listK (K := K) rfl (pv 0)) (blkOk_by (N := ["examples", "example", "distances", "useful", "command"]) (sc := defScope s_useful_commands) (by decide +kernel)) (fun _ _ _ _ _ => (pg_name (i := 1) sc.nd rfl (Or.inl rfl))) (fun _ _ _ _ _ => pts_nil) (fun _ _ _ _ _ => (pe_d K_far_from hr (by first | decide | omega) rfl (pa_cons (pe_lst pa_nil) (pa_cons (pv 1) pa_nil)))))
  (pss_cons (ps_set (i := 3) sc.nd rfl (Or.inl rfl) (pe_lst pa_nil))
  (pss_cons (ps_for PassesOwn.never rfl (pi_listK (K := K) rfl (pe_d K_commands_of hr (by first | decide | omega) rfl (pa_cons (pv 0) pa_nil))) (pg_name (i := 4) sc.nd rfl (Or.inl rfl))
  (pss_cons (ps_if (pt_val (pe_d K_is_useful hr (by first | decide | omega) rfl (pa_cons (pv 4) (pa_cons (pv 0) (pa_cons (pv 2) pa_nil)))))
    (pss_one (ps_expr (pe_bmK (K := K) rfl PySem.F.plainAttrs_list PySem.F.slot_list_append PySem.F.type_list_append mt_append (pv 3) (pa_cons (pv 4) pa_nil))))
    pss_nil)
    (pss_one (ps_if (pt_cmpR op_eq (pe_callB (call_len_seqK (K := K) rfl) rfl T.b_len boot_len (pa_cons (pv 3) pa_nil)) (pe_glob (v := .int (40)) rfl c_USEFUL_AT_MOST ⟨_, rfl⟩) (nomark _))
    (pss_one ps_break)
    pss_nil))))
  (pss_one (ps_ret (pv 3)))))), ?_⟩
  obtain ⟨a, es, rfl, re, oe, kq⟩ := h
  obtain ⟨us, ha, hp⟩ := id re
  have hul := paired_len hp
  have hel := oe.1
  have hcl := commands_len oe
  refine ⟨_, rfl, a, rfl, ⟨_, SqL.of ha⟩, fun D hD => ?_⟩
  refine lc_list (K := K) (a := a) (xs := us) (fun i H' => Same H H' ∧ H' D = some (.lst ((es.map fun e => V.int (missing [] e : Nat)).take i))) ⟨Same.new hD, upd_same⟩ (fun i H1 _ ⟨s1, _⟩ => SqL.of (s1 _ _ ha)) ?_ ?_
  · rintro i x H1 hi ⟨s1, h1⟩
    obtain ⟨e, he, re1⟩ := paired_get hp hi
    have hm2 : (es.map fun e => V.int (missing [] e : Nat))[i]? = some (V.int (missing [] e : Nat)) := by rw [List.getElem?_map, he]; rfl
    refine ⟨rfl, small (m := 10) (by show 0 ≤ 10; decide), fun q hq => ?_⟩
    have s2 := Same.new (o := HO.lst []) hq
    refine ⟨_, rfl, q, x, [], e, rfl, ⟨[], upd_same, .nil⟩, by simp, by simp, RepX.same (s1.trans s2) re1, oe.2 e (List.mem_of_getElem? he), fun H2 s3 => ?_⟩
    have s23 := s2.trans s3
    refine ⟨_, s23 _ _ h1, smallLt (m := 100) (by rw [List.length_take, List.length_map]; omega), Same.put (s1.trans s23) hD, ?_⟩
    rw [upd_same, take_more hm2]
  rintro H1 ⟨s1, h1⟩
  rw [List.take_of_length_le (by rw [List.length_map]; omega)] at h1
  refine ⟨small (m := 10) (by show 0 ≤ 10; decide), fun l hl => ?_⟩
  have s2 := Same.new (o := HO.lst []) hl
  refine ⟨_, rfl, a, es, rfl, RepE.same (s1.trans s2) re, oe, fun q H3 cvs hq s3 h3 r3 => ?_⟩
  have lcv := paired_len r3
  have h3l := s3 _ _ (show upd H1 l (HO.lst []) l = some (.lst []) from upd_same)
  have nql : q ≠ l := fun e => by rw [e] at hq; rw [upd_same] at hq; cases hq
  have fin : ∀ (H' : Hp) (us' : List V), Same H1 H' → H' l = some (.lst us') → Paired (RepC K H') us' (useful es) → Q (.ref l) H' := fun H' us' s h r => kq l H' us' (s1.free hl) (s1.trans s) h r
  refine ⟨q, rfl, ⟨_, SqL.of h3⟩, for_list (K := K) (a := q) (xs := cvs) (fun i σ H' => ∃ v4 : Option V, σ = [some (.ref a), none, some (.ref D), some (.ref l), v4] ∧ Same H1 H' ∧ Imm K H3 H' ∧ H' q = some (.lst cvs) ∧
    ∃ ws, H' l = some (.lst ws) ∧ Paired (RepC K H') ws (((commands es).take i).filter (isUseful es)) ∧ ws.length < 40)
    ⟨none, rfl, s2.trans s3, Imm.refl, h3, _, h3l, .nil, by simp⟩ (fun i σ H' _ ⟨_, _, _, _, hq, _⟩ => SqL.of hq) ?_ ?_⟩
  · rintro i x σ H5 hi ⟨v4, rfl, s5, i5, h5q, ws, h5, r5, hw⟩
    obtain ⟨c, hc, rc⟩ := paired_get r3 hi
    have hcm := List.mem_of_getElem? hc
    have rc5 := repC_imm i5 rc
    have htk : ((commands es).take (i + 1)).filter (isUseful es) = ((commands es).take i).filter (isUseful es) ++ if isUseful es c = true then [c] else [] := by
      rw [take_more hc, List.filter_append, List.filter_cons]
      rfl
    -- behind the test
    have rest : ∀ (H6 : Hp) (ws' : List V) (v : Option V) (D' : Ends), Same H1 H6 → Imm K H3 H6 → H6 q = some (.lst cvs) → H6 l = some (.lst ws') → Paired (RepC K H6) ws' (((commands es).take (i + 1)).filter (isUseful es)) → ws'.length ≤ 40 →
        (D'.bk = fun σ H' => tRet (tVar 3) { nx := fun x H' => Q V.non H', rt := Q } σ H') → (D'.nx = fun σ H' => ∃ v4 : Option V, σ = [some (.ref a), none, some (.ref D), some (.ref l), v4] ∧ Same H1 H' ∧ Imm K H3 H' ∧ H' q = some (.lst cvs) ∧
          ∃ ws, H' l = some (.lst ws) ∧ Paired (RepC K H') ws (((commands es).take (i + 1)).filter (isUseful es)) ∧ ws.length < 40) →
        tIfS (tTest (tOp rEq (tCB (rLenK K) (tCons (tVar 3) tNil)) (tC (V.int 40)))) tBreak tNext D' [some (.ref a), none, some (.ref D), some (.ref l), v] H6 := by
      intro H6 ws' v D' s6 i6 h6q h6 r6 hw6 e1 e2
      refine ⟨_, rfl, l, _, rfl, .inl (SqL.of h6), rfl, _, rfl, ite2 (fun c1 => ?_) fun c1 => ?_⟩
      · have d1 : V.int (ws'.length : Nat) = V.int 40 := of_decide_eq_true c1
        have d2 : ws'.length = 40 := by injection d1 with d1; omega
        show D'.bk _ _
        rw [e1]
        refine ⟨_, rfl, fin H6 ws' s6 h6 ?_⟩
        have l6 := paired_len r6
        have e3 : commands es = (commands es).take (i + 1) ++ (commands es).drop (i + 1) := (List.take_append_drop ..).symm
        rw [useful_is, e3, List.filter_append, List.take_append_of_le_length (by omega), List.take_of_length_le (by omega)]
        exact r6
      · have d1 : ¬ V.int (ws'.length : Nat) = V.int 40 := fun h => c1 (decide_eq_true h)
        have d2 : ws'.length ≠ 40 := fun h => d1 (by rw [h]; rfl)
        show D'.nx _ _
        rw [e2]
        exact ⟨_, rfl, s6, i6, h6q, ws', h6, r6, by omega⟩
    refine ⟨_, rfl, _, rfl, _, rfl, x, a, D, c, es, rfl, rc5, (ok_cmd oe hcm).2, RepE.same (s1.trans s5) re, oe, s5 _ _ h1, fun H6 s6 => ⟨_, rfl, ite2 (fun cu => ?_) fun cu => ?_⟩⟩
    · rw [if_pos cu] at htk
      have h6 := s6 _ _ h5
      refine ⟨_, rfl, .inl ⟨rfl, _, SqL.of h6⟩, _, rfl, l, _, _, rfl, rfl, h6, smallLt (m := 100) (by omega), ?_⟩
      have im : Imm K H6 (upd H6 l (.lst (ws ++ [x]))) := Imm.put h6
      refine rest _ (ws ++ [x]) _ _ (Same.put (s5.trans s6) hl) ((i5.trans (Same.imm s6)).trans im) ?_ upd_same ?_ (by simp; omega) rfl rfl
      · rw [upd_ne nql]
        exact s6 _ _ h5q
      · rw [htk]
        exact paired_app (paired_imp (fun _ _ r => repC_imm ((Same.imm s6).trans im) r) r5) (.cons (repC_imm ((Same.imm s6).trans im) rc5) .nil)
    · rw [if_neg cu, List.append_nil] at htk
      refine rest _ ws _ _ (s5.trans s6) (i5.trans (Same.imm s6)) (s6 _ _ h5q) (s6 _ _ h5) ?_ (by omega) rfl rfl
      rw [htk]
      exact paired_imp (fun _ _ r => repC_imm (Same.imm s6) r) r5
  · rintro σ H5 ⟨v4, rfl, s5, i5, h5q, ws, h5, r5, hw⟩
    rw [lcv, List.take_length] at r5
    refine ⟨_, rfl, fin H5 ws s5 h5 ?_⟩
    rw [useful_is, List.take_of_length_le (by rw [← paired_len r5]; omega)]
    exact r5
end
end Ls
set_option Elab.async false
set_option linter.all false
set_option maxRecDepth 100000
set_option maxHeartbeats 4000000
/-! least: pairs_of, form_size, least_fitting, found_script -/
namespace Ls
open PySem PySem.Spec PyProof.Rows L2
open Vasedf (commands ones missing fits total useful leastOf bytes least1 least2 twos found)
def spPairs (K : PySem.W.Frag) : Sp := fun vs H Q _ => ∃ (a : Addr) (us : List V) (u : List VCmd), vs = [.ref a] ∧ H a = some (.lst us) ∧ Paired (RepC K H) us u ∧ u.length ≤ 40 ∧ NewR (RepSc K) (u.flatMap fun c => u.map fun d => [c, d]) H Q
def okF (s : List VCmd) : Prop := (∀ c ∈ s, okC c ∧ okRC c) ∧ s.length ≤ 2
theorem okF.s {s : List VCmd} (h : okF s) : okS s := ⟨fun c hc => (h.1 c hc).2, Nat.le_trans h.2 (by decide)⟩
def spFormSize (K : PySem.W.Frag) : Sp := fun vs H Q _ => ∃ (a : Addr) (s : List VCmd), vs = [.ref a] ∧ RepS K H a s ∧ okF s ∧ ∀ H', Same H H' → Q (.int (bytes s : Nat)) H'
def spLeastFit (K : PySem.W.Frag) : Sp := fun vs H Q _ => ∃ (a b : Addr) (ss : List (List VCmd)) (us : List V) (es : List VEx), vs = [.ref a, .ref b] ∧ H a = some (.lst us) ∧ Paired (RepSc K H) us ss ∧ (∀ s ∈ ss, okF s) ∧ ss.length ≤ 10000 ∧ RepE K H b es ∧ okE es ∧
  (leastOf (ss.filter (fits es)) = none → ∀ H', Same H H' → Q .non H') ∧ ∀ s, leastOf (ss.filter (fits es)) = some s → ∀ p H', Same H H' → RepS K H' p s → Q (.ref p) H'
def spFound (K : PySem.W.Frag) : Sp := fun vs H Q E => ∃ (a : Addr) (es : List VEx), vs = [.ref a] ∧ RepE K H a es ∧ okE es ∧ (∀ s, found es = some s → ∀ p H', Same H H' → RepS K H' p s → Q (.ref p) H') ∧ (found es = none → ∀ H', Same H H' → E (.ref (He.ga K "NothingFound")) none H')
section
variable {P : Program} {w : World} {K : PySem.W.Frag} {mg : Str → Option Value} {base : Heap}
theorem sc_pairs_of : FnScope ["commands", "pairs", "command", "other"] ["commands"] (defScope s_pairs_of) := ⟨rfl, rfl, rfl, by decide +kernel, rfl, by decide +kernel, by decide +kernel⟩
theorem ok_pairs_of (T : Txt K mg) : DOk P w K mg base CX0 1 "pairs_of" (spPairs K) := by
  obtain ⟨fd, F⟩ := T.f_pairs_of
  have sc := sc_pairs_of
  refine dok F T.g_pairs_of (fun _ _ _ _ _ _ us hl => match us, hl with | [_], _ => rfl) sc (fun vs H Q E h => by obtain ⟨_, _, _, rfl, _⟩ := h; rfl) (fun cdv A outer s H vs Q E hr h => ?_)
  refine ⟨_, PSs.nox (pss_cons (ps_set (i := 1) sc.nd rfl (Or.inl rfl) (pe_lst pa_nil))
  (pss_cons (ps_for PassesOwn.never rfl (pi_listK (K := K) rfl (pv 0)) (pg_name (i := 2) sc.nd rfl (Or.inr rfl))
  (pss_one (ps_expr (pe_bmK (K := K) rfl PySem.F.plainAttrs_list PySem.F.slot_list_extend PySem.F.type_list_extend mt_extend (pv 1) (pa_cons (pe_lc (own := [("other", 3)]) rfl sc.nd (pi_listK (K := K) rfl (pv 0)) (blkOk_by (N := ["commands", "pairs", "command", "other"]) (sc := defScope s_pairs_of) (by decide +kernel)) (fun _ _ _ _ _ => (pg_name (i := 3) sc.nd rfl (Or.inl rfl))) (fun _ _ _ _ _ => pts_nil) (fun _ _ _ _ _ => (pe_lst (pa_cons (pv 2) (pa_cons (pv 3) pa_nil))))) pa_nil)))))
  (pss_one (ps_ret (pv 1))))), ?_⟩
  obtain ⟨a, us, u, rfl, ha, hp, hu, kq⟩ := h
  have hul := paired_len hp
  refine ⟨small (m := 10) (by show 0 ≤ 10; decide), fun l hl => ?_⟩
  have s0 := Same.new (o := HO.lst []) hl
  refine ⟨_, rfl, a, rfl, ⟨_, SqL.of (s0 _ _ ha)⟩, for_list (K := K) (a := a) (xs := us) (fun i σ H' => ∃ v2 : Option V, σ = [some (.ref a), some (.ref l), v2, none] ∧ Same H H' ∧ ∃ ws, H' l = some (.lst ws) ∧
    Paired (fun v s => ∃ p, p ≠ l ∧ v = .ref p ∧ RepS K H' p s) ws ((u.take i).flatMap fun c => u.map fun d => [c, d])) ⟨none, rfl, s0, [], upd_same, .nil⟩ (fun i σ H' _ ⟨_, _, s, _⟩ => SqL.of (s _ _ ha)) ?_ ?_⟩
  · rintro i x σ H5 hi ⟨v2, rfl, s5, ws, h5, r5⟩
    obtain ⟨c, hc, rc⟩ := paired_get hp hi
    refine ⟨_, rfl, .inl ⟨rfl, _, SqL.of h5⟩, ?_⟩
    have h5a := s5 _ _ ha
    refine ⟨_, rfl, a, rfl, ⟨_, SqL.of h5a⟩, fun D hD => ?_⟩
    have nDl : l ≠ D := fun e => by rw [← e, h5] at hD; cases hD
    refine lc_rep2 (walk_list (K := K) (xs := us)) hD (fun H v s => ∃ p, p ≠ D ∧ p ≠ l ∧ v = .ref p ∧ RepS K H p s) (fun H H' v b s r => ?_) (fun H acc ys v b h r => ?_) (u.map fun d => [c, d]) (by rw [List.length_map, hul]) (by omega) (fun _ s => SqL.of (s _ _ h5a)) ?_ ?_
    · obtain ⟨p, n, n2, e, r⟩ := r
      exact ⟨p, n, n2, e, r.same s⟩
    · obtain ⟨p, n, n2, e, r⟩ := r
      exact ⟨p, n, n2, e, r.put h n⟩
    · rintro j y b H6 H7 Q4 hj hb s6 ⟨acc, hacc⟩ ⟨rfl, hy⟩ kk
      obtain ⟨d, hd, rd⟩ := paired_get hp hy
      rw [List.getElem?_map, hd] at hb
      cases hb
      refine ⟨rfl, _, rfl, _, rfl, small (m := 10) (by show 2 ≤ 10; decide), fun p hp' => ?_⟩
      have sn := Same.new (o := HO.lst [x, y]) hp'
      have im := Same.imm (K := K) ((s5.trans s6).trans sn)
      refine kk _ _ sn ⟨p, fun e => ?_, fun e => ?_, rfl, [x, y], upd_same, .cons (repC_imm im rc) (.cons (repC_imm im rd) .nil)⟩
      · rw [e, hacc] at hp'
        cases hp'
      · have h6l := s6 _ _ h5
        rw [e, h6l] at hp'
        cases hp'
    rintro ys G sG hy ry
    have ly := paired_len ry
    have lw := paired_len r5
    rw [List.length_map] at ly
    have hcnt : ((u.take i).flatMap fun c => u.map fun d => [c, d]).length ≤ 40 * 40 := by
      have h : ∀ z : List VCmd, (z.flatMap fun c => u.map fun d => [c, d]).length = z.length * u.length := by
        intro z
        induction z with
        | nil => simp
        | cons d z ih => simp only [List.flatMap_cons, List.length_append, List.length_map, List.length_cons, ih, Nat.add_mul]; omega
      rw [h]
      exact Nat.mul_le_mul (by rw [List.length_take]; omega) hu
    refine ⟨l, D, ws, ys, rfl, rfl, sG _ _ h5, hy, small (m := 3000) (by omega), ?_⟩
    have hGl := sG _ _ h5
    refine ⟨_, rfl, Same.put (s5.trans sG) hl, _, upd_same, ?_⟩
    rw [take_more hc, List.flatMap_append]
    refine paired_app (paired_imp (fun _ _ ⟨p, n, e, r⟩ => ⟨p, n, e, (r.same sG).put hGl n⟩) r5) ?_
    have e2 : ([c].flatMap fun c => u.map fun d => [c, d]) = u.map fun d => [c, d] := by simp
    rw [e2]
    exact paired_imp (fun _ _ ⟨p, n, n2, e, r⟩ => ⟨p, n2, e, r.put hGl n2⟩) ry
  · rintro σ H5 ⟨v2, rfl, s5, ws, h5, r5⟩
    rw [hul, List.take_length] at r5
    exact ⟨_, rfl, kq l H5 ws hl s5 h5 (paired_imp (fun _ _ ⟨p, _, e, r⟩ => ⟨p, e, r⟩) r5)⟩
theorem sc_form_size : FnScope ["script"] ["script"] (defScope s_form_size) := ⟨rfl, rfl, rfl, by decide +kernel, rfl, by decide +kernel, by decide +kernel⟩
theorem ok_form_size (T : Txt K mg) : DOk P w K mg base CX0 5 "form_size" (spFormSize K) := by
  obtain ⟨fd, F⟩ := T.f_form_size
  have sc := sc_form_size
  have K_one_form : DOk P w K mg base CX0 4 "one_form" (spOneForm K) := ok_one_form T
  refine dok F T.g_form_size (fun _ _ _ _ _ _ us hl => match us, hl with | [_], _ => rfl) sc (fun vs H Q E h => by obtain ⟨_, _, rfl, _⟩ := h; rfl) (fun cdv A outer s H vs Q E hr h => ?_)
  refine ⟨_, PSs.nox (pss_one (ps_ret (pe_callB call_len_str rfl T.b_len boot_len (pa_cons (pe_d K_one_form hr (by first | decide | omega) rfl (pa_cons (pv 0) pa_nil)) pa_nil)))), ?_⟩
  obtain ⟨a, cs, rfl, rs, ok, kq⟩ := h
  have h1 := shown_len fun c hc => (ok.1 c hc).1
  have h2 := ok.2
  refine ⟨_, rfl, a, cs, rfl, rs, fun c hc => (ok.1 c hc).1, by omega, fun H1 s1 => ⟨_, rfl, small (m := 2000) (by rw [sOf_len]; omega), ?_⟩⟩
  rw [sOf_len]
  exact kq H1 s1
theorem sc_least_fitting : FnScope ["scripts", "examples"] ["scripts", "examples"] (defScope s_least_fitting) := ⟨rfl, rfl, rfl, by decide +kernel, rfl, by decide +kernel, by decide +kernel⟩
theorem ok_least_fitting (T : Txt K mg) : DOk P w K mg base CX0 11 "least_fitting" (spLeastFit K) := by
  obtain ⟨fd, F⟩ := T.f_least_fitting
  have sc := sc_least_fitting
  have K_all_fitting : DOk P w K mg base CX0 10 "all_fitting" (spAllFit K) := ok_all_fitting T
  have K_form_size : DOk P w K mg base CX0 5 "form_size" (spFormSize K) := ok_form_size T
  refine dok F T.g_least_fitting (fun _ _ _ _ _ _ us hl => match us, hl with | [_, _], _ => rfl) sc (fun vs H Q E h => by obtain ⟨_, _, _, _, _, rfl, _⟩ := h; rfl) (fun cdv A outer s H vs Q E hr h => ?_)
  refine ⟨_, PSs.nox (pss_one (ps_ret (pe_callBK (cr_minKD (K := K) rfl rfl K_form_size hr (by first | decide | omega) T.g_form_size) rfl T.b_min (by decide +kernel) (pa_cons (pe_d K_all_fitting hr (by first | decide | omega) rfl (pa_cons (pv 0) (pa_cons (pv 1) pa_nil))) pa_nil) (pk_cons (pe_glob (v := .ref (He.ga K "form_size")) rfl T.g_form_size rfl) (pk_cons pe_non pk_nil))))), ?_⟩
  obtain ⟨a, b, ss, us, es, rfl, ha, hp, hok, hsl, re, oe, k1, k2⟩ := h
  refine ⟨_, rfl, _, rfl, a, b, ss, us, es, rfl, ha, hp, fun s hs => (hok s hs).s, hsl, re, oe, fun l H1 ys hl s1 h1 r1 => ?_⟩
  have hfm : ∀ s ∈ ss.filter (fits es), okF s := fun s hs => hok s (List.mem_filter.mp hs).1
  generalize ss.filter (fits es) = gs at *
  refine ⟨l, ys, fun i => (bytes (gs.getD i []) : Nat), rfl, rfl, SqL.of h1, fun i x H2 hx s2 => ?_, fun e => ?_, fun i x H2 hx hmin s2 => ?_⟩
  · obtain ⟨s, hs, p, rfl, rp⟩ := paired_get r1 hx
    refine ⟨p, s, rfl, RepS.same s2 rp, hfm s (List.mem_of_getElem? hs), fun H3 s3 => ⟨?_, s3⟩⟩
    simp [hs]
  · subst e
    cases r1
    exact k1 rfl H1 s1
  · obtain ⟨s, hs, p, rfl, rp⟩ := paired_get r1 hx
    have hlen := paired_len r1
    refine k2 s (leastOf_is hs fun j y hy => ?_) p H2 (s1.trans s2) (RepS.same s2 rp)
    have h3 := hmin j (by rw [hlen]; exact get_lt hy)
    have e1 : gs.getD i [] = s := by simp [hs]
    have e2 : gs.getD j [] = y := by simp [hy]
    have h3 : ((bytes (gs.getD i []) : Nat) : Int) ≤ (bytes (gs.getD j []) : Nat) ∧ (j < i → ((bytes (gs.getD i []) : Nat) : Int) < (bytes (gs.getD j []) : Nat)) := h3
    rw [e1, e2] at h3
    exact ⟨by omega, fun h => by have := h3.2 h; omega⟩
theorem ones_ok {es : List VEx} (oe : okE es) : ∀ s ∈ ones es, okF s := fun s hs => by
  unfold ones at hs
  obtain ⟨c, hc, rfl⟩ := List.mem_map.mp hs
  exact ⟨fun d hd => by rw [List.mem_singleton.mp hd]; exact ok_cmd oe hc, by simp⟩
theorem mem_useful {es : List VEx} {c : VCmd} (h : c ∈ useful es) : c ∈ commands es := by
  rw [useful_is] at h
  exact (List.mem_filter.mp (List.mem_of_mem_take h)).1
theorem twos_ok {es : List VEx} (oe : okE es) : ∀ s ∈ twos es, okF s := fun s hs => by
  unfold twos at hs
  obtain ⟨c, hc, hs⟩ := List.mem_flatMap.mp hs
  obtain ⟨d, hd, rfl⟩ := List.mem_map.mp hs
  refine ⟨fun z hz => ?_, by simp⟩
  rcases List.mem_cons.mp hz with rfl | hz
  · exact ok_cmd oe (mem_useful hc)
  · rw [List.mem_singleton.mp hz]
    exact ok_cmd oe (mem_useful hd)
theorem useful_len (es : List VEx) : (useful es).length ≤ 40 := by
  rw [useful_is, List.length_take]
  exact Nat.min_le_left _ _
theorem ones_len {es : List VEx} (oe : okE es) : (ones es).length ≤ 4029 := by
  unfold ones
  rw [List.length_map]
  exact commands_len oe
theorem twos_len (es : List VEx) : (twos es).length ≤ 1600 := by
  have h : ∀ z : List VCmd, (z.flatMap fun c => (useful es).map fun d => [c, d]).length = z.length * (useful es).length := by
    intro z
    induction z with
    | nil => simp
    | cons d z ih => simp only [List.flatMap_cons, List.length_append, List.length_map, List.length_cons, ih, Nat.add_mul]; omega
  have e : twos es = (useful es).flatMap fun c => (useful es).map fun d => [c, d] := rfl
  rw [e, h]
  exact Nat.mul_le_mul (useful_len es) (useful_len es)
theorem sc_found_script : FnScope ["examples", "least"] ["examples"] (defScope s_found_script) := ⟨rfl, rfl, rfl, by decide +kernel, rfl, by decide +kernel, by decide +kernel⟩
theorem ok_found_script (T : Txt K mg) : DOk P w K mg base (L2.CX P w) 12 "found_script" (spFound K) := by
  obtain ⟨fd, F⟩ := T.f_found_script
  have sc := sc_found_script
  have x_NothingFound := excB_ok T.x_NothingFound
  have K_fits_all : DOk P w K mg base CX0 9 "fits_all" (spFitsAll K) := ok_fits_all T
  have K_single_scripts_of : DOk P w K mg base CX0 6 "single_scripts_of" (spSingles K) := ok_single_scripts_of T
  have K_least_fitting : DOk P w K mg base CX0 11 "least_fitting" (spLeastFit K) := ok_least_fitting T
  have K_useful_commands : DOk P w K mg base CX0 10 "useful_commands" (spUsefuls K) := ok_useful_commands T
  have K_pairs_of : DOk P w K mg base CX0 1 "pairs_of" (spPairs K) := ok_pairs_of T
  refine dok F T.g_found_script (fun _ _ _ _ _ _ us hl => match us, hl with | [_], _ => rfl) sc (fun vs H Q E h => by obtain ⟨_, _, rfl, _⟩ := h; rfl) (fun cdv A outer s H vs Q E hr h => ?_)
  refine ⟨_, (pss_cons (ps_if (pt_val (pe_d K_fits_all hr (by first | decide | omega) rfl (pa_cons (pe_lst pa_nil) (pa_cons (pv 0) pa_nil))))
  (pss_one (ps_ret (pe_lst pa_nil)))
  pss_nil)
  (pss_cons (ps_set (i := 1) sc.nd rfl (Or.inl rfl) (pe_d K_least_fitting hr (by first | decide | omega) rfl (pa_cons (pe_d K_single_scripts_of hr (by first | decide | omega) rfl (pa_cons (pv 0) pa_nil)) (pa_cons (pv 0) pa_nil))))
  (pss_cons (ps_if (pt_cmpR op_isN (pv 1) pe_non (nomark _))
  (pss_one (ps_set (i := 1) sc.nd rfl (Or.inl rfl) (pe_d K_least_fitting hr (by first | decide | omega) rfl (pa_cons (pe_d K_pairs_of hr (by first | decide | omega) rfl (pa_cons (pe_d K_useful_commands hr (by first | decide | omega) rfl (pa_cons (pv 0) pa_nil)) pa_nil)) (pa_cons (pv 0) pa_nil)))))
  pss_nil)
  (pss_cons (ps_if (pt_cmpR op_isN (pv 1) pe_non (nomark _))
  (pss_one (ps_raise rfl (takes_of rfl rfl rfl rfl) (pmk_own PySem.F.excBase_LookupError x_NothingFound.1 T.g_NothingFound x_NothingFound.2.1 (raises_own x_NothingFound.2.2.1 x_NothingFound.2.2.2) (by exact rfl))))
  pss_nil)
  (pss_one (ps_ret (pv 1))))))), ?_⟩
  obtain ⟨a, es, rfl, re, oe, kq, ke⟩ := h
  refine ⟨small (m := 10) (by show 0 ≤ 10; decide), fun p0 hp0 => ?_⟩
  have s0 := Same.new (o := HO.lst []) hp0
  refine ⟨_, rfl, p0, a, [], es, rfl, ⟨[], upd_same, .nil⟩, ⟨by simp, by simp⟩, RepE.same s0 re, oe, fun H1 s1 => ⟨_, rfl, ite2 (fun c0 => ?_) fun c0 => ?_⟩⟩
  · have hf : found es = some [] := by
      unfold found
      rw [if_pos c0]
    refine ⟨small (m := 10) (by show 0 ≤ 10; decide), fun p1 hp1 => ?_⟩
    exact kq [] hf p1 _ ((s0.trans s1).trans (Same.new hp1)) ⟨[], upd_same, .nil⟩
  · have s01 := s0.trans s1
    refine ⟨_, rfl, a, es, rfl, RepE.same s01 re, oe, fun q H2 us hq s2 h2 r2 => ?_⟩
    have s02 := s01.trans s2
    refine ⟨_, rfl, q, a, ones es, us, es, rfl, h2, r2, ones_ok oe, by have := ones_len oe; omega, RepE.same s02 re, oe, fun hn H3 s3 => ?_, fun s hs p H3 s3 rp => ?_⟩
    · refine ⟨_, rfl, rfl, _, rfl, if_yes (by decide) ?_⟩
      have s03 := s02.trans s3
      refine ⟨_, rfl, a, es, rfl, RepE.same s03 re, oe, fun u H4 ws hu s4 h4 r4 => ?_⟩
      refine ⟨u, ws, useful es, rfl, h4, r4, useful_len es, fun q5 H5 us5 hq5 s5 h5 r5 => ?_⟩
      have s05 := (s03.trans s4).trans s5
      have hf : found es = least2 es := by
        unfold found
        rw [if_neg c0]
        have e : least1 es = none := hn
        rw [e]
      refine ⟨_, rfl, q5, a, twos es, us5, es, rfl, h5, r5, twos_ok oe, by have := twos_len es; omega, RepE.same s05 re, oe, fun hn2 H6 s6 => ?_, fun s hs p H6 s6 rp => ?_⟩
      · refine ⟨_, rfl, rfl, _, rfl, if_yes (by decide) ?_⟩
        exact ke (by rw [hf]; exact hn2) H6 (s05.trans s6)
      · refine ⟨_, rfl, rfl, _, rfl, if_no (by simp) ?_⟩
        exact ⟨_, rfl, kq s (by rw [hf]; exact hs) p H6 (s05.trans s6) rp⟩
    · have hf : found es = some s := by
        unfold found
        rw [if_neg c0]
        have e : least1 es = some s := hs
        rw [e]
      refine ⟨_, rfl, rfl, _, rfl, if_no (by simp) ?_⟩
      refine ⟨_, rfl, rfl, _, rfl, if_no (by simp) ?_⟩
      exact ⟨_, rfl, kq s hf p H3 (s02.trans s3) rp⟩
end
end Ls
set_option Elab.async false
set_option linter.all false
set_option maxRecDepth 100000
set_option maxHeartbeats 4000000
/-! examples: Example, read_example_text, the simple answers -/
namespace Ls
open PySem PySem.Spec PyProof.Rows L2
/-- all but the held list and the reader stands -/
def Keep2 (h p : Addr) (H H' : Hp) : Prop := ∀ a o, H a = some o → a ≠ h → a ≠ p → H' a = some o
/-- .. and the tables of code -/
def Keep (h p : Addr) (H H' : Hp) : Prop := ∀ a o, H a = some o → a ≠ h → a ≠ p → (∀ ps, o ≠ .tbl ps) → H' a = some o
theorem Keep2.k {h p : Addr} {H H' : Hp} (s : Keep2 h p H H') : Keep h p H H' := fun a o e n1 n2 _ => s a o e n1 n2
theorem Keep2.kpo {h p : Addr} {H H' : Hp} (s : KpO p H H') : Keep2 h p H H' := fun a o e _ n => s a o e n
theorem Keep2.same {h p : Addr} {H H' : Hp} (s : Same H H') : Keep2 h p H H' := fun a o e _ _ => s a o e
theorem Keep2.trans {h p : Addr} {H H1 H2 : Hp} (a : Keep2 h p H H1) (b : Keep2 h p H1 H2) : Keep2 h p H H2 := fun q o e n1 n2 => b q o (a q o e n1 n2) n1 n2
def TBok (TB : Hp → Prop) : Prop := ∀ (H H' : Hp) (h p : Addr) (xs : List V) (C dx : Addr) (fs : List (Str × V)), H h = some (.lst xs) → H p = some (.ins C dx fs) → Keep2 h p H H' → TB H → TB H'
/-- the state between calls: the held examples at h, the reader at p -/
structure StAt (K : PySem.W.Frag) (TB : Hp → Prop) (H : Hp) (h p dx a : Addr) (k : Nat) (ns : List Int) (es : List VEx) : Prop where
  re : RepE K H h es
  oe : okE es
  rd : RdAt K H p dx a k ns
  nap : a ≠ p
  nah : a ≠ h
  tb : TB H
theorem repX_kpo {K : PySem.W.Frag} {H H' : Hp} {p C dx a : Addr} {k : Nat} (hp : H p = some (.ins C dx (rdF a k))) (s : KpO p H H') {v : V} {e : VEx} (r : RepX K H v e) : RepX K H' v e := by
  obtain ⟨q, dx', b, c, e1, h1, h2, h3⟩ := r
  refine ⟨q, dx', b, c, e1, s _ _ h1 (ne_of h1 hp ?_), s _ _ h2 (ne_of h2 hp (by intro z; cases z)), s _ _ h3 (ne_of h3 hp (by intro z; cases z))⟩
  intro z
  injection z with _ _ z
  have z : [(Str.ofString "before", V.ref b), (Str.ofString "after", V.ref c)] = rdF a k := z
  injection z with z _
  injection z with z _
  exact absurd z (by decide +kernel)
theorem repE_kpo {K : PySem.W.Frag} {H H' : Hp} {p C dx a h : Addr} {k : Nat} {es : List VEx} (hp : H p = some (.ins C dx (rdF a k))) (s : KpO p H H') (r : RepE K H h es) : RepE K H' h es := by
  obtain ⟨us, h1, r1⟩ := r
  exact ⟨us, s _ _ h1 (ne_of h1 hp (by intro z; cases z)), paired_imp (fun _ _ x => repX_kpo hp s x) r1⟩
section
variable {K : PySem.W.Frag} {TB : Hp → Prop} {H H' : Hp} {h p dx a : Addr} {k k' : Nat} {ns : List Int} {es : List VEx}
theorem StAt.hp (S : StAt K TB H h p dx a k ns es) : h ≠ p := by
  obtain ⟨us, h1, _⟩ := S.re
  exact ne_of h1 S.rd.ob (by intro z; cases z)
/-- the reader went on -/
theorem StAt.kpo (S : StAt K TB H h p dx a k ns es) (tb : TBok TB) (s : KpO p H H') (r : RdAt K H' p dx a k' ns) : StAt K TB H' h p dx a k' ns es := by
  obtain ⟨us, h1, _⟩ := id S.re
  exact ⟨repE_kpo S.rd.ob s S.re, S.oe, r, S.nap, S.nah, tb _ _ h p _ _ _ _ h1 S.rd.ob (Keep2.kpo s) S.tb⟩
theorem StAt.same (S : StAt K TB H h p dx a k ns es) (tb : TBok TB) (s : Same H H') : StAt K TB H' h p dx a k ns es := by
  obtain ⟨us, h1, _⟩ := id S.re
  refine ⟨RepE.same s S.re, S.oe, ⟨s _ _ S.rd.ob, ?_⟩, S.nap, S.nah, tb _ _ h p _ _ _ _ h1 S.rd.ob (Keep2.same s) S.tb⟩
  rcases S.rd.sq with e | e
  · rcases e with e | ⟨o, e⟩
    · exact .inl (.inl (s _ _ e))
    · exact .inl (.inr ⟨o, s _ _ e⟩)
  · exact .inr e
/-- the held list was stored anew -/
theorem StAt.held (S : StAt K TB H h p dx a k ns es) (tb : TBok TB) {us : List V} {es' : List VEx} (r : RepE K (upd H h (.lst us)) h es') (o : okE es') : StAt K TB (upd H h (.lst us)) h p dx a k ns es' := by
  obtain ⟨us0, h1, _⟩ := id S.re
  have hs : Keep2 h p H (upd H h (.lst us)) := fun q u e n1 n2 => by rw [upd_ne n1]; exact e
  refine ⟨r, o, ⟨by rw [upd_ne (Ne.symm S.hp)]; exact S.rd.ob, ?_⟩, S.nap, S.nah, tb _ _ h p _ _ _ _ h1 S.rd.ob hs S.tb⟩
  exact sq_kp (p := h) (fun q u e n => by rw [upd_ne n]; exact e) S.nah S.rd.sq
end
/-- a row of bytes stands at k -/
def RowAt (ns : List Int) (k : Nat) (b : List UInt8) : Prop := ns[k]? = some ((b.length : Nat) : Int) ∧ k + 1 + b.length ≤ ns.length ∧ (ns.drop (k + 1)).take b.length = b.map fun c => ((c.toNat : Nat) : Int)
/-- a call's arguments stand from k to k' -/
def CallAt (ns : List Int) (k : Nat) (k' : Nat) : Vasedf.Call → Prop
  | .example_ x y => RowAt ns k x ∧ RowAt ns (k + 1 + x.length) y ∧ k' = k + 1 + x.length + 1 + y.length ∧ x.length ≤ 8192 ∧ y.length ≤ 8192
  | .drop z => ns[k]? = some z ∧ k' = k + 1
  | .check b => RowAt ns k b ∧ k' = k + 1 + b.length ∧ b.length ≤ 8192
  | .far x y => RowAt ns k x ∧ RowAt ns (k + 1 + x.length) y ∧ k' = k + 1 + x.length + 1 + y.length ∧ x.length ≤ 8192 ∧ y.length ≤ 8192
  | _ => k' = k
def encA (a : VasedBase.Answer) : List Int := a.value :: a.rest
/-- what an answer's def promises -/
def AnsP (K : PySem.W.Frag) (TB : Hp → Prop) (ok : Vasedf.Call → Prop) : Sp := fun vs H Q _ => ∃ (h p dx a : Addr) (k k' : Nat) (ns : List Int) (es : List VEx) (c : Vasedf.Call), vs = [.ref h, .ref p] ∧ ok c ∧ StAt K TB H h p dx a k ns es ∧ CallAt ns k k' c ∧
  ∀ H' q, H q = none → Keep h p H H' → StAt K TB H' h p dx a k' ns (Vasedf.step es c).1 → H' q = some (.lst (iV (encA (Vasedf.step es c).2))) → (encA (Vasedf.step es c).2).length ≤ 12000 → Q (.ref q) H'
def spExInit (K : PySem.W.Frag) : Sp := fun vs H Q _ => ∃ (p dx : Addr) (va vb : V), vs = [.ref p, va, vb] ∧ H p = some (.ins (He.ga K "Example") dx []) ∧ Q .non (upd H p (.ins (He.ga K "Example") dx [("before", va), ("after", vb)]))
def spReadEx (K : PySem.W.Frag) : Sp := fun vs H Q E => ∃ (a : Addr) (bs : List UInt8), vs = [.ref a] ∧ SqL K H a (bV bs) ∧ bs.length ≤ 10000 ∧
  (Vasedf.readText bs = none → ∀ H', Same H H' → E (.ref (He.ga K "NotAText")) none H') ∧ (∀ t, Vasedf.readText bs = some t → NewL (tS t) H Q)
section
variable {P : Program} {w : World} {K : PySem.W.Frag} {mg : Str → Option Value} {base : Heap} {TB : Hp → Prop}
theorem sc_Example___init__ : FnScope ["self", "before", "after"] ["self", "before", "after"] (defScope s_Example___init__) := ⟨rfl, rfl, rfl, by decide +kernel, rfl, by decide +kernel, by decide +kernel⟩
theorem ok_Example (T : Txt K mg) : COk P w K mg base 1 "Example" (He.ga K "Example") (spExInit K) := by
  obtain ⟨fd, F⟩ := T.f_Example___init__
  have sc := sc_Example___init__
  refine cok F T.m_Example T.g_Example (fun _ _ _ _ _ _ us hl => match us, hl with | [_, _, _], _ => rfl) sc (fun vs H Q E h => by obtain ⟨_, _, _, _, rfl, _⟩ := h; rfl) (fun cdv A outer s H vs Q E hr h => ?_)
  refine ⟨_, PSs.nox (pss_cons (ps_fldK (K := K) rfl (pv 0) (pv 1) rfl)
  (pss_one (ps_fldK (K := K) rfl (pv 0) (pv 2) rfl))), ?_⟩
  obtain ⟨p, dx, va, vb, rfl, hp, k⟩ := h
  refine ⟨_, rfl, _, rfl, p, _, dx, _, rfl, hp, T.c_Example, T.n_Example_before, by show 0 < 1000; decide, ?_⟩
  refine ⟨_, rfl, _, rfl, p, _, dx, _, rfl, upd_same, T.c_Example, T.n_Example_after, by show 1 < 1000; decide, ?_⟩
  rw [upd_upd]
  exact k
theorem sc_read_example_text : FnScope ["told", "lines"] ["told"] (defScope s_read_example_text) := ⟨rfl, rfl, rfl, by decide +kernel, rfl, by decide +kernel, by decide +kernel⟩
theorem ok_read_example_text (T : Txt K mg) : DOk P w K mg base (L2.CX P w) 3 "read_example_text" (spReadEx K) := by
  obtain ⟨fd, F⟩ := T.f_read_example_text
  have sc := sc_read_example_text
  obtain ⟨_, c_EXAMPLE_LINES_AT_MOST⟩ := T.v_EXAMPLE_LINES_AT_MOST
  have x_NotAText := excB_ok T.x_NotAText
  have K_read_text : DOk P w K mg base (L2.CX P w) 2 "read_text" (spReadText K) := ok_read_text T
  refine dok F T.g_read_example_text (fun _ _ _ _ _ _ us hl => match us, hl with | [_], _ => rfl) sc (fun vs H Q E h => by obtain ⟨_, _, rfl, _⟩ := h; rfl) (fun cdv A outer s H vs Q E hr h => ?_)
  refine ⟨_, (pss_cons (ps_set (i := 1) sc.nd rfl (Or.inl rfl) (pe_dS K_read_text hr (by first | decide | omega) rfl (takes_of rfl rfl rfl rfl) (pa_cons (pv 0) pa_nil)))
  (pss_cons (ps_if (pt_cmpR op_gt (pe_callB (call_len_seqK (K := K) rfl) rfl T.b_len boot_len (pa_cons (pv 1) pa_nil)) (pe_glob (v := .int (6)) rfl c_EXAMPLE_LINES_AT_MOST ⟨_, rfl⟩) (nomark _))
  (pss_one (ps_raise rfl (takes_of rfl rfl rfl rfl) (pmk_own PySem.F.excBase_ValueError x_NotAText.1 T.g_NotAText x_NotAText.2.1 (raises_own x_NotAText.2.2.1 x_NotAText.2.2.2) (by exact rfl))))
  pss_nil)
  (pss_one (ps_ret (pv 1))))), ?_⟩
  obtain ⟨a, bs, rfl, ha, hz, k1, k2⟩ := h
  refine ⟨_, rfl, a, bs, rfl, ha, hz, fun hn H1 s1 => ?_, fun t ht p H1 hp s1 h1 => ?_⟩
  · refine k1 ?_ H1 s1
    unfold Vasedf.readText
    rw [hn]
    rfl
  · have e : Vasedf.readText bs = if 6 < t.length then none else some t := by
      unfold Vasedf.readText
      rw [ht]
      rfl
    have ht2 : t.length ≤ 24 := by
      unfold Vaseda.readText at ht
      cases h0 : Vaseda.textOf bs with
      | none => rw [h0] at ht; cases ht
      | some u =>
        rw [h0] at ht
        have ht : (if Vaseda.LINES < u.length ∨ u.any (fun x => decide (Vaseda.LONG < x.length)) = true then none else some u) = some t := ht
        split at ht
        · cases ht
        · rename_i hn
          cases ht
          have : ¬ 24 < t.length := fun z => hn (.inl z)
          omega
    refine ⟨_, rfl, p, _, rfl, .inl (SqL.of h1), _, _, rfl, rfl, _, rfl, ite2 (fun c => ?_) fun c => ?_⟩
    · have d1 : (6 : Int) < (((tS t).length : Nat) : Int) := of_decide_eq_true c
      rw [tS_len] at d1
      exact k1 (by rw [e, if_pos (by omega)]) H1 s1
    · have d1 : ¬ (6 : Int) < (((tS t).length : Nat) : Int) := fun h => c (decide_eq_true h)
      rw [tS_len] at d1
      exact ⟨_, rfl, k2 t (by rw [e, if_neg (by omega)]) p H1 hp s1 h1⟩
end
end Ls
set_option Elab.async false
set_option linter.all false
set_option maxRecDepth 100000
set_option maxHeartbeats 4000000
/-! examples: answer_example, answer_drop, answer_shown, answer_far -/
namespace Ls
open PySem PySem.Spec PyProof.Rows L2
theorem readEx_ok {b : List UInt8} {t : List Ln} (h : Vasedf.readText b = some t) : okTx t := by
  unfold Vasedf.readText at h
  cases h1 : Vaseda.readText b with
  | none => rw [h1] at h; cases h
  | some u =>
    rw [h1] at h
    have h : (if Vasedf.LINES < u.length then none else some u) = some t := h
    split at h
    · cases h
    · rename_i hn
      cases h
      unfold Vaseda.readText at h1
      cases h0 : Vaseda.textOf b with
      | none => rw [h0] at h1; cases h1
      | some z =>
        rw [h0] at h1
        have h1 : (if Vaseda.LINES < z.length ∨ z.any (fun x => decide (Vaseda.LONG < x.length)) = true then none else some z) = some t := h1
        split at h1
        · cases h1
        · rename_i hn2
          cases h1
          have h6 : ¬ 6 < t.length := hn
          refine ⟨by omega, fun x hx => ?_⟩
          rcases Nat.lt_or_ge 16 x.length with hl | hl
          · exact absurd (.inr (List.any_eq_true.mpr ⟨x, hx, decide_eq_true hl⟩)) hn2
          · exact hl
theorem paired_imp_mem {α β : Type} {R S : α → β → Prop} : ∀ {xs : List α} {ys : List β}, (∀ a b, a ∈ xs → R a b → S a b) → Paired R xs ys → Paired S xs ys
  | _, _, _, .nil => .nil
  | _, _, f, .cons r t => .cons (f _ _ (List.mem_cons_self ..) r) (paired_imp_mem (fun a b h r => f a b (List.mem_cons_of_mem _ h) r) t)
theorem repX_put {K : PySem.W.Frag} {H : Hp} {h : Addr} {ws : List V} {v : V} {e : VEx} {us : List V} (hh : H h = some (.lst us)) (n : ∀ b t, H b = some (.lst (tS t)) → b = h → False) (r : RepX K H v e) : RepX K (upd H h (.lst ws)) v e := by
  obtain ⟨p, dx, b, c, e1, h1, h2, h3⟩ := r
  exact ⟨p, dx, b, c, e1, by rw [upd_ne (ne_of h1 hh (by intro z; cases z))]; exact h1, by rw [upd_ne fun z => n b _ h2 z]; exact h2, by rw [upd_ne fun z => n c _ h3 z]; exact h3⟩
theorem no_text {K : PySem.W.Frag} {H : Hp} {h : Addr} {us : List V} {es : List VEx} (hh : H h = some (.lst us)) (rr : Paired (RepX K H) us es) (hne : us ≠ []) : ∀ b t, H b = some (.lst (tS t)) → b = h → False := by
  intro b t hb e
  rw [e, hh] at hb
  have hu : us = tS t := by injection hb with hb; injection hb
  cases us with
  | nil => exact hne rfl
  | cons u us =>
    cases rr with
    | cons r _ =>
      obtain ⟨p, _, _, _, e1, _⟩ := r
      rw [e1] at hu
      cases t with
      | nil => cases hu
      | cons x t => cases hu
theorem repXs_put {K : PySem.W.Frag} {H : Hp} {h : Addr} {us ws : List V} {es : List VEx} (hh : H h = some (.lst us)) (rr : Paired (RepX K H) us es) : Paired (RepX K (upd H h (.lst ws))) us es := by
  refine paired_imp_mem (fun v e hv r => ?_) rr
  refine repX_put hh (no_text hh rr ?_) r
  intro e
  rw [e] at hv
  cases hv
theorem row_bV {ns : List Int} {k : Nat} {b : List UInt8} (r : RowAt ns k b) : ((ns.drop (k + 1)).take b.length).map V.int = bV b := by
  rw [r.2.2, List.map_map]
  rfl
section
variable {K : PySem.W.Frag} {TB : Hp → Prop} {H Hs : Hp} {h p dx a l : Addr} {k k' : Nat} {ns : List Int} {es es' : List VEx} {c : Vasedf.Call} {Q : VK} {ans : List Int}
theorem fresh2 (S : StAt K TB Hs h p dx a k' ns es') (hk : Keep2 h p H Hs) (hl : Hs l = none) : H l = none := by
  cases e : H l with
  | none => rfl
  | some o =>
    obtain ⟨us, h1, _⟩ := S.re
    have n1 : l ≠ h := fun z => by rw [z, h1] at hl; cases hl
    have n2 : l ≠ p := fun z => by rw [z, S.rd.ob] at hl; cases hl
    rw [hk _ _ e n1 n2] at hl
    cases hl
/-- a new list is answered -/
theorem ans_end (tb : TBok TB) (kq : ∀ H' q, H q = none → Keep h p H H' → StAt K TB H' h p dx a k' ns (Vasedf.step es c).1 → H' q = some (.lst (iV (encA (Vasedf.step es c).2))) → (encA (Vasedf.step es c).2).length ≤ 12000 → Q (.ref q) H')
    (S : StAt K TB Hs h p dx a k' ns es') (hk : Keep2 h p H Hs) (hl : Hs l = none) (e1 : Vasedf.step es c = (es', ⟨ans.headD 0, ans.tail⟩)) (e2 : ans ≠ []) (e3 : ans.length ≤ 12000) : Q (.ref l) (upd Hs l (.lst (iV ans))) := by
  have ea : encA (Vasedf.step es c).2 = ans := by
    rw [e1]
    cases ans with
    | nil => exact absurd rfl e2
    | cons x r => rfl
  have ee : (Vasedf.step es c).1 = es' := by rw [e1]
  rw [ea, ee] at kq
  exact kq _ l (fresh2 S hk hl) (hk.trans (Keep2.same (Same.new hl))).k (S.same tb (Same.new hl)) upd_same e3
end
section
variable {P : Program} {w : World} {K : PySem.W.Frag} {mg : Str → Option Value} {base : Heap} {TB : Hp → Prop}
theorem sc_answer_example : FnScope ["held", "reader", "told_before", "told_after", "example"] ["held", "reader"] (defScope s_answer_example) := ⟨rfl, rfl, rfl, by decide +kernel, rfl, by decide +kernel, by decide +kernel⟩
theorem ok_answer_example (tb : TBok TB) (T : Txt K mg) : DOk P w K mg base CX0 4 "answer_example" (AnsP K TB fun c => ∃ x y, c = .example_ x y) := by
  obtain ⟨fd, F⟩ := T.f_answer_example
  have sc := sc_answer_example
  obtain ⟨_, c_EXAMPLES_AT_MOST⟩ := T.v_EXAMPLES_AT_MOST; obtain ⟨_, c_NOT_A_TEXT⟩ := T.v_NOT_A_TEXT; obtain ⟨_, c_NO_ROOM⟩ := T.v_NO_ROOM
  have K_CallReader_read_row := ok_read_row (P := P) (w := w) (base := base) T
  have K_read_example_text : DOk P w K mg base (L2.CX P w) 3 "read_example_text" (spReadEx K) := ok_read_example_text T
  have K_Example := ok_Example (P := P) (w := w) (base := base) T
  refine dok F T.g_answer_example (fun _ _ _ _ _ _ us hl => match us, hl with | [_, _], _ => rfl) sc (fun vs H Q E h => by obtain ⟨_, _, _, _, _, _, _, _, _, rfl, _⟩ := h; rfl) (fun cdv A outer s H vs Q E hr h => ?_)
  refine ⟨_, PSs.nox (pss_cons (ps_set (i := 2) sc.nd rfl (Or.inl rfl) (pe_mt0 (pv 1) K_CallReader_read_row hr (by first | decide | omega)))
  (pss_cons (ps_set (i := 3) sc.nd rfl (Or.inl rfl) (pe_mt0 (pv 1) K_CallReader_read_row hr (by first | decide | omega)))
  (pss_cons (ps_try_only rfl rfl ⟨rfl, by decide, .inl T.g_NotAText⟩ takes0
  (fun W pn xe tk _ => (pss_one (ps_set (i := 4) sc.nd rfl (Or.inl rfl) (pe_mk K_Example hr (by first | decide | omega) rfl (pa_cons (pe_dS K_read_example_text hr (by first | decide | omega) rfl tk (pa_cons (pv 2) pa_nil)) (pa_cons (pe_dS K_read_example_text hr (by first | decide | omega) rfl tk (pa_cons (pv 3) pa_nil)) pa_nil))))))
  (fun _ _ _ _ _ _ _ => (pss_one (ps_ret (pe_lst (pa_cons (pe_glob (v := .int (-4)) rfl c_NOT_A_TEXT ⟨_, rfl⟩) pa_nil))))))
  (pss_cons (ps_if (pt_cmpR op_eq (pe_callB (call_len_seqK (K := K) rfl) rfl T.b_len boot_len (pa_cons (pv 0) pa_nil)) (pe_glob (v := .int (4)) rfl c_EXAMPLES_AT_MOST ⟨_, rfl⟩) (nomark _))
  (pss_one (ps_ret (pe_lst (pa_cons (pe_glob (v := .int (-7)) rfl c_NO_ROOM ⟨_, rfl⟩) pa_nil))))
  pss_nil)
  (pss_cons (ps_expr (pe_bmK (K := K) rfl PySem.F.plainAttrs_list PySem.F.slot_list_append PySem.F.type_list_append mt_append (pv 0) (pa_cons (pv 4) pa_nil)))
  (pss_one (ps_ret (pe_lst (pa_cons (pe_callB (call_len_seqK (K := K) rfl) rfl T.b_len boot_len (pa_cons (pv 0) pa_nil)) pa_nil))))))))), ?_⟩
  obtain ⟨h, p, dx, a, k, k', ns, es, c, rfl, ⟨x, y, rfl⟩, S, ⟨r1, r2, rfl, hx, hy⟩, kq⟩ := h
  refine ⟨_, rfl, p, dx, _, rfl, S.rd.ob, rfl, p, dx, a, k, x.length, ns, rfl, S.rd, S.nap, r1.1, r1.2.1, fun H1 q1 s1 R1 hq1 h1 => ?_⟩
  rw [row_bV r1] at h1
  have S1 := S.kpo tb s1 R1
  refine ⟨_, rfl, p, dx, _, rfl, S1.rd.ob, rfl, p, dx, a, _, y.length, ns, rfl, S1.rd, S1.nap, r2.1, r2.2.1, fun H2 q2 s2 R2 hq2 h2 => ?_⟩
  rw [row_bV r2] at h2
  have S2 := S1.kpo tb s2 R2
  have e' : k + 1 + x.length + 1 + y.length = k + 1 + x.length + 1 + y.length := rfl
  have n1 : q1 ≠ p := fun e => by rw [e, S.rd.ob] at hq1; cases hq1
  have h12 := s2 _ _ h1 n1
  have k2 : Keep2 h p H H2 := Keep2.kpo (s1.trans s2)
  have hlen := S.oe.1
  have bad : (Vasedf.readText x = none ∨ Vasedf.readText y = none) → Vasedf.step es (.example_ x y) = (es, ⟨([-4] : List Int).headD 0, ([-4] : List Int).tail⟩) := fun hb => by
    show (match Vasedf.readText x, Vasedf.readText y with | some x, some y => _ | _, _ => _) = _
    rcases hb with hb | hb
    · rw [hb]; rfl
    · rw [hb]
      cases Vasedf.readText x <;> rfl
  have handler : ∀ H3, Same H2 H3 → (Vasedf.readText x = none ∨ Vasedf.readText y = none) → ∀ l, H3 l = none → Q (.ref l) (upd H3 l (.lst (iV [-4]))) := fun H3 s3 hb l hl =>
    ans_end tb kq (S2.same tb s3) (k2.trans (Keep2.same s3)) hl (bad hb) (by simp) (by simp)
  refine ⟨_, rfl, q1, x, rfl, SqL.of h12, by omega, fun hn H3 s3 => ⟨true, T.e_NotAText, fun _ a2 ha2 => ⟨small (m := 10) (by show 1 ≤ 10; decide), fun l hl => handler H3 s3 (.inl hn) l hl⟩, fun q => nomatch q⟩, fun t ht b1 H3 hb1 s3 h3 => ?_⟩
  refine ⟨_, rfl, q2, y, rfl, SqL.of (s3 _ _ h2), by omega, fun hn H4 s4 => ⟨true, T.e_NotAText, fun _ a2 ha2 => ⟨small (m := 10) (by show 1 ≤ 10; decide), fun l hl => handler H4 (s3.trans s4) (.inr hn) l hl⟩, fun q => nomatch q⟩, fun u hu b2 H4 hb2 s4 h4 => ?_⟩
  intro e dx' he hdx ne
  refine ⟨e, dx', _, _, rfl, upd_same, rfl, ?_⟩
  rw [upd_upd]
  have sn := new_ins (K := K) (C := He.ga K "Example") (fs := [("before", .ref b1), ("after", .ref b2)]) he hdx ne
  have s24 := (s3.trans s4).trans sn
  have S5 := S2.same tb s24
  have g1 : upd (upd H4 dx' (.own e)) e (.ins (He.ga K "Example") dx' [("before", .ref b1), ("after", .ref b2)]) e = some (.ins (He.ga K "Example") dx' [("before", .ref b1), ("after", .ref b2)]) := upd_same
  have g2 := sn _ _ (s4 _ _ h3)
  have g3 := sn _ _ h4
  obtain ⟨us2, hh2, _⟩ := id S2.re
  have nb1 : b1 ≠ h := Ne.symm (ne_of_none hh2 hb1)
  have nb2 : b2 ≠ h := Ne.symm (ne_of_none (s3 _ _ hh2) hb2)
  generalize upd (upd H4 dx' (.own e)) e (.ins (He.ga K "Example") dx' [("before", .ref b1), ("after", .ref b2)]) = H5 at *
  obtain ⟨us, hh, rr⟩ := S5.re
  have lus := paired_len rr
  have hst : Vasedf.step es (.example_ x y) = if 4 ≤ es.length then (es, VasedBase.one (-7)) else (es ++ [⟨t, u⟩], VasedBase.one ((es.length : Int) + 1)) := by
    show (match Vasedf.readText x, Vasedf.readText y with | some x, some y => _ | _, _ => _) = _
    rw [ht, hu]
    rfl
  have okT : ∀ (b : List UInt8) (t : List Ln), Vasedf.readText b = some t → okTx t := fun _ _ h => readEx_ok h
  refine ⟨_, rfl, h, _, rfl, .inl (SqL.of hh), rfl, _, rfl, ite2 (fun c1 => ?_) fun c1 => ?_⟩
  · have d1 : V.int (us.length : Nat) = V.int 4 := of_decide_eq_true c1
    have d2 : us.length = 4 := by injection d1 with d1; omega
    refine ⟨small (m := 10) (by show 1 ≤ 10; decide), fun l hl => ?_⟩
    refine ans_end (ans := [-7]) tb kq S5 (k2.trans (Keep2.same s24)) hl ?_ (by simp) (by simp)
    rw [hst, if_pos (by omega)]
    rfl
  · have d1 : ¬ V.int (us.length : Nat) = V.int 4 := fun h => c1 (decide_eq_true h)
    have d2 : us.length ≠ 4 := fun h => d1 (by rw [h]; rfl)
    refine ⟨_, rfl, .inl ⟨rfl, _, SqL.of hh⟩, _, rfl, h, _, _, rfl, rfl, hh, smallLt (m := 100) (by omega), ?_⟩
    have rX6 : RepX K (upd H5 h (.lst (us ++ [.ref e]))) (.ref e) ⟨t, u⟩ := ⟨e, dx', b1, b2, rfl, by rw [upd_ne (ne_of g1 hh (by intro z; cases z))]; exact g1, by rw [upd_ne nb1]; exact g2, by rw [upd_ne nb2]; exact g3⟩
    have S6 : StAt K TB (upd H5 h (.lst (us ++ [.ref e]))) h p dx a _ ns (es ++ [⟨t, u⟩]) := S5.held tb (us := us ++ [.ref e]) ⟨_, upd_same, paired_app (repXs_put hh rr) (.cons rX6 .nil)⟩ ⟨by simp; omega, fun z hz => ?_⟩
    · refine ⟨_, rfl, h, _, rfl, .inl (SqL.of upd_same), small (m := 10) (by show 1 ≤ 10; decide), fun l hl => ?_⟩
      have hk5 : Keep2 h p H (upd H5 h (.lst (us ++ [.ref e]))) := (k2.trans (Keep2.same s24)).trans fun q o e1 n1 _ => by rw [upd_ne n1]; exact e1
      have eans : (V.int ((us ++ [V.ref e]).length : Nat) :: [] : List V) = iV [((es.length : Nat) : Int) + 1] := by
        show [V.int ((us ++ [V.ref e]).length : Nat)] = [V.int (((es.length : Nat) : Int) + 1)]
        rw [List.length_append, lus]
        rfl
      rw [eans] at *
      refine ans_end (ans := [((es.length : Nat) : Int) + 1]) tb kq S6 hk5 hl ?_ (by simp) (by simp)
      rw [hst, if_neg (by omega)]
      rfl
    · rcases List.mem_append.mp hz with hz | hz
      · exact S.oe.2 z hz
      · rw [List.mem_singleton.mp hz]
        exact ⟨okT x t ht, okT y u hu⟩
end
end Ls
set_option Elab.async false
set_option linter.all false
set_option maxRecDepth 100000
set_option maxHeartbeats 4000000
/-! examples: answer_drop, answer_shown, answer_family, answer_far -/
namespace Ls
open PySem PySem.Spec PyProof.Rows L2
theorem paired_erase {α β : Type} {R : α → β → Prop} : ∀ {xs : List α} {ys : List β} (k : Nat), Paired R xs ys → Paired R (xs.eraseIdx k) (ys.eraseIdx k)
  | _, _, _, .nil => .nil
  | _, _, 0, .cons _ t => t
  | _, _, k + 1, .cons r t => .cons r (paired_erase k t)
theorem mem_erase {α : Type} {l : List α} {k : Nat} {x : α} (h : x ∈ l.eraseIdx k) : x ∈ l := List.mem_of_mem_eraseIdx h
/-- an example's two texts as rows -/
def rowsOf (e : VEx) : List Int := VasedBase.textRow (Vaseda.showText e.a) ++ VasedBase.textRow (Vaseda.showText e.b)
theorem showText_16 {t : List Ln} (h : okTx t) : (Vaseda.showText t).length ≤ 102 := by
  have h1 : ∀ t : List Ln, (∀ x ∈ t, x.length ≤ 16) → (Vaseda.showText t).length ≤ 17 * t.length := by
    intro t
    induction t with
    | nil => intro _; simp [Vaseda.showText]
    | cons x t ih =>
      intro hx
      have h2 := hx x (List.mem_cons_self ..)
      have h3 := ih fun y hy => hx y (List.mem_cons_of_mem _ hy)
      have e : Vaseda.showText (x :: t) = (x ++ [10]) ++ Vaseda.showText t := rfl
      rw [e, List.length_append, List.length_append, List.length_cons]
      simp only [List.length_cons, List.length_nil]
      omega
  have h2 := h1 t h.2
  have h3 := h.1
  omega
theorem rowsOf_len {e : VEx} (h : okTx e.a ∧ okTx e.b) : (rowsOf e).length ≤ 220 := by
  have h1 := showText_16 h.1
  have h2 := showText_16 h.2
  unfold rowsOf VasedBase.textRow
  simp only [List.length_append, List.length_cons, List.length_map]
  omega
section
variable {P : Program} {w : World} {K : PySem.W.Frag} {mg : Str → Option Value} {base : Heap} {TB : Hp → Prop}
theorem sc_answer_drop : FnScope ["held", "reader", "place"] ["held", "reader"] (defScope s_answer_drop) := ⟨rfl, rfl, rfl, by decide +kernel, rfl, by decide +kernel, by decide +kernel⟩
theorem ok_answer_drop (tb : TBok TB) (T : Txt K mg) : DOk P w K mg base CX0 2 "answer_drop" (AnsP K TB fun c => ∃ z, c = .drop z) := by
  obtain ⟨fd, F⟩ := T.f_answer_drop
  have sc := sc_answer_drop
  obtain ⟨_, c_NO_SUCH_EXAMPLE⟩ := T.v_NO_SUCH_EXAMPLE
  have K_CallReader_read_number := ok_read_number (P := P) (w := w) (base := base) T
  refine dok F T.g_answer_drop (fun _ _ _ _ _ _ us hl => match us, hl with | [_, _], _ => rfl) sc (fun vs H Q E h => by obtain ⟨_, _, _, _, _, _, _, _, _, rfl, _⟩ := h; rfl) (fun cdv A outer s H vs Q E hr h => ?_)
  refine ⟨_, PSs.nox (pss_cons (ps_set (i := 2) sc.nd rfl (Or.inl rfl) (pe_mt0 (pv 1) K_CallReader_read_number hr (by first | decide | omega)))
  (pss_cons (ps_if (PW.pt (pw_or (pt_cmpR op_lt (pv 2) pe_int (nomark _)) (pw_or1 (pt_cmpR op_ge (pv 2) (pe_callB (call_len_seqK (K := K) rfl) rfl T.b_len boot_len (pa_cons (pv 0) pa_nil)) (nomark _)))))
  (pss_one (ps_ret (pe_lst (pa_cons (pe_glob (v := .int (-2)) rfl c_NO_SUCH_EXAMPLE ⟨_, rfl⟩) pa_nil))))
  pss_nil)
  (pss_cons (ps_expr (pe_bmK (K := K) rfl PySem.F.plainAttrs_list PySem.F.slot_list_pop PySem.F.type_list_pop mt_popAt (pv 0) (pa_cons (pv 2) pa_nil)))
  (pss_one (ps_ret (pe_lst (pa_cons (pe_callB (call_len_seqK (K := K) rfl) rfl T.b_len boot_len (pa_cons (pv 0) pa_nil)) pa_nil))))))), ?_⟩
  obtain ⟨h, p, dx, a, k, k', ns, es, c, rfl, ⟨z, rfl⟩, S, ⟨hz, rfl⟩, kq⟩ := h
  refine ⟨_, rfl, p, dx, _, rfl, S.rd.ob, rfl, p, dx, a, k, ns, z, rfl, S.rd, S.nap, hz, fun H1 s1 R1 => ?_⟩
  have S1 := S.kpo tb s1 R1
  have k1 : Keep2 h p H H1 := Keep2.kpo s1
  obtain ⟨us, hh, rr⟩ := S1.re
  have lus := paired_len rr
  have hel := S.oe.1
  have bad : ¬ (0 ≤ z ∧ z < (es.length : Int)) → Vasedf.step es (.drop z) = (es, ⟨([-2] : List Int).headD 0, ([-2] : List Int).tail⟩) := fun hb => by
    show (match VasedBase.index z es.length with | none => _ | some j => _) = _
    unfold VasedBase.index
    rw [if_neg hb]
    rfl
  refine ⟨_, rfl, _, _, rfl, rfl, _, rfl, ite2 (fun c1 => ?_) fun c1 => ?_⟩
  · have d1 : z < 0 := of_decide_eq_true c1
    exact ⟨small (m := 10) (by show 1 ≤ 10; decide), fun l hl => ans_end (ans := [-2]) tb kq S1 k1 hl (bad (by omega)) (by simp) (by simp)⟩
  · have d1 : ¬ z < 0 := fun h => c1 (decide_eq_true h)
    refine ⟨_, rfl, _, rfl, h, _, rfl, .inl (SqL.of hh), _, _, rfl, rfl, _, rfl, ite2 (fun c2 => ?_) fun c2 => ?_⟩
    · have d2 : ((us.length : Nat) : Int) ≤ z := of_decide_eq_true c2
      exact ⟨small (m := 10) (by show 1 ≤ 10; decide), fun l hl => ans_end (ans := [-2]) tb kq S1 k1 hl (bad (by omega)) (by simp) (by simp)⟩
    · have d2 : ¬ ((us.length : Nat) : Int) ≤ z := fun h => c2 (decide_eq_true h)
      obtain ⟨j, rfl⟩ : ∃ j : Nat, z = j := ⟨z.toNat, by omega⟩
      have hj : j < us.length := by omega
      obtain ⟨y, hy⟩ : ∃ y, us[j]? = some y := ⟨us[j]'hj, by simp⟩
      have hsi : seqIndex? (j : Int) us.length = some j := by
        show (if (decide (0 ≤ (if (j : Int) < 0 then (j : Int) + us.length else (j : Int))) && decide ((if (j : Int) < 0 then (j : Int) + us.length else (j : Int)) < us.length)) = true then some ((if (j : Int) < 0 then (j : Int) + us.length else (j : Int))).toNat else none) = _
        rw [if_neg (show ¬ (j : Int) < 0 by omega), decide_eq_true (show (0 : Int) ≤ j by omega), decide_eq_true (show (j : Int) < us.length by omega)]
        rfl
      refine ⟨_, rfl, .inl ⟨rfl, _, SqL.of hh⟩, _, rfl, h, us, _, j, y, rfl, rfl, hh, by omega, by omega, hsi, hy, ?_⟩
      have S2 : StAt K TB (upd H1 h (.lst (us.eraseIdx j))) h p dx a _ ns (es.eraseIdx j) := S1.held tb (us := us.eraseIdx j) ⟨_, upd_same, paired_erase j (repXs_put hh rr)⟩ ⟨by rw [List.length_eraseIdx]; split <;> omega, fun e he => S.oe.2 e (mem_erase he)⟩
      have hk : Keep2 h p H (upd H1 h (.lst (us.eraseIdx j))) := k1.trans fun q o e1 n1 _ => by rw [upd_ne n1]; exact e1
      refine ⟨_, rfl, h, _, rfl, .inl (SqL.of upd_same), small (m := 10) (by show 1 ≤ 10; decide), fun l hl => ?_⟩
      have eans : ([V.int ((us.eraseIdx j).length : Nat)] : List V) = iV [((es.length : Nat) : Int) - 1] := by
        show [V.int ((us.eraseIdx j).length : Nat)] = [V.int (((es.length : Nat) : Int) - 1)]
        rw [List.length_eraseIdx, if_pos hj, ← lus]
        congr 2
        omega
      show Q (.ref l) (upd _ l (.lst [V.int ((us.eraseIdx j).length : Nat)]))
      rw [eans]
      refine ans_end (ans := [((es.length : Nat) : Int) - 1]) tb kq S2 hk hl ?_ (by simp) (by simp)
      show (match VasedBase.index (j : Int) es.length with | none => _ | some j => _) = _
      unfold VasedBase.index
      rw [if_pos (by omega)]
      rfl
theorem sc_answer_shown : FnScope ["held", "reader", "answer", "example"] ["held", "reader"] (defScope s_answer_shown) := ⟨rfl, rfl, rfl, by decide +kernel, rfl, by decide +kernel, by decide +kernel⟩
theorem ok_answer_shown (tb : TBok TB) (T : Txt K mg) : DOk P w K mg base CX0 3 "answer_shown" (AnsP K TB fun c => c = .shown) := by
  obtain ⟨fd, F⟩ := T.f_answer_shown
  have sc := sc_answer_shown
  have K_told_text : DOk P w K mg base CX0 2 "told_text" (spToldText K) := ok_told_text T
  refine dok F T.g_answer_shown (fun _ _ _ _ _ _ us hl => match us, hl with | [_, _], _ => rfl) sc (fun vs H Q E h => by obtain ⟨_, _, _, _, _, _, _, _, _, rfl, _⟩ := h; rfl) (fun cdv A outer s H vs Q E hr h => ?_)
  refine ⟨_, PSs.nox (pss_cons (ps_set (i := 2) sc.nd rfl (Or.inl rfl) (pe_lst (pa_cons (pe_callB (call_len_seqK (K := K) rfl) rfl T.b_len boot_len (pa_cons (pv 0) pa_nil)) pa_nil)))
  (pss_cons (ps_for PassesOwn.never rfl (pi_listK (K := K) rfl (pv 0)) (pg_name (i := 3) sc.nd rfl (Or.inl rfl))
  (pss_cons (ps_expr (pe_bmK (K := K) rfl PySem.F.plainAttrs_list PySem.F.slot_list_extend PySem.F.type_list_extend mt_extend (pv 2) (pa_cons (pe_d K_told_text hr (by first | decide | omega) rfl (pa_cons (pe_fldK (K := K) rfl (pv 3) rfl) pa_nil)) pa_nil)))
    (pss_one (ps_expr (pe_bmK (K := K) rfl PySem.F.plainAttrs_list PySem.F.slot_list_extend PySem.F.type_list_extend mt_extend (pv 2) (pa_cons (pe_d K_told_text hr (by first | decide | omega) rfl (pa_cons (pe_fldK (K := K) rfl (pv 3) rfl) pa_nil)) pa_nil))))))
  (pss_one (ps_ret (pv 2))))), ?_⟩
  obtain ⟨h, p, dx, a, k, k', ns, es, c, rfl, rfl, S, rfl, kq⟩ := h
  obtain ⟨us, hh, rr⟩ := S.re
  have lus := paired_len rr
  have hel := S.oe.1
  refine ⟨_, rfl, h, _, rfl, .inl (SqL.of hh), small (m := 10) (by show 1 ≤ 10; decide), fun l hl => ?_⟩
  have s0 := Same.new (o := HO.lst [V.int (us.length : Nat)]) hl
  have hlen : ∀ e, e ∈ es → (rowsOf e).length ≤ 220 := fun e he => rowsOf_len (S.oe.2 e he)
  have hflen : ∀ z : List VEx, (∀ e ∈ z, e ∈ es) → (z.flatMap rowsOf).length ≤ 220 * z.length := by
    intro z
    induction z with
    | nil => simp
    | cons e z ih =>
      intro hz
      have h1 := hlen e (hz e (List.mem_cons_self ..))
      have h2 := ih fun e he => hz e (List.mem_cons_of_mem _ he)
      simp only [List.flatMap_cons, List.length_append, List.length_cons]
      omega
  refine ⟨_, rfl, h, rfl, ⟨_, SqL.of (s0 _ _ hh)⟩, for_list (K := K) (a := h) (xs := us) (fun i σ H' => ∃ v3 : Option V, σ = [some (.ref h), some (.ref p), some (.ref l), v3] ∧ Same H H' ∧ H' l = some (.lst (iV ((us.length : Int) :: (es.take i).flatMap rowsOf))))
    ⟨none, rfl, s0, upd_same⟩ (fun i σ H' _ ⟨_, _, s, _⟩ => SqL.of (s _ _ hh)) ?_ ?_⟩
  · rintro i x σ H5 hi ⟨v3, rfl, s5, h5⟩
    obtain ⟨e, he, re⟩ := paired_get rr hi
    obtain ⟨q, dx', b, c, rfl, g1, g2, g3⟩ := RepX.same s5 re
    have oe := S.oe.2 e (List.mem_of_getElem? he)
    have hz := hflen (es.take i) fun e he => List.mem_of_mem_take he
    rw [List.length_take] at hz
    have h1 := showText_16 oe.1
    have h2 := showText_16 oe.2
    refine ⟨_, rfl, .inl ⟨rfl, _, SqL.of h5⟩, ?_⟩
    refine ⟨_, rfl, q, _, dx', _, _, rfl, g1, T.c_Example, T.n_Example_before, ex_before _ _, b, e.a, rfl, SqL.of g2, by omega, fun q1 H6 hq1 s6 h6 => ?_⟩
    have h56 := s6 _ _ h5
    refine ⟨l, q1, _, _, rfl, rfl, h56, h6, small (m := 5000) (by simp only [iV, List.length_map, List.length_cons, VasedBase.textRow]; omega), ?_⟩
    have s7 : Same H (upd H6 l (.lst (iV ((us.length : Int) :: (es.take i).flatMap rowsOf) ++ iV (VasedBase.textRow (Vaseda.showText e.a))))) := Same.put (s5.trans s6) hl
    have k7 : Same H5 H6 := s6
    have g7 : ∀ {z : Addr} {o : HO}, H5 z = some o → z ≠ l → upd H6 l (.lst (iV ((us.length : Int) :: (es.take i).flatMap rowsOf) ++ iV (VasedBase.textRow (Vaseda.showText e.a)))) z = some o := fun hz n => by rw [upd_ne n]; exact s6 _ _ hz
    have nql : q ≠ l := ne_of g1 h5 (by intro z; cases z)
    have ncl : c ≠ l := by
      obtain ⟨q', _, _, c', e1, f1, _, f3⟩ := re
      cases e1
      have f1' := s5 _ _ f1
      rw [g1] at f1'
      injection f1' with f1'
      injection f1' with _ _ f1'
      have : c = c' := by
        injection f1' with _ f1'
        injection f1' with f1' _
        injection f1' with _ f1'
        injection f1'
      rw [this]
      exact ne_of_none f3 hl
    refine ⟨_, rfl, .inl ⟨rfl, _, SqL.of upd_same⟩, ?_⟩
    refine ⟨_, rfl, q, _, dx', _, _, rfl, g7 g1 nql, T.c_Example, T.n_Example_after, ex_after _ _, c, e.b, rfl, SqL.of (g7 g3 ncl), by omega, fun q2 H8 hq2 s8 h8 => ?_⟩
    have h88 := s8 _ _ (show upd H6 l (.lst (iV ((us.length : Int) :: (es.take i).flatMap rowsOf) ++ iV (VasedBase.textRow (Vaseda.showText e.a)))) l = _ from upd_same)
    refine ⟨l, q2, _, _, rfl, rfl, h88, h8, small (m := 5000) (by simp only [iV, List.length_append, List.length_map, List.length_cons, VasedBase.textRow]; omega), ?_⟩
    refine ⟨_, rfl, Same.put (s7.trans s8) hl, ?_⟩
    rw [upd_same, take_more he, List.flatMap_append]
    simp [iV, rowsOf]
  · rintro σ H5 ⟨v3, rfl, s5, h5⟩
    rw [lus, List.take_length] at h5
    have hz := hflen es fun e he => he
    have e2 : encA (Vasedf.step es .shown).2 = (es.length : Int) :: es.flatMap rowsOf := rfl
    refine ⟨_, rfl, kq H5 l hl (Keep2.same s5).k (S.same tb s5) (by rw [e2]; exact h5) ?_⟩
    rw [e2, List.length_cons]
    omega
end
end Ls
set_option Elab.async false
set_option linter.all false
set_option maxRecDepth 100000
set_option maxHeartbeats 4000000
/-! examples: answer_family, answer_find, answer_all, answer_far -/
namespace Ls
open PySem PySem.Spec PyProof.Rows L2
open Vasedf (commands ones missing fits total useful leastOf bytes least1 least2 twos found deeds)
theorem leastOf_mem {l : List (List VCmd)} {s : List VCmd} (h : leastOf l = some s) : s ∈ l := by
  cases l with
  | nil => cases h
  | cons b l =>
    obtain ⟨r, h1, h2⟩ := fm l b
    have h3 : some r = some s := h1.symm.trans h
    cases h3
    rcases h2 with ⟨rfl, _⟩ | ⟨i, h2, _⟩
    · exact List.mem_cons_self ..
    · exact List.mem_cons_of_mem _ (List.mem_of_getElem? h2)
theorem found_ok {es : List VEx} (oe : okE es) {s : List VCmd} (h : found es = some s) : okF s := by
  unfold found at h
  split at h
  · cases h
    exact ⟨fun c hc => (by simp at hc), by simp⟩
  · cases h1 : least1 es with
    | some z =>
      rw [h1] at h
      cases h
      exact ones_ok oe _ (List.mem_filter.mp (leastOf_mem h1)).1
    | none =>
      rw [h1] at h
      exact twos_ok oe _ (List.mem_filter.mp (leastOf_mem h)).1
theorem tellS_len {s : List VCmd} (h : okF s) : (VasedBase.textRow (Vaseda.shown s)).length ≤ 1001 := by
  have h1 := shown_len fun c hc => (h.1 c hc).1
  have h2 := h.2
  unfold VasedBase.textRow
  simp only [List.length_cons, List.length_map]
  omega
theorem read_24 {b : List UInt8} {t : List Ln} (h1 : Vaseda.readText b = some t) : t.length ≤ 24 := by
  unfold Vaseda.readText at h1
  cases h0 : Vaseda.textOf b with
  | none => rw [h0] at h1; cases h1
  | some z =>
    rw [h0] at h1
    have h1 : (if Vaseda.LINES < z.length ∨ z.any (fun x => decide (Vaseda.LONG < x.length)) = true then none else some z) = some t := h1
    split at h1
    · cases h1
    · rename_i hn
      cases h1
      rcases Nat.lt_or_ge 24 t.length with hl | hl
      · exact absurd (.inl hl) hn
      · exact hl
section
variable {P : Program} {w : World} {K : PySem.W.Frag} {mg : Str → Option Value} {base : Heap} {TB : Hp → Prop}
theorem sc_answer_family : FnScope ["held", "reader"] ["held", "reader"] (defScope s_answer_family) := ⟨rfl, rfl, rfl, by decide +kernel, rfl, by decide +kernel, by decide +kernel⟩
theorem ok_answer_family (tb : TBok TB) (T : Txt K mg) : DOk P w K mg base CX0 11 "answer_family" (AnsP K TB fun c => c = .family) := by
  obtain ⟨fd, F⟩ := T.f_answer_family
  have sc := sc_answer_family
  have K_addresses_of : DOk P w K mg base CX0 3 "addresses_of" (spAddrs K) := ok_addresses_of T
  have K_deeds_of : DOk P w K mg base CX0 4 "deeds_of" (spDeeds K) := ok_deeds_of T
  have K_commands_of : DOk P w K mg base CX0 5 "commands_of" (spCommands K) := ok_commands_of T
  have K_useful_commands : DOk P w K mg base CX0 10 "useful_commands" (spUsefuls K) := ok_useful_commands T
  refine dok F T.g_answer_family (fun _ _ _ _ _ _ us hl => match us, hl with | [_, _], _ => rfl) sc (fun vs H Q E h => by obtain ⟨_, _, _, _, _, _, _, _, _, rfl, _⟩ := h; rfl) (fun cdv A outer s H vs Q E hr h => ?_)
  refine ⟨_, PSs.nox (pss_one (ps_ret (pe_lst (pa_cons (pe_callB (call_len_seqK (K := K) rfl) rfl T.b_len boot_len (pa_cons (pe_d K_addresses_of hr (by first | decide | omega) rfl (pa_cons (pv 0) pa_nil)) pa_nil)) (pa_cons (pe_callB (call_len_seqK (K := K) rfl) rfl T.b_len boot_len (pa_cons (pe_d K_deeds_of hr (by first | decide | omega) rfl (pa_cons (pv 0) pa_nil)) pa_nil)) (pa_cons (pe_callB (call_len_seqK (K := K) rfl) rfl T.b_len boot_len (pa_cons (pe_d K_commands_of hr (by first | decide | omega) rfl (pa_cons (pv 0) pa_nil)) pa_nil)) (pa_cons (pe_callB (call_len_seqK (K := K) rfl) rfl T.b_len boot_len (pa_cons (pe_d K_useful_commands hr (by first | decide | omega) rfl (pa_cons (pv 0) pa_nil)) pa_nil)) pa_nil))))))), ?_⟩
  obtain ⟨h, p, dx, a, k, k', ns, es, c, rfl, rfl, S, rfl, kq⟩ := h
  have oe := S.oe
  refine ⟨_, rfl, h, es, rfl, S.re, oe, fun q1 H1 y1 hq1 s1 h1 r1 => ⟨q1, _, rfl, .inl (SqL.of h1), ?_⟩⟩
  refine ⟨_, rfl, h, es, rfl, RepE.same s1 S.re, oe, fun q2 H2 y2 hq2 s2 h2 r2 => ⟨q2, _, rfl, .inl (SqL.of h2), ?_⟩⟩
  have s12 := s1.trans s2
  refine ⟨_, rfl, h, es, rfl, RepE.same s12 S.re, oe, fun q3 H3 y3 hq3 s3 h3 r3 => ⟨q3, _, rfl, .inl (SqL.of h3), ?_⟩⟩
  have s13 := s12.trans s3
  refine ⟨_, rfl, h, es, rfl, RepE.same s13 S.re, oe, fun q4 H4 y4 hq4 s4 h4 r4 => ⟨q4, _, rfl, .inl (SqL.of h4), ?_⟩⟩
  have s14 := s13.trans s4
  rw [paired_len r1, paired_len r2, paired_len r3, paired_len r4]
  refine ⟨small (m := 10) (by show 4 ≤ 10; decide), fun l hl => ?_⟩
  exact ans_end (ans := [((Vasedf.addrs es).length : Int), ((deeds es).length : Int), ((commands es).length : Int), ((useful es).length : Int)]) tb kq (S.same tb s14) (Keep2.same s14) hl rfl (by simp) (by simp)
theorem sc_answer_find : FnScope ["held", "reader", "script"] ["held", "reader"] (defScope s_answer_find) := ⟨rfl, rfl, rfl, by decide +kernel, rfl, by decide +kernel, by decide +kernel⟩
theorem ok_answer_find (tb : TBok TB) (T : Txt K mg) : DOk P w K mg base CX0 13 "answer_find" (AnsP K TB fun c => c = .find) := by
  obtain ⟨fd, F⟩ := T.f_answer_find
  have sc := sc_answer_find
  obtain ⟨_, c_NOTHING_FOUND⟩ := T.v_NOTHING_FOUND
  have K_found_script : DOk P w K mg base (L2.CX P w) 12 "found_script" (spFound K) := ok_found_script T
  have K_told_script : DOk P w K mg base CX0 5 "told_script" (spToldScript K) := ok_told_script T
  refine dok F T.g_answer_find (fun _ _ _ _ _ _ us hl => match us, hl with | [_, _], _ => rfl) sc (fun vs H Q E h => by obtain ⟨_, _, _, _, _, _, _, _, _, rfl, _⟩ := h; rfl) (fun cdv A outer s H vs Q E hr h => ?_)
  refine ⟨_, PSs.nox (pss_cons (ps_try_only rfl rfl ⟨rfl, by decide, .inl T.g_NothingFound⟩ takes0
  (fun W pn xe tk _ => (pss_one (ps_set (i := 2) sc.nd rfl (Or.inl rfl) (pe_dS K_found_script hr (by first | decide | omega) rfl tk (pa_cons (pv 0) pa_nil)))))
  (fun _ _ _ _ _ _ _ => (pss_one (ps_ret (pe_lst (pa_cons (pe_glob (v := .int (-8)) rfl c_NOTHING_FOUND ⟨_, rfl⟩) pa_nil))))))
  (pss_one (ps_ret (pe_op op_cat (pe_lst (pa_cons (pe_callB (call_len_seqK (K := K) rfl) rfl T.b_len boot_len (pa_cons (pv 2) pa_nil)) pa_nil)) (pe_d K_told_script hr (by first | decide | omega) rfl (pa_cons (pv 2) pa_nil)))))), ?_⟩
  obtain ⟨h, p, dx, a, k, k', ns, es, c, rfl, rfl, S, rfl, kq⟩ := h
  have oe := S.oe
  refine ⟨_, rfl, h, es, rfl, S.re, oe, fun s hs q H1 s1 rs => ?_, fun hn H1 s1 => ?_⟩
  · obtain ⟨vs, h1, rv⟩ := id rs
    have lv := paired_len rv
    have okf := found_ok oe hs
    have hsl := okf.2
    have htl := tellS_len okf
    refine ⟨_, rfl, q, _, rfl, .inl (SqL.of h1), small (m := 10) (by show 1 ≤ 10; decide), fun l1 hl1 => ?_⟩
    have s2 := Same.new (o := HO.lst [V.int (vs.length : Nat)]) hl1
    refine ⟨_, rfl, q, s, rfl, RepS.same s2 rs, fun c hc => (okf.1 c hc).1, by omega, fun l2 H3 hl2 s3 h3 => ?_⟩
    refine ⟨l1, l2, _, _, rfl, rfl, s3 _ _ upd_same, h3, small (m := 2000) (by simp only [iV, List.length_map, List.length_singleton]; omega), fun l hl => ?_⟩
    have s13 := (s1.trans s2).trans s3
    have e : [V.int (vs.length : Nat)] ++ iV (VasedBase.textRow (Vaseda.shown s)) = iV ((s.length : Int) :: VasedBase.textRow (Vaseda.shown s)) := by rw [lv]; rfl
    rw [e]
    refine ans_end (ans := (s.length : Int) :: VasedBase.textRow (Vaseda.shown s)) tb kq (S.same tb s13) (Keep2.same s13) hl ?_ (by simp) (by rw [List.length_cons]; omega)
    show (es, Vasedf.looked es .find) = _
    show (es, match found es with | none => _ | some s => Vasedf.scriptAnswer s) = _
    rw [hs]
    rfl
  · refine ⟨true, T.e_NothingFound, fun _ a2 ha2 => ⟨small (m := 10) (by show 1 ≤ 10; decide), fun l hl => ?_⟩, fun q => nomatch q⟩
    refine ans_end (ans := [-8]) tb kq (S.same tb s1) (Keep2.same s1) hl ?_ (by simp) (by simp)
    show (es, match found es with | none => _ | some s => Vasedf.scriptAnswer s) = _
    rw [hn]
    rfl
theorem sc_answer_all : FnScope ["held", "reader", "fitting", "answer", "script"] ["held", "reader"] (defScope s_answer_all) := ⟨rfl, rfl, rfl, by decide +kernel, rfl, by decide +kernel, by decide +kernel⟩
theorem ok_answer_all (tb : TBok TB) (T : Txt K mg) : DOk P w K mg base CX0 11 "answer_all" (AnsP K TB fun c => c = .all) := by
  obtain ⟨fd, F⟩ := T.f_answer_all
  have sc := sc_answer_all
  obtain ⟨_, c_FITTING_TOLD_AT_MOST⟩ := T.v_FITTING_TOLD_AT_MOST
  have K_single_scripts_of : DOk P w K mg base CX0 6 "single_scripts_of" (spSingles K) := ok_single_scripts_of T
  have K_all_fitting : DOk P w K mg base CX0 10 "all_fitting" (spAllFit K) := ok_all_fitting T
  have K_told_script : DOk P w K mg base CX0 5 "told_script" (spToldScript K) := ok_told_script T
  refine dok F T.g_answer_all (fun _ _ _ _ _ _ us hl => match us, hl with | [_, _], _ => rfl) sc (fun vs H Q E h => by obtain ⟨_, _, _, _, _, _, _, _, _, rfl, _⟩ := h; rfl) (fun cdv A outer s H vs Q E hr h => ?_)
  refine ⟨_, PSs.nox (pss_cons (ps_set (i := 2) sc.nd rfl (Or.inl rfl) (pe_d K_all_fitting hr (by first | decide | omega) rfl (pa_cons (pe_d K_single_scripts_of hr (by first | decide | omega) rfl (pa_cons (pv 0) pa_nil)) (pa_cons (pv 0) pa_nil))))
  (pss_cons (ps_set (i := 3) sc.nd rfl (Or.inl rfl) (pe_lst (pa_cons (pe_callB (call_len_seqK (K := K) rfl) rfl T.b_len boot_len (pa_cons (pv 2) pa_nil)) pa_nil)))
  (pss_cons (ps_for PassesOwn.never rfl (pi_listK (K := K) rfl (pe_slice (sl_listK (K := K) rfl) (pv 2) po_none (po_some (pe_glob (v := .int (10)) rfl c_FITTING_TOLD_AT_MOST ⟨_, rfl⟩)))) (pg_name (i := 4) sc.nd rfl (Or.inl rfl))
  (pss_one (ps_expr (pe_bmK (K := K) rfl PySem.F.plainAttrs_list PySem.F.slot_list_extend PySem.F.type_list_extend mt_extend (pv 3) (pa_cons (pe_d K_told_script hr (by first | decide | omega) rfl (pa_cons (pv 4) pa_nil)) pa_nil)))))
  (pss_one (ps_ret (pv 3)))))), ?_⟩
  obtain ⟨h, p, dx, a, k, k', ns, es, c, rfl, rfl, S, rfl, kq⟩ := h
  have oe := S.oe
  have hol := ones_len oe
  refine ⟨_, rfl, h, es, rfl, S.re, oe, fun q1 H1 us hq1 s1 h1 r1 => ?_⟩
  refine ⟨_, rfl, q1, h, ones es, us, es, rfl, h1, r1, fun s hs => (ones_ok oe s hs).s, by omega, RepE.same s1 S.re, oe, fun q2 H2 ys hq2 s2 h2 r2 => ?_⟩
  have lys := paired_len r2
  have s12 := s1.trans s2
  have hfo : ∀ s ∈ (ones es).filter (fits es), okF s := fun s hs => ones_ok oe s (List.mem_filter.mp hs).1
  have e2 : encA (Vasedf.step es .all).2 = (((ones es).filter (fits es)).length : Int) :: (((ones es).filter (fits es)).take 10).flatMap fun s => VasedBase.textRow (Vaseda.shown s) := rfl
  have e3 : (Vasedf.step es .all).1 = es := rfl
  rw [e2, e3] at kq
  generalize (ones es).filter (fits es) = gs at *
  refine ⟨_, rfl, q2, _, rfl, .inl (SqL.of h2), small (m := 10) (by show 1 ≤ 10; decide), fun l hl => ?_⟩
  have s3 := Same.new (o := HO.lst [V.int (ys.length : Nat)]) hl
  have hl1 : H l = none := s12.free hl
  refine ⟨_, rfl, _, rfl, q2, _, rfl, SqL.of (s3 _ _ h2), fun q3 hq3 => ?_⟩
  have ecut : cutV ys none (some ((10 : Nat) : Int)) = ys.take 10 := cutV_take ys 10
  rw [show (some (10 : Int)) = some ((10 : Nat) : Int) from rfl, ecut]
  have s4 := Same.new (o := HO.lst (ys.take 10)) hq3
  have h3l := s4 _ _ (show upd H2 l (HO.lst [V.int (ys.length : Nat)]) l = _ from upd_same)
  have hq3e : upd (upd H2 l (HO.lst [V.int (ys.length : Nat)])) q3 (.lst (ys.take 10)) q3 = some (.lst (ys.take 10)) := upd_same
  have s24 := s3.trans s4
  have nql : q3 ≠ l := fun e => by rw [e, upd_same] at hq3; cases hq3
  have hflen : ∀ z : List (List VCmd), (∀ s ∈ z, okF s) → (z.flatMap fun s => VasedBase.textRow (Vaseda.shown s)).length ≤ 1001 * z.length := by
    intro z
    induction z with
    | nil => simp
    | cons e z ih =>
      intro hz
      have h1 := tellS_len (hz e (List.mem_cons_self ..))
      have h2 := ih fun e he => hz e (List.mem_cons_of_mem _ he)
      simp only [List.flatMap_cons, List.length_append, List.length_cons]
      omega
  generalize upd (upd H2 l (HO.lst [V.int (ys.length : Nat)])) q3 (.lst (ys.take 10)) = H4 at *
  refine ⟨q3, rfl, ⟨_, SqL.of hq3e⟩, for_list (K := K) (a := q3) (xs := ys.take 10) (fun i σ H' => ∃ v4 : Option V, σ = [some (.ref h), some (.ref p), some (.ref q2), some (.ref l), v4] ∧ Same H2 H' ∧ H' q3 = some (.lst (ys.take 10)) ∧
    H' l = some (.lst (iV ((gs.length : Int) :: ((gs.take 10).take i).flatMap fun s => VasedBase.textRow (Vaseda.shown s)))))
    ⟨none, rfl, s24, hq3e, by rw [h3l, lys]; rfl⟩ (fun i σ H' _ ⟨_, _, _, e, _⟩ => SqL.of e) ?_ ?_⟩
  · rintro i x σ H5 hi ⟨v4, rfl, s5, h5q, h5⟩
    have hi10 : i < 10 := by
      have := get_lt hi
      rw [List.length_take] at this
      omega
    have hiy : ys[i]? = some x := by
      rw [List.getElem?_take, if_pos hi10] at hi
      exact hi
    obtain ⟨s, hs, qx, rfl, rs⟩ := paired_get r2 hiy
    have okf := hfo s (List.mem_of_getElem? hs)
    have hsl := okf.2
    have htl := tellS_len okf
    have hs10 : (gs.take 10)[i]? = some s := by rw [List.getElem?_take, if_pos hi10]; exact hs
    have hz := hflen ((gs.take 10).take i) fun z hz => hfo z (List.mem_of_mem_take (List.mem_of_mem_take hz))
    rw [List.length_take, List.length_take] at hz
    refine ⟨_, rfl, .inl ⟨rfl, _, SqL.of h5⟩, ?_⟩
    refine ⟨_, rfl, qx, s, rfl, RepS.same s5 rs, fun c hc => (okf.1 c hc).1, by omega, fun q6 H6 hq6 s6 h6 => ?_⟩
    refine ⟨l, q6, _, _, rfl, rfl, s6 _ _ h5, h6, small (m := 30000) (by simp only [iV, List.length_map, List.length_cons]; omega), ?_⟩
    refine ⟨_, rfl, Same.put (s5.trans s6) hl, by rw [upd_ne nql]; exact s6 _ _ h5q, ?_⟩
    rw [upd_same, take_more hs10, List.flatMap_append]
    simp [iV]
  · rintro σ H5 ⟨v4, rfl, s5, h5q, h5⟩
    rw [List.take_of_length_le (show (gs.take 10).length ≤ (ys.take 10).length by rw [List.length_take, List.length_take, lys]; omega)] at h5
    have hz := hflen (gs.take 10) fun z hz => hfo z (List.mem_of_mem_take hz)
    rw [List.length_take] at hz
    have s15 := s12.trans s5
    exact ⟨_, rfl, kq H5 l hl1 (Keep2.same s15).k (S.same tb s15) h5 (by rw [List.length_cons]; omega)⟩
theorem sc_answer_far : FnScope ["held", "reader", "told_one", "told_other", "one", "other"] ["held", "reader"] (defScope s_answer_far) := ⟨rfl, rfl, rfl, by decide +kernel, rfl, by decide +kernel, by decide +kernel⟩
theorem ok_answer_far (tb : TBok TB) (T : Txt K mg) : DOk P w K mg base CX0 3 "answer_far" (AnsP K TB fun c => ∃ x y, c = .far x y) := by
  obtain ⟨fd, F⟩ := T.f_answer_far
  have sc := sc_answer_far
  obtain ⟨_, c_NOT_A_TEXT⟩ := T.v_NOT_A_TEXT
  have K_CallReader_read_row := ok_read_row (P := P) (w := w) (base := base) T
  have K_read_text : DOk P w K mg base (L2.CX P w) 2 "read_text" (spReadText K) := ok_read_text T
  have K_how_far : DOk P w K mg base CX0 2 "how_far" (spFar K) := ok_how_far T
  have K_lines_in_common : DOk P w K mg base CX0 1 "lines_in_common" (spCommon K) := ok_lines_in_common T
  refine dok F T.g_answer_far (fun _ _ _ _ _ _ us hl => match us, hl with | [_, _], _ => rfl) sc (fun vs H Q E h => by obtain ⟨_, _, _, _, _, _, _, _, _, rfl, _⟩ := h; rfl) (fun cdv A outer s H vs Q E hr h => ?_)
  refine ⟨_, PSs.nox (pss_cons (ps_set (i := 2) sc.nd rfl (Or.inl rfl) (pe_mt0 (pv 1) K_CallReader_read_row hr (by first | decide | omega)))
  (pss_cons (ps_set (i := 3) sc.nd rfl (Or.inl rfl) (pe_mt0 (pv 1) K_CallReader_read_row hr (by first | decide | omega)))
  (pss_cons (ps_try_only rfl rfl ⟨rfl, by decide, .inl T.g_NotAText⟩ takes0
  (fun W pn xe tk _ => (pss_cons (ps_set (i := 4) sc.nd rfl (Or.inl rfl) (pe_dS K_read_text hr (by first | decide | omega) rfl tk (pa_cons (pv 2) pa_nil)))
    (pss_one (ps_set (i := 5) sc.nd rfl (Or.inl rfl) (pe_dS K_read_text hr (by first | decide | omega) rfl tk (pa_cons (pv 3) pa_nil))))))
  (fun _ _ _ _ _ _ _ => (pss_one (ps_ret (pe_lst (pa_cons (pe_glob (v := .int (-4)) rfl c_NOT_A_TEXT ⟨_, rfl⟩) pa_nil))))))
  (pss_one (ps_ret (pe_lst (pa_cons (pe_d K_how_far hr (by first | decide | omega) rfl (pa_cons (pv 4) (pa_cons (pv 5) pa_nil))) (pa_cons (pe_d K_lines_in_common hr (by first | decide | omega) rfl (pa_cons (pv 4) (pa_cons (pv 5) pa_nil))) pa_nil)))))))), ?_⟩
  obtain ⟨h, p, dx, a, k, k', ns, es, c, rfl, ⟨x, y, rfl⟩, S, ⟨r1, r2, rfl, hx, hy⟩, kq⟩ := h
  refine ⟨_, rfl, p, dx, _, rfl, S.rd.ob, rfl, p, dx, a, k, x.length, ns, rfl, S.rd, S.nap, r1.1, r1.2.1, fun H1 q1 s1 R1 hq1 h1 => ?_⟩
  rw [row_bV r1] at h1
  have S1 := S.kpo tb s1 R1
  refine ⟨_, rfl, p, dx, _, rfl, S1.rd.ob, rfl, p, dx, a, _, y.length, ns, rfl, S1.rd, S1.nap, r2.1, r2.2.1, fun H2 q2 s2 R2 hq2 h2 => ?_⟩
  rw [row_bV r2] at h2
  have S2 := S1.kpo tb s2 R2
  have n1 : q1 ≠ p := fun e => by rw [e, S.rd.ob] at hq1; cases hq1
  have h12 := s2 _ _ h1 n1
  have k2 : Keep2 h p H H2 := Keep2.kpo (s1.trans s2)
  have bad : (Vaseda.readText x = none ∨ Vaseda.readText y = none) → Vasedf.step es (.far x y) = (es, ⟨([-4] : List Int).headD 0, ([-4] : List Int).tail⟩) := fun hb => by
    show (es, match Vaseda.readText x, Vaseda.readText y with | some x, some y => _ | _, _ => _) = _
    rcases hb with hb | hb
    · rw [hb]; rfl
    · rw [hb]
      cases Vaseda.readText x <;> rfl
  have handler : ∀ H3, Same H2 H3 → (Vaseda.readText x = none ∨ Vaseda.readText y = none) → ∀ l, H3 l = none → Q (.ref l) (upd H3 l (.lst (iV [-4]))) := fun H3 s3 hb l hl =>
    ans_end tb kq (S2.same tb s3) (k2.trans (Keep2.same s3)) hl (bad hb) (by simp) (by simp)
  refine ⟨_, rfl, q1, x, rfl, SqL.of h12, by omega, fun hn H3 s3 => ⟨true, T.e_NotAText, fun _ a2 ha2 => ⟨small (m := 10) (by show 1 ≤ 10; decide), fun l hl => handler H3 s3 (.inl hn) l hl⟩, fun q => nomatch q⟩, fun t ht b1 H3 hb1 s3 h3 => ?_⟩
  refine ⟨_, rfl, q2, y, rfl, SqL.of (s3 _ _ h2), by omega, fun hn H4 s4 => ⟨true, T.e_NotAText, fun _ a2 ha2 => ⟨small (m := 10) (by show 1 ≤ 10; decide), fun l hl => handler H4 (s3.trans s4) (.inr hn) l hl⟩, fun q => nomatch q⟩, fun u hu b2 H4 hb2 s4 h4 => ?_⟩
  have lt := read_24 ht
  have lu := read_24 hu
  have s24 := s3.trans s4
  refine ⟨_, rfl, _, rfl, b1, b2, t, u, rfl, SqL.of (s4 _ _ h3), SqL.of h4, by omega, by omega, fun H5 s5 => ?_⟩
  refine ⟨_, rfl, _, rfl, b1, b2, t, u, rfl, SqL.of (s5 _ _ (s4 _ _ h3)), SqL.of (s5 _ _ h4), by omega, by omega, fun H6 s6 => ?_⟩
  refine ⟨small (m := 10) (by show 2 ≤ 10; decide), fun l hl => ?_⟩
  have s26 := (s24.trans s5).trans s6
  refine ans_end (ans := [(Vasedf.far t u : Nat), (Vasedf.common t u : Nat)]) tb kq (S2.same tb s26) (k2.trans (Keep2.same s26)) hl ?_ (by simp) (by simp)
  show (es, match Vaseda.readText x, Vaseda.readText y with | some x, some y => _ | _, _ => _) = _
  rw [ht, hu]
  rfl
end
end Ls
set_option Elab.async false
set_option linter.all false
set_option maxRecDepth 100000
set_option maxHeartbeats 4000000
/-! min(list, key=a lambda that captures): rules that the layer lacks; nearest_of. -/
namespace Ls
open PySem PySem.Spec PyProof.Rows L2
open NdefX (NF NScope ncx inv_startN startF slotAt Caps cells_of envF)
open LamX (TabB TabS CodeO ExtN)
/-- the lambda's object at f -/
def LamO (f : Addr) (F : NF) (e : Expr) : HO := .ext fun h => ∃ pm ctv : Value, h.get? f = some (PySem.W.kla_obj F.name F.qual F.params e F.scope F.cl pm F.c ctv)
theorem lamO_at {P : Program} {w : World} {H : Hp} {h : Heap} {f : Addr} {F : NF} {e : Expr} (ok : HOk P w H h) (q : H f = some (LamO f F e)) : ∃ pm ctv : Value, h.get? f = some (PySem.W.kla_obj F.name F.qual F.params e F.scope F.cl pm F.c ctv) := by
  have z : ObjOk P w H h f (LamO f F e) := ok f _ q
  exact z.1
theorem lamO_ne {f : Addr} {F : NF} {e : Expr} (ps : Array Value) : LamO f F e ≠ .tbl ps := by
  intro z
  unfold LamO at z
  cases z
/-- what a lambda's making leaves -/
structure Made (H H1 : Hp) (P : Addr) (q : Str) : Prop where
  ext : ExtN H H1
  old : ∀ b, H1 b = none → H b = none
  tab : TabS H1 P q
theorem upd_off {H : Hp} {a b : Addr} {o : HO} (e : upd H a o b = none) : H b = none := by
  by_cases z : b = a
  · rw [z, upd_same] at e
    cases e
  · rw [upd_ne z] at e
    exact e
section
variable {X : Cx} {pins : List (Addr × Obj)} {σ : L2.St} {H : Hp} {s : Shared}
theorem inv_lam {F : NF} {e : Expr} {pm ctv : Value} {tk : Nat} (I : Inv X pins σ H s) :
    Inv X pins σ (upd H s.heap.objs.size (LamO s.heap.objs.size F e)) { s with heap := s.heap.push (PySem.W.kla_obj F.name F.qual F.params e F.scope F.cl pm F.c ctv), toks := tk } := by
  have at_ : (s.heap.push (PySem.W.kla_obj F.name F.qual F.params e F.scope F.cl pm F.c ctv)).get? s.heap.objs.size = some (PySem.W.kla_obj F.name F.qual F.params e F.scope F.cl pm F.c ctv) := Heap.get?_push_size _ rfl
  exact I.laid (fun b u z => Heap.get?_push_of_some _ z) (Nat.le_refl _) ⟨⟨pm, ctv, at_⟩, ⟨_, at_⟩, fun h1 h2 ⟨p, t, z⟩ st => ⟨p, t, st _ z⟩⟩
theorem made_push {P f : Addr} {q : Str} {H1 : Hp} {o : HO} (m : Made H H1 P q) (n : H1 f = none) : Made H (upd H1 f o) P q :=
  ⟨fun b u e t => (upd_ne (ne_of_none (m.ext b u e t) n)).trans (m.ext b u e t), fun b e => m.old b (upd_off e), m.tab.ext fun b u e => (upd_ne (ne_of_none e n)).trans e⟩
/-- the table grew by one code object -/
theorem made_tab {P c' : Addr} {q : Str} {ps : Array Value} {pos : Pos} (at_ : H P = some (.tbl ps)) (ok : TriplesOk ps.toList) (all : ∀ (pos : Pos) (cv : Value), codeAmong pos ps.toList = some cv → ∃ c, cv = .ref c ∧ H c = some (CodeO c q)) (n : H c' = none) :
    Made H (upd (upd H P (.tbl (ps ++ #[rawInt pos.line, rawInt pos.col, .ref c']))) c' (CodeO c' q)) P q := by
  have ext : ExtN H (upd (upd H P (.tbl (ps ++ #[rawInt pos.line, rawInt pos.col, .ref c']))) c' (CodeO c' q)) := by
    intro b u e t
    have nb : b ≠ P := by
      intro z
      rw [z, at_] at e
      exact t ps (Option.some.inj e).symm
    rw [upd_ne (ne_of_none e n), upd_ne nb]
    exact e
  have el : (ps ++ #[rawInt pos.line, rawInt pos.col, Value.ref c']).toList = ps.toList ++ [rawInt pos.line, rawInt pos.col, .ref c'] := by simp
  refine ⟨ext, fun b e => upd_off (upd_off e), _, (upd_ne (ne_of_none at_ n)).trans upd_same, ?_, fun p cv e => ?_⟩
  · rw [el]
    exact PySem.TriplesOk_snoc _ _ _ _ ok
  · rw [el] at e
    rcases LamX.among_app _ ok e with z | z
    · obtain ⟨d, e1, e2⟩ := all p cv z
      exact ⟨d, e1, ext _ _ e2 LamX.codeO_ne⟩
    · exact ⟨c', z, upd_same⟩
/-- a lambda is made -/
def tLam (P : Addr) (q : Str) (F : Addr → NF) (e : Expr) : TE := fun _ H Q => TabS H P q ∧ ∀ f c' H1, Made H H1 P q → H1 f = some (LamO f (F c') e) → H1 c' = some (CodeO c' q) → Q (.ref f) H1
theorem pe_lam {c P : Addr} {q : Str} {params : Arguments} {body : Expr} {scope : Scope} {pos : Pos} (TB : TabB X.base X.mg c P) (hc : X.env.code = .ref c) (hq : X.env.qual ++ "<lambda>" = q) (hd : defaultsOf params X.env = ([], []))
    (hf : ∀ y ∈ scope.names, y.2 = .free → X.env.scope.names.lookup y.1 = some .cell ∨ X.env.scope.names.lookup y.1 = some .free) :
    PE X (.Lambda params body scope pos) (tLam P q (fun c' => ⟨"<lambda>", q, params, [], scope, cloFrom X.env.cells scope.names [], c'⟩) body) := by
  subst hq
  constructor
  intro pins s σ H Q I h
  obtain ⟨⟨ps, at_, ok, all⟩, h⟩ := h
  have clo : ∀ y ∈ scope.names, y.2 = .free → ∃ c, X.env.cells.lookup y.1 = some c := fun y hy e => by
    rcases hf y hy e with z | z
    · exact I.ok.has _ (.inl z)
    · exact I.ok.has _ (.inr z)
  refine PySem.W.kla_eval hd ?_
  have bP : s.heap.BuiltinsAt X.mg P := TB.bm.keeps I.bk
  have gP : s.heap.get? P = some { cls := .none, data := .fields ps } := I.hok P _ at_
  cases among : codeAmong pos ps.toList with
  | some cv =>
    obtain ⟨c', rfl, co⟩ := all pos cv among
    refine PySem.W.kla_makeFunctionHit (closure_ok clo) I.ok.glob (I.mod.glob.keeps I.bk) hc (TB.code.keeps I.bk) gP ok among bP ?_
    intro ctv h' tk stay _
    have J : Inv X pins σ H { s with heap := h', toks := tk } := I.kept stay
    have nf := J.hok.fresh (Nat.le_refl h'.objs.size)
    have m0 : Made H H P (X.env.qual ++ "<lambda>") := ⟨ExtN.refl H, fun _ e => e, ps, at_, ok, all⟩
    exact ⟨.ref h'.objs.size, _, inv_lam (F := ⟨"<lambda>", X.env.qual ++ "<lambda>", params, [], scope, cloFrom X.env.cells scope.names [], c'⟩) J, rfl, h _ c' _ (made_push m0 nf) upd_same ((upd_ne (ne_of_none co nf)).trans co)⟩
  | none =>
    refine PySem.W.kla_makeFunction (closure_ok clo) I.ok.glob (I.mod.glob.keeps I.bk) hc (TB.code.keeps I.bk) gP ok among TB.gP bP ?_
    intro c' ctv h' tk stay up lt rec tab
    obtain ⟨c2, oc, vs, t, e2, x1, x2, x3⟩ := rec
    cases e2
    have nc : H c' = none := I.hok.fresh up
    have J := LamX.inv_table (t' := tk) (h' := h') I at_ (fun b o n e => stay b o n e) tab up ⟨oc, vs, t, x1, x2, x3⟩
    have nf := J.hok.fresh (Nat.le_refl h'.objs.size)
    exact ⟨.ref h'.objs.size, _, inv_lam (F := ⟨"<lambda>", X.env.qual ++ "<lambda>", params, [], scope, cloFrom X.env.cells scope.names [], c'⟩) J, rfl, h _ c' _ (made_push (made_tab at_ ok all nc) nf) upd_same ((upd_ne (Nat.ne_of_lt lt)).trans upd_same)⟩
/-- it is called, where a built-in function runs -/
theorem call_lam {F : NF} {e : Expr} {N ps fr : List Str} {js : List Nat} {f : Addr} {us : List Value} {vs : List V} {k : Nat} {t : TE} {Q : VK} {A : Around} (S : NScope N ps fr F.scope)
    (hb : ∀ (pm cv ctv : Value) (us : List Value), us.length = ps.length → bindArgs (PySem.W.kla_fn F.name F.qual F.params e F.scope F.cl pm cv ctv) ⟨us, []⟩ = pure (ps.zip us)) (hr : Room (k + 1) A) (cp : X.Ok → Caps X F.cl fr js) (I : Inv X pins σ H s)
    (e0 : Env0 X.prog X.w X.K X.mg X.base A X.stack s H) (hf : H f = some (LamO f F e)) (hc : H F.c = some (CodeO F.c F.qual)) (r : Vals vs us) (hl : vs.length = ps.length)
    (body : Room k (A.deeper (envF F f s.heap.objs.size)) → PE (ncx CX0 X.prog X.w X.K X.mg X.base N F f A X.stack s H E0) e t) (ht : t (startF N vs (js.map (slotAt σ))) H Q) :
    codeAny (model X.prog X.w) A (.call (.ref f) ⟨us, []⟩) (CR CX0 X.stack X.prog X.w H s Q E0) s := by
  have C := cells_of I (cp I.ok)
  have nl : s.heap.NoLimit := e0.mod.nolimit.keeps fun b o z => (e0.bs b o z).1
  obtain ⟨pm, ctv, ho⟩ := lamO_at e0.hok hf
  refine PySem.W.kla_callFunE hr.depth ho rfl S.co S.gen rfl (NdefX.codeO_at e0.hok hc) ?_
  rw [hb _ _ _ us (by rw [← r.length]; exact hl)]
  refine wpAny_pure (wpAny_newFunctionEnv S.nocell ?_ (fun h₁ hn hs => ⟨nl.fresh _ hs, ?_⟩) S.kind)
  · rintro ⟨n, v⟩ hy
    exact S.par n (List.of_mem_zip hy).1
  · show codeAny _ _ (.expr e (envF F f s.heap.objs.size)) _ _
    have stay : ∀ b o, s.heap.get? b = some o → h₁.get? b = some o := fun b o z => hs.extBut b o (Nat.ne_of_lt (Heap.lt_size z)) (Heap.get?_push_of_some _ z)
    have J : Inv (ncx CX0 X.prog X.w X.K X.mg X.base N F f A X.stack s H E0) [] (startF N vs (js.map (slotAt σ))) H { s with heap := h₁, toks := s.toks + (ps.zip us).length } := inv_startN S hr.hd e0 hl r C hn stay
    refine PySem.W.kla_codeExpr (wpAny_mono ((body (hr.deeper _)).run [] _ _ H Q J ht) ?_ fun _ _ z => z)
    rintro v s' ⟨z, H', J', rv, q⟩
    exact ⟨z, H', J'.os, J'.bare, J'.base, J'.hok, rv, q⟩
end
/-! ### a built-in function called with keywords, its promise told of the slots -/
def tCKS (r : L2.St → List V → List V → Hp → VK → Prop) (t tk : TA) : TE := fun σ H Q => t σ H fun xs H1 => tk σ H1 fun zs H2 => r σ xs zs H2 Q
section
variable {X : Cx} {x : Str} {p pos : Pos} {e : Expr} {es : List Expr} {kws : List Keyword} {t tk : TA} {id : String} {ks : List Str} {r : L2.St → List V → List V → Hp → VK → Prop}
theorem pe_bkS (op : ∀ (pins : List (Addr × Obj)) (s : Shared) (σ : L2.St) (H : Hp) (xs zs : List V) (us ws : List Value) (Q : VK), Inv X pins σ H s → Vals xs us → Vals zs ws → r σ xs zs H Q → wpAny (model X.prog X.w) X.A (call (.builtin id) us (ks.zip ws)) (EP X pins σ Q) X.xe s)
    (hg : Gl X x) (hm : X.mg x = none) (hv : bootBuiltins x = some (.builtin id)) (ha : PA X (e :: es) t) (hk : L2.PK X kws tk) (hn : x ≠ "__name__") (hdb : (x == ("__debug__" : Str)) = false)
    (h1 : backTo pos (starEach (e :: es) X.env) = (false, eval e X.env) :: backTo pos (starEach es X.env)) (h2 : (backTo pos (starEach (e :: es) X.env)).any (·.1) = false)
    (h3 : (backToKw pos (keywordEach kws X.env)).all (·.1.isSome) = true) (h4 : (backToKw pos (keywordEach kws X.env)).any (·.1.isNone) = false) (h5 : (backToKw pos (keywordEach kws X.env)).filterMap (·.1) = ks) : PE X (.Call (.Name x p) (e :: es) kws pos) (tCKS r t tk) := by
  constructor
  intro pins s σ H Q I h
  refine wpAny_Call_Name_kw (ld_blt I hg hm hv ?_ hn hdb)
  refine PyProof.Rows.callWith_kw ?_ h1 h2 h3 h4
  refine thn (ha.run pos pins s σ H _ I h) ?_
  rintro us s1 ⟨xs, H1, I1, r1, q1⟩
  refine thn (hk.run pos pins s1 σ H1 _ I1 q1) ?_
  rintro ws s2 ⟨zs, H2, I2, r2, q2⟩
  rw [h5]
  exact op pins s2 σ H2 xs zs us ws Q I2 r1 r2 q2
theorem mn_args1 (a k : Value) : argsOk "min" ⟨[a], [(Str.ofString "key", k)]⟩ := by unfold argsOk; kernel_rfl
/-- min(list, key=a lambda) -/
def rMinLam (K : PySem.W.Frag) (F : Addr → NF) (e : Expr) (N : List Str) (js : List Nat) (tb : TE) : L2.St → List V → List V → Hp → VK → Prop := fun σ xs zs H Q => ∃ (l f c' : Addr) (vs : List V) (kf : Nat → Int), xs = [.ref l] ∧ zs = [.ref f] ∧ SqL K H l vs ∧ vs ≠ [] ∧ H f = some (LamO f (F c') e) ∧ H (F c').c = some (CodeO (F c').c (F c').qual) ∧
  (∀ i x H', vs[i]? = some x → SameH H H' → tb (startF N [x] (js.map (slotAt σ))) H' (fun z H'' => z = .int (kf i) ∧ SameH H' H'')) ∧
  ∀ i x H', vs[i]? = some x → (∀ j, j < vs.length → kf i ≤ kf j ∧ (j < i → kf i < kf j)) → SameH H H' → Q x H'
theorem op_minLam {K : PySem.W.Frag} {F : Addr → NF} {e : Expr} {N fr : List Str} {y : Str} {js : List Nat} {tb : TE} {j k : Nat} (hK : X.K = K) (hc : X.calm = true) (S : ∀ c', NScope N [y] fr (F c').scope)
    (hb : ∀ (c' : Addr) (pm cv ctv : Value) (us : List Value), us.length = [y].length → bindArgs (PySem.W.kla_fn (F c').name (F c').qual (F c').params e (F c').scope (F c').cl pm cv ctv) ⟨us, []⟩ = pure ([y].zip us)) (hr : Room j X.A) (hk : k + 2 ≤ j) (cp : ∀ c', X.Ok → Caps X (F c').cl fr js)
    (body : ∀ (c' f : Addr) (s : Shared) (H : Hp), Room k (X.A.in1.deeper (envF (F c') f s.heap.objs.size)) → PE (ncx CX0 X.prog X.w X.K X.mg X.base N (F c') f X.A.in1 X.stack s H E0) e tb)
    (pins : List (Addr × Obj)) (s : Shared) (σ : L2.St) (H : Hp) (xs zs : List V) (us ws : List Value) (Q : VK) (I : Inv X pins σ H s) (r : Vals xs us) (rz : Vals zs ws) (h : rMinLam K F e N js tb σ xs zs H Q) : wpAny (model X.prog X.w) X.A (call (.builtin "min") us ([("key" : Str)].zip ws)) (EP X pins σ Q) X.xe s := by
  subst hK
  obtain ⟨l, f, c', vs, kf, rfl, rfl, hs, hne, hf, hco, hkey, hq⟩ := h
  rw [Vals.ref1 r, Vals.ref1 rz]
  have hr1 : Room (k + 1) X.A.in1 := Room.in1 (hr.mono hk)
  refine mn_call (dflt := none) (kf := kf) hc I ?_ hs (mn_args1 _ _) rfl (fun e => absurd e hne) ?_
  · intro i v pins2 s2 H2 u hv I2 sH rv
    have r1 : Vals [v] [u] := .cons rv .nil
    refine wpAny_call (codeAny_mono (call_lam (S c') (hb c') hr1 (cp c') I2 I2.env0.in1 (sH _ _ hf) (sH _ _ hco) r1 rfl (body c' f s2 H2) (hkey i v H2 hv sH)) ?_)
    intro r' s3 q
    cases r' with
    | error e => exact False.elim q
    | ok fl =>
      cases fl with
      | ret u => exact I2.after q
      | next => exact False.elim q
      | brk => exact False.elim q
      | cont => exact False.elim q
  · intro i v u s2 H2 hv rv hm J sH
    exact ⟨v, H2, J, rv, hq i v H2 hv hm sH⟩
end
/-! ### nearest_of -/
section
variable {P : Program} {w : World} {K : PySem.W.Frag} {mg : Str → Option Value} {base : Heap}
theorem sc_nearest_of : FnScope ["scripts", "examples"] ["scripts", "examples"] (defScope s_nearest_of) := ⟨rfl, rfl, rfl, by decide +kernel, rfl, by decide +kernel, by decide +kernel⟩
def spNearest (K : PySem.W.Frag) : Sp := fun vs (H : Hp) Q _ => ∃ (l h : Addr) (us : List V) (ss : List (List VCmd)) (es : List VEx), vs = [.ref l, .ref h] ∧ H l = some (.lst us) ∧ Paired (RepSc K H) us ss ∧ (∀ s ∈ ss, okS s) ∧ ss ≠ [] ∧ RepE K H h es ∧ okE es ∧ TabS H (tbAd K) lamName ∧
  ∀ (i : Nat) (v : V) (s : List VCmd) (H' : Hp), us[i]? = some v → ss[i]? = some s → (∀ (j : Nat) (t : List VCmd), ss[j]? = some t → Vasedf.total es s ≤ Vasedf.total es t ∧ (j < i → Vasedf.total es s < Vasedf.total es t)) → ExtN H H' → (∀ b, H' b = none → H b = none) → TabS H' (tbAd K) lamName → Q v H'
theorem extN_imm {H H' : Hp} (e : ExtN H H') : Imm K H H' := fun p o h i => e p o h (by
  intro ps z
  subst z
  exact i)
theorem repSc_ext {H H' : Hp} (e : ExtN H H') {v : V} {s : List VCmd} : RepSc K H v s → RepSc K H' v s := by
  rintro ⟨p, rfl, vs, h, r⟩
  exact ⟨p, rfl, vs, e _ _ h (by intro ps z; cases z), paired_imp (fun _ _ q => q.mono (extN_imm e)) r⟩
theorem repE_ext {H H' : Hp} (e : ExtN H H') {a : Addr} {es : List VEx} : RepE K H a es → RepE K H' a es := by
  rintro ⟨vs, h, r⟩
  refine ⟨vs, e _ _ h (by intro ps z; cases z), paired_imp ?_ r⟩
  rintro x y ⟨p, dx, b, c, q, h1, h2, h3⟩
  exact ⟨p, dx, b, c, q, e _ _ h1 (by intro ps z; cases z), e _ _ h2 (by intro ps z; cases z), e _ _ h3 (by intro ps z; cases z)⟩
/-- the lambda's parts -/
def lamIt : Option (Arguments × Expr × Scope) := match defBody s_nearest_of with
  | [.Return (some (.Call _ _ [⟨_, .Lambda a b c _, _⟩] _)) _] => some (a, b, c)
  | _ => none
def lamScope : Scope := match lamIt with
  | some x => x.2.2
  | none => defScope s_nearest_of
def lamArgs : Arguments := match lamIt with
  | some x => x.1
  | none => defArgs s_nearest_of
def lamBody : Expr := match lamIt with
  | some x => x.2.1
  | none => .Name "x" ⟨0, 0, 0, 0⟩
theorem lam_sc : NScope ["script", "examples"] ["script"] ["examples"] lamScope := NdefX.nscope_by (by decide +kernel)
theorem lam_b : NdefX.ndefB (defScope s_nearest_of) lamScope ["examples"] = true := by decide +kernel
theorem ok_nearest_of (T : Txt K mg) (B : TabB base mg (cdAd K) (tbAd K)) : DOk P w K mg base CX0 12 "nearest_of" (spNearest K) := by
  obtain ⟨fd, F⟩ := T.f_nearest_of
  have sc := sc_nearest_of
  have K_far_from_all : DOk P w K mg base CX0 9 "far_from_all" (spFarAll K) := ok_far_from_all T
  obtain ⟨oc, od, dV, kV, doc, pm, an, cdv, ct, osl, rfl, lk, hcd, _, _⟩ := id F.ex
  have hc : cdv = .ref (cdAd K) := by
    cases cdv with
    | ref c =>
      have lk2 : K.lookup (He.ga K "nearest_of") = some ⟨oc, od, .func (PySem.W.fnOf "nearest_of" "nearest_of" (defArgs s_nearest_of) (defBody s_nearest_of) (defScope s_nearest_of) dV kV doc pm an (.ref c) ct), osl⟩ := lk
      unfold cdAd
      rw [lk2]
    | _ => cases hcd
  subst hc
  refine ⟨_, _, _, fn_of lk hcd sc (fun vs H Q E h => by obtain ⟨_, _, _, _, _, rfl, _⟩ := h; rfl) (fun A outer s H vs Q E hr h => ?_), T.g_nearest_of, F.kp, F.bindsN (fun _ _ _ _ _ _ us hl => match us, hl with | [_, _], _ => rfl)⟩
  refine ⟨_, PSs.nox (pss_one (ps_ret (pe_bkS (op_minLam (K := K) (k := 9) (j := 11) (y := "script") (N := ["script", "examples"]) (fr := ["examples"]) (js := [1]) (e := lamBody)
      (F := fun c' => ⟨"<lambda>", lamName, lamArgs, [], lamScope, cloFrom (cxOf CX0 P w K mg base ["scripts", "examples"] "nearest_of" (defScope s_nearest_of) (He.ga K "nearest_of") (.ref (cdAd K)) A outer s H E).nox.env.cells lamScope.names [], c'⟩)
      rfl rfl (fun c' => lam_sc) (fun _ _ _ _ us hl => match us, hl with | [_], _ => rfl) hr (by decide)
      (fun c' ok => Caps.made ok (NdefX.ndef_free lam_b) (NdefX.ndef_fr lam_b) rfl)
      (fun c' f s H hr' => pe_d K_far_from_all hr' (by decide) rfl (pa_cons (pe_var (i := 0) rfl (.inl rfl)) (pa_cons (pe_var (i := 1) rfl (.inr (.inr rfl))) pa_nil))))
      rfl T.b_min (by decide +kernel) (pa_cons (pe_var (i := 0) rfl (.inl rfl)) pa_nil) (pk_cons (pe_lam (P := tbAd K) (q := lamName) B rfl rfl rfl (NdefX.ndef_free lam_b)) pk_nil) (by decide) (by decide) rfl rfl rfl rfl rfl))), ?_⟩
  obtain ⟨l, h, us, ss, es, rfl, hl, rr, ok, ne, re, oe, tab, kq⟩ := h
  have lus := paired_len rr
  refine ⟨_, rfl, tab, fun f c' H1 m hf hc => ⟨l, f, c', us, fun i => ((Vasedf.total es (ss.getD i []) : Nat) : Int), rfl, rfl, SqL.of (m.ext _ _ hl (by intro ps z; cases z)), ?_, hf, hc, ?_, ?_⟩⟩
  · intro e
    rw [e] at lus
    exact ne (List.eq_nil_of_length_eq_zero lus.symm)
  · intro i x H2 hx s2
    obtain ⟨s, hs, p, rfl, rs⟩ := paired_get rr hx
    have e1 : ss.getD i [] = s := by simp [hs]
    obtain ⟨q, eq, rs2⟩ := repSc_ext m.ext ⟨p, rfl, rs⟩
    cases eq
    refine ⟨_, rfl, _, rfl, p, h, s, es, rfl, RepS.same s2 rs2, ok s (List.mem_of_getElem? hs), RepE.same s2 (repE_ext m.ext re), oe, fun H3 s3 => ⟨?_, s3⟩⟩
    show V.int _ = V.int ((Vasedf.total es (ss.getD i []) : Nat) : Int)
    rw [e1]
  · intro i x H2 hx hm s2
    obtain ⟨s, hs, _⟩ := paired_get rr hx
    have e1 : ss.getD i [] = s := by simp [hs]
    refine kq i x s H2 hx hs (fun j t ht => ?_) (fun b o e n => s2 _ _ (m.ext b o e n)) (fun b e => m.old b ?_) (m.tab.ext s2)
    · have hj := (List.getElem?_eq_some_iff.mp ht).1
      have e2 : ss.getD j [] = t := by simp [ht]
      obtain ⟨h1, h2⟩ : ((Vasedf.total es (ss.getD i []) : Nat) : Int) ≤ ((Vasedf.total es (ss.getD j []) : Nat) : Int) ∧ (j < i → ((Vasedf.total es (ss.getD i []) : Nat) : Int) < ((Vasedf.total es (ss.getD j []) : Nat) : Int)) := hm j (by omega)
      rw [e1, e2] at h1 h2
      exact ⟨by omega, fun z => by have := h2 z; omega⟩
    · cases z : H1 b with
      | none => rfl
      | some o =>
        rw [s2 _ _ z] at e
        cases e
end
end Ls
set_option Elab.async false
set_option linter.all false
set_option maxRecDepth 100000
set_option maxHeartbeats 4000000
/-! examples: answer_nearest -/
namespace Ls
open PySem PySem.Spec PyProof.Rows L2
open LamX (TabB TabS CodeO ExtN)
open Vasedf (commands ones missing fits total)
/-! ### mathematics -/
def nStep (f : List VCmd → Nat) (b : Option (Nat × List VCmd)) (s : List VCmd) : Option (Nat × List VCmd) := let n := f s; match b with
  | none => some (n, s)
  | some x => if n < x.1 then some (n, s) else some x
theorem nStep_lt {f : List VCmd → Nat} {b s : List VCmd} (h : f s < f b) : nStep f (some (f b, b)) s = some (f s, s) := if_pos h
theorem nStep_ge {f : List VCmd → Nat} {b s : List VCmd} (h : f b ≤ f s) : nStep f (some (f b, b)) s = some (f b, b) := if_neg (Nat.not_lt.mpr h)
theorem near_low {f : List VCmd → Nat} {b : List VCmd} : ∀ l : List (List VCmd), (∀ y ∈ l, f b ≤ f y) → l.foldl (nStep f) (some (f b, b)) = some (f b, b)
  | [], _ => rfl
  | s :: l, h => by
    rw [List.foldl_cons, nStep_ge (h s (List.mem_cons_self ..))]
    exact near_low l fun y hy => h y (List.mem_cons_of_mem _ hy)
theorem near_at {f : List VCmd → Nat} {x : List VCmd} : ∀ (l : List (List VCmd)) (i : Nat) (b : List VCmd), l[i]? = some x → f x < f b → (∀ (j : Nat) (y : List VCmd), l[j]? = some y → f x ≤ f y ∧ (j < i → f x < f y)) → l.foldl (nStep f) (some (f b, b)) = some (f x, x)
  | [], _, _, h, _, _ => by simp at h
  | s :: l, 0, b, h, hb, hm => by
    obtain rfl : s = x := by simpa using h
    rw [List.foldl_cons, nStep_lt hb]
    refine near_low l fun y hy => ?_
    obtain ⟨j, hj⟩ := List.mem_iff_getElem?.mp hy
    exact (hm (j + 1) y (by simpa using hj)).1
  | s :: l, i + 1, b, h, hb, hm => by
    have hs := (hm 0 s rfl).2 (Nat.succ_pos i)
    have h' : l[i]? = some x := by simpa using h
    have hm' : ∀ (j : Nat) (y : List VCmd), l[j]? = some y → f x ≤ f y ∧ (j < i → f x < f y) := fun j y hj => by
      have q := hm (j + 1) y (by simpa using hj)
      exact ⟨q.1, fun z => q.2 (by omega)⟩
    rw [List.foldl_cons]
    by_cases c : f s < f b
    · rw [nStep_lt c]
      exact near_at l i s h' hs hm'
    · rw [nStep_ge (Nat.not_lt.mp c)]
      exact near_at l i b h' hb hm'
theorem near_is {f : List VCmd → Nat} {x : List VCmd} {l : List (List VCmd)} {i : Nat} (h : l[i]? = some x) (hm : ∀ (j : Nat) (y : List VCmd), l[j]? = some y → f x ≤ f y ∧ (j < i → f x < f y)) : l.foldl (nStep f) none = some (f x, x) := by
  cases l with
  | nil => simp at h
  | cons s l =>
    rw [List.foldl_cons]
    show l.foldl (nStep f) (some (f s, s)) = _
    cases i with
    | zero =>
      obtain rfl : s = x := by simpa using h
      refine near_low l fun y hy => ?_
      obtain ⟨j, hj⟩ := List.mem_iff_getElem?.mp hy
      exact (hm (j + 1) y (by simpa using hj)).1
    | succ i =>
      refine near_at l i s (by simpa using h) ((hm 0 s rfl).2 (Nat.succ_pos i)) fun j y hj => ?_
      have q := hm (j + 1) y (by simpa using hj)
      exact ⟨q.1, fun z => q.2 (by omega)⟩
theorem nearest_is {es : List VEx} {i : Nat} {x : List VCmd} (h : (ones es)[i]? = some x) (hm : ∀ (j : Nat) (y : List VCmd), (ones es)[j]? = some y → total es x ≤ total es y ∧ (j < i → total es x < total es y)) : Vasedf.nearest es = some (total es x, x) :=
  near_is h hm
theorem ones_ne (es : List VEx) : ones es ≠ [] := by
  intro h
  have h2 : commands es = [] := by
    unfold ones at h
    exact List.map_eq_nil_iff.mp h
  have h3 : (commands es).length = 0 := by rw [h2]; rfl
  have h4 : (commands es).length ≠ 0 := by
    unfold Vasedf.commands Vasedf.deeds Vasedf.addrs
    simp
  exact h4 h3
/-! ### the table stands -/
theorem tbok_near (K : PySem.W.Frag) : TBok (NearT K) := by
  intro H H' h p xs C dx fs hh hp e t
  obtain ⟨ps, h1, h2, h3⟩ := t
  refine ⟨ps, e _ _ h1 (ne_of h1 hh (by intro z; cases z)) (ne_of h1 hp (by intro z; cases z)), h2, fun pos cv hc => ?_⟩
  obtain ⟨c, e1, e2⟩ := h3 pos cv hc
  exact ⟨c, e1, e _ _ e2 (ne_of e2 hh (by intro z; unfold LamX.CodeO at z; cases z)) (ne_of e2 hp (by intro z; unfold LamX.CodeO at z; cases z))⟩
theorem StAt.ext {K : PySem.W.Frag} {H H' : Hp} {h p dx a : Addr} {k : Nat} {ns : List Int} {es : List VEx} (S : StAt K (NearT K) H h p dx a k ns es) (e : ExtN H H') (t : NearT K H') : StAt K (NearT K) H' h p dx a k ns es := by
  refine ⟨repE_ext e S.re, S.oe, ⟨e _ _ S.rd.ob (by intro ps z; cases z), ?_⟩, S.nap, S.nah, t⟩
  rcases S.rd.sq with (q | ⟨o, q⟩) | q
  · exact .inl (.inl (e _ _ q (by intro ps z; cases z)))
  · exact .inl (.inr ⟨o, e _ _ q (by intro ps z; cases z)⟩)
  · exact .inr q
section
variable {P : Program} {w : World} {K : PySem.W.Frag} {mg : Str → Option Value} {base : Heap}
theorem sc_answer_nearest : FnScope ["held", "reader", "script"] ["held", "reader"] (defScope s_answer_nearest) := ⟨rfl, rfl, rfl, by decide +kernel, rfl, by decide +kernel, by decide +kernel⟩
theorem ok_answer_nearest (T : Txt K mg) (B : TabB base mg (cdAd K) (tbAd K)) : DOk P w K mg base CX0 13 "answer_nearest" (AnsP K (NearT K) fun c => c = .nearest) := by
  obtain ⟨fd, F⟩ := T.f_answer_nearest
  have sc := sc_answer_nearest
  have K_single_scripts_of : DOk P w K mg base CX0 6 "single_scripts_of" (spSingles K) := ok_single_scripts_of T
  have K_nearest_of : DOk P w K mg base CX0 12 "nearest_of" (spNearest K) := ok_nearest_of T B
  have K_far_from_all : DOk P w K mg base CX0 9 "far_from_all" (spFarAll K) := ok_far_from_all T
  have K_told_script : DOk P w K mg base CX0 5 "told_script" (spToldScript K) := ok_told_script T
  have tb := tbok_near K
  refine dok F T.g_answer_nearest (fun _ _ _ _ _ _ us hl => match us, hl with | [_, _], _ => rfl) sc (fun vs H Q E h => by obtain ⟨_, _, _, _, _, _, _, _, _, rfl, _⟩ := h; rfl) (fun cdv A outer s H vs Q E hr h => ?_)
  refine ⟨_, PSs.nox (pss_cons (ps_set (i := 2) sc.nd rfl (Or.inl rfl) (pe_d K_nearest_of hr (by first | decide | omega) rfl (pa_cons (pe_d K_single_scripts_of hr (by first | decide | omega) rfl (pa_cons (pv 0) pa_nil)) (pa_cons (pv 0) pa_nil))))
  (pss_one (ps_ret (pe_op op_cat (pe_lst (pa_cons (pe_d K_far_from_all hr (by first | decide | omega) rfl (pa_cons (pv 2) (pa_cons (pv 0) pa_nil))) pa_nil)) (pe_d K_told_script hr (by first | decide | omega) rfl (pa_cons (pv 2) pa_nil)))))), ?_⟩
  obtain ⟨h, p, dx, a, k, k', ns, es, c, rfl, rfl, S, rfl, kq⟩ := h
  have oe := S.oe
  refine ⟨_, rfl, h, es, rfl, S.re, oe, fun q1 H1 us hq1 s1 h1 r1 => ?_⟩
  have S1 := S.same tb s1
  refine ⟨_, rfl, q1, h, us, ones es, es, rfl, h1, r1, fun s hs => (ones_ok oe s hs).s, ones_ne es, S1.re, oe, S1.tb, fun i v s H2 hv hs hm e2 old t2 => ?_⟩
  have S2 := S1.ext e2 t2
  have okf := ones_ok oe s (List.mem_of_getElem? hs)
  have htl := tellS_len okf
  have hsl := okf.2
  obtain ⟨s', hs', q, rfl, rs⟩ := paired_get r1 hv
  obtain rfl : s = s' := by rw [hs] at hs'; exact Option.some.inj hs'
  obtain ⟨q', eq, rs2⟩ := repSc_ext e2 ⟨q, rfl, rs⟩
  cases eq
  refine ⟨_, rfl, _, rfl, q, h, s, es, rfl, rs2, okf.s, S2.re, oe, fun H3 s3 => ⟨small (m := 10) (by show 1 ≤ 10; decide), fun l1 hl1 => ?_⟩⟩
  have s4 := Same.new (o := HO.lst [V.int (total es s : Nat)]) hl1
  refine ⟨_, rfl, q, s, rfl, RepS.same (s3.trans s4) rs2, fun c hc => (okf.1 c hc).1, by omega, fun l2 H5 hl2 s5 h5 => ?_⟩
  refine ⟨l1, l2, _, _, rfl, rfl, s5 _ _ upd_same, h5, small (m := 2000) (by simp only [iV, List.length_map, List.length_singleton]; omega), fun l hl => ?_⟩
  have s25 := (s3.trans s4).trans s5
  have e : [V.int (total es s : Nat)] ++ iV (VasedBase.textRow (Vaseda.shown s)) = iV ((total es s : Int) :: VasedBase.textRow (Vaseda.shown s)) := rfl
  rw [e]
  have ea : encA (Vasedf.step es .nearest).2 = (total es s : Int) :: VasedBase.textRow (Vaseda.shown s) := by
    show encA (match Vasedf.nearest es with | none => _ | some x => _) = _
    rw [nearest_is hs hm]
    rfl
  have ee : (Vasedf.step es .nearest).1 = es := rfl
  rw [ea, ee] at kq
  refine kq _ l (s1.free (old _ (s25.free hl))) ?_ ((S2.same tb s25).same tb (Same.new hl)) upd_same (by rw [List.length_cons]; omega)
  intro b o eb n1 n2 nt
  exact Same.new hl _ _ (s25 _ _ (e2 _ _ (s1 _ _ eb) nt))
end
end Ls
set_option Elab.async false
set_option linter.all false
set_option maxRecDepth 100000
set_option maxHeartbeats 4000000
/-! parsing: read_plain_address, read_address -/
namespace Ls
open PySem PySem.Spec PyProof.Rows L2
open VasedBase (isBlank isDigit isLetter decimal numberOf showNat PTok Toks word nextWord wrong)
open Vaseda (takeNum takeLetters)
/-- an address without a not -/
def plainAddr (l : Toks) : Except VasedBase.Fault (VAddr × Toks) :=
  if nextWord "all" l = true then .ok (.all, l.drop 1)
  else if nextWord "line" l = true then (takeNum 1 99 (l.drop 1)).map fun x => (.line x.1, x.2)
  else if nextWord "from" l = true then (takeNum 1 99 (l.drop 1)).bind fun x => (VasedBase.takeWord "to" x.2).bind fun l => (takeNum x.1 99 l).map fun y => (.span x.1 y.1, y.2)
  else if nextWord "last" l = true then .ok (.last, l.drop 1)
  else if nextWord "has" l = true then (takeLetters (l.drop 1)).map fun x => (.has x.1, x.2)
  else if nextWord "is" l = true then (takeLetters (l.drop 1)).map fun x => (.is_ x.1, x.2)
  else wrong l
theorem tokEq_name {tk : VTok} {w : Ln} (h : VasedBase.tokEq tk (.name w) = true) : tk = .name w := by
  cases tk with
  | name b => rw [show b = w from eq_of_beq h]
  | num n => cases h
  | sign c => cases h
  | last => cases h
def okWs (ws : List String) : Bool := ws.all fun s => decide (V.str (Str.ofString s) = vS (word s)) && ((word s).all isLetter && !(word s).isEmpty)
theorem inW {tk : VTok} (hw : tk = .last ∨ WfT tk) (ws : List String) (h : okWs ws = true) : inV (vS (toldOf tk)) (ws.map fun s => V.str (Str.ofString s)) = ws.any fun s => VasedBase.tokEq tk (.name (word s)) := by
  have h1 : ∀ s ∈ ws, V.str (Str.ofString s) = vS (word s) ∧ word s ≠ [] ∧ ∀ c ∈ word s, isLetter c = true := fun s hs => by
    obtain ⟨a, b⟩ := Bool.and_eq_true_iff.mp (List.all_eq_true.mp h s hs)
    exact ⟨of_decide_eq_true a, word_let s b⟩
  have h2 : (ws.map fun s => V.str (Str.ofString s)) = tS (ws.map word) := by
    unfold tS
    rw [List.map_map]
    exact List.map_congr_left fun s hs => (h1 s hs).1
  rw [h2, inV_vS, List.contains_eq_any_beq, List.any_map]
  have h3 : ∀ l : List String, (∀ s ∈ l, s ∈ ws) → (l.any fun s => toldOf tk == word s) = l.any fun s => VasedBase.tokEq tk (.name (word s)) := by
    intro l
    induction l with
    | nil => intro _; rfl
    | cons s l ih =>
      intro hl
      have hs := h1 s (hl s List.mem_cons_self)
      rw [List.any_cons, List.any_cons, ih fun x hx => hl x (List.mem_cons_of_mem _ hx)]
      congr 1
      rw [← vS_dec, told_word hw hs.2.1 hs.2.2]
  exact h3 ws fun _ z => z
theorem eqWd {tk : VTok} (hw : tk = .last ∨ WfT tk) (s : String) (h : okWs [s] = true) : decide (vS (toldOf tk) = V.str (Str.ofString s)) = VasedBase.tokEq tk (.name (word s)) := by
  obtain ⟨a, b⟩ := Bool.and_eq_true_iff.mp (List.all_eq_true.mp h s List.mem_cons_self)
  rw [of_decide_eq_true a]
  obtain ⟨c, d⟩ := word_let s b
  exact told_word hw c d
/-- behind a token that is read -/
structure SR (K : PySem.W.Frag) (R : RD) (k : Nat) (q : Addr) (z : Str) (t : Nat) (pl : Nat) (H H1 : Hp) : Prop where
  kp : KpO R.r H H1
  ob : H1 R.r = some (.ins (He.ga K "TokenReader") R.dx (trF R.L (k + 1)))
  ta : TokAt K H1 q z t ((pl : Nat) : Int)
theorem SR.same {K : PySem.W.Frag} {R : RD} {k : Nat} {q : Addr} {z : Str} {t pl : Nat} {H H1 H2 : Hp} (h : SR K R k q z t pl H H1) (s : Same H1 H2) : SR K R k q z t pl H H2 :=
  ⟨h.kp.trans (KpO.of s), s _ _ h.ob, h.ta.mono (frz_same s)⟩
theorem SR.ne {K : PySem.W.Frag} {R : RD} {k : Nat} {q : Addr} {z : Str} {t pl : Nat} {H H1 : Hp} (h : SR K R k q z t pl H H1) : H1 R.r ≠ none := by
  rw [h.ob]
  intro z
  cases z
theorem SR.of {K : PySem.W.Frag} {R : RD} {k : Nat} {q : Addr} {z : Str} {t : Nat} {pl : Nat} {H H1 : Hp} (hR : TRd K H R k) (ta : TokAt K H q z t ((pl : Nat) : Int)) (s : KpO R.r H H1) (e : H1 R.r = some (.ins (He.ga K "TokenReader") R.dx (trF R.L (k + 1)))) : SR K R k q z t pl H H1 :=
  ⟨s, e, ta.mono fun b o u hb => s _ _ hb (by
    rintro rfl
    rw [hR.ob] at hb
    cases hb)⟩
theorem SR.trd {K : PySem.W.Frag} {R : RD} {k : Nat} {q : Addr} {z : Str} {t pl : Nat} {H H1 : Hp} (h : SR K R k q z t pl H H1) (hR : TRd K H R k) (hlt : k + 1 < R.l.length) : TRd K H1 R (k + 1) := hR.kp h.kp h.ob hlt
def spPlain (K : PySem.W.Frag) : Sp := fun vs H Q E => ∃ (R : RD) (k : Nat), vs = [.ref R.r] ∧ TRd K H R k ∧ Pst (plainAddr (R.l.drop k)) K R H E (fun a _ H' => ∀ H2 v, Same H' H2 → RepA H2 v a → Q v H2)
section
variable {P : Program} {w : World} {K : PySem.W.Frag} {mg : Str → Option Value} {base : Heap}
theorem sc_read_plain_address : FnScope ["reader", "token", "number"] ["reader"] (defScope s_read_plain_address) := ⟨rfl, rfl, rfl, by decide +kernel, rfl, by decide +kernel, by decide +kernel⟩
theorem ok_plain_address (T : Txt K mg) : DOk P w K mg base (L2.CX P w) 4 "read_plain_address" (spPlain K) := by
  obtain ⟨fd, F⟩ := T.f_read_plain_address
  have sc := sc_read_plain_address
  have K_TokenReader_read_token := ok_read_token (P := P) (w := w) (base := base) T
  have K_read_letters := ok_read_letters (P := P) (w := w) (base := base) T
  have K_read_bounded := ok_read_bounded (P := P) (w := w) (base := base) T
  have K_read_told := ok_read_told (P := P) (w := w) (base := base) T
  obtain ⟨_, c_GREATEST_LINE⟩ := T.v_GREATEST_LINE; obtain ⟨_, c_NOT_ALLOWED⟩ := T.v_NOT_ALLOWED
  refine dok F T.g_read_plain_address (fun _ _ _ _ _ _ us hl => match us, hl with | [_], _ => rfl) sc (fun vs H Q E h => by obtain ⟨_, _, rfl, _⟩ := h; rfl) (fun cdv A outer s H vs Q E hr h => ?_)
  refine ⟨_, (pss_cons (ps_set (i := 1) sc.nd rfl (Or.inl rfl) (pe_mt0 (pv 0) K_TokenReader_read_token hr (by first | decide | omega)))
  (pss_cons (ps_if (pt_cmpR (op_inK (K := K) rfl) (pe_told rfl T (pv 1)) (pe_tup (pa_cons pe_str (pa_cons pe_str pa_nil))) rfl)
  (pss_one (ps_ret (pe_tup (pa_cons (pe_told rfl T (pv 1)) pa_nil))))
  pss_nil)
  (pss_cons (ps_if (pt_cmpR (op_inK (K := K) rfl) (pe_told rfl T (pv 1)) (pe_tup (pa_cons pe_str (pa_cons pe_str pa_nil))) rfl)
  (pss_one (ps_ret (pe_tup (pa_cons (pe_told rfl T (pv 1)) (pa_cons (pe_dS K_read_letters hr (by first | decide | omega) rfl (takes_of rfl rfl rfl rfl) (pa_cons (pv 0) pa_nil)) pa_nil)))))
  pss_nil)
  (pss_cons (ps_if (pt_cmpR op_eq (pe_told rfl T (pv 1)) pe_str (nomark _))
  (pss_one (ps_ret (pe_tup (pa_cons pe_str (pa_cons (pe_dS K_read_bounded hr (by first | decide | omega) rfl (takes_of rfl rfl rfl rfl) (pa_cons (pv 0) (pa_cons pe_int (pa_cons (pe_glob (v := .int (99)) rfl c_GREATEST_LINE ⟨_, rfl⟩) pa_nil)))) pa_nil)))))
  pss_nil)
  (pss_cons (ps_if (pt_cmpR op_eq (pe_told rfl T (pv 1)) pe_str (nomark _))
  (pss_cons (ps_set (i := 2) sc.nd rfl (Or.inl rfl) (pe_dS K_read_bounded hr (by first | decide | omega) rfl (takes_of rfl rfl rfl rfl) (pa_cons (pv 0) (pa_cons pe_int (pa_cons (pe_glob (v := .int (99)) rfl c_GREATEST_LINE ⟨_, rfl⟩) pa_nil)))))
    (pss_cons (ps_expr (pe_dS K_read_told hr (by first | decide | omega) rfl (takes_of rfl rfl rfl rfl) (pa_cons (pv 0) (pa_cons pe_str pa_nil))))
    (pss_one (ps_ret (pe_tup (pa_cons pe_str (pa_cons (pv 2) (pa_cons pe_str (pa_cons (pe_dS K_read_bounded hr (by first | decide | omega) rfl (takes_of rfl rfl rfl rfl) (pa_cons (pv 0) (pa_cons (pv 2) (pa_cons (pe_glob (v := .int (99)) rfl c_GREATEST_LINE ⟨_, rfl⟩) pa_nil)))) pa_nil)))))))))
  pss_nil)
  (pss_one (ps_raise rfl (takes_of rfl rfl rfl rfl) (pmk_fault rfl T hr (by first | decide | omega) rfl (pa_cons (pe_glob (v := .int (3)) rfl c_NOT_ALLOWED ⟨_, rfl⟩) (pa_cons (pe_tplace rfl T (pv 1)) pa_nil)))))))))), ?_⟩
  obtain ⟨R, k, rfl, hR, kq⟩ := h
  obtain ⟨pt, q, t, h1, h2, h3, h4, h5, h6⟩ := hR.at
  have hw : pt.tok = .last ∨ WfT pt.tok := h6.imp (fun z => z) (fun z => z.2)
  have hlt : ∀ {w : Ln}, pt.tok = .name w → k + 1 < R.l.length := fun e => by
    obtain z | z := h6
    · rw [e] at z; cases z
    · exact z.1
  rw [h5] at kq
  refine ⟨_, rfl, R.r, R.dx, _, rfl, hR.ob, rfl, R, k, rfl, hR, fun q' H1 hq s1 e1 => ?_⟩
  rw [h2] at hq
  obtain rfl : q = q' := by injection hq with hq; injection hq
  have S1 := SR.of hR h4 s1 e1
  clear s1 e1 h4
  -- all, last
  refine ⟨_, rfl, q, _, _, _, rfl, S1.ta, small (m := 10) (by show 2 ≤ 10; decide), fun p1 hp1 => ⟨p1, _, rfl, .inr (SqT.of upd_same), rfl, rfl, _, rfl, ?_⟩⟩
  have S2 := S1.same (Same.new (o := HO.tup [V.str (Str.ofString "all"), V.str (Str.ofString "last")]) hp1)
  generalize upd H1 p1 (HO.tup [V.str (Str.ofString "all"), V.str (Str.ofString "last")]) = H2 at *
  show if (if false = true then !inV (vS (toldOf pt.tok)) (["all", "last"].map fun s => V.str (Str.ofString s)) else inV (vS (toldOf pt.tok)) (["all", "last"].map fun s => V.str (Str.ofString s))) = true then _ else _
  rw [if_neg (show ¬ false = true from Bool.false_ne_true), inW hw _ (by decide +kernel)]
  obtain ⟨place, tok⟩ := pt
  refine ite2 (fun c1 => ?_) fun c1 => ?_
  · have c1 : (VasedBase.tokEq tok (.name (word "all")) || (VasedBase.tokEq tok (.name (word "last")) || false)) = true := c1
    refine ⟨_, rfl, q, _, _, _, rfl, S2.ta, small (m := 10) (by show 1 ≤ 10; decide), fun p hp => ?_⟩
    have S3 := S2.same (Same.new (o := HO.tup [vS (toldOf tok)]) hp)
    have h3p : upd H2 p (HO.tup [vS (toldOf tok)]) p = some (HO.tup [vS (toldOf tok)]) := upd_same
    rw [Bool.or_false] at c1
    obtain c1 | c1 := Bool.or_eq_true_iff.mp c1
    · obtain rfl := tokEq_name c1
      rw [show plainAddr (⟨place, .name (word "all")⟩ :: R.l.drop (k + 1)) = .ok (.all, R.l.drop (k + 1)) from rfl] at kq
      exact kq (k + 1) _ rfl S3.kp (S3.trd hR (hlt rfl)) _ _ (Same.refl _) ⟨p, rfl, h3p.trans (by rw [show vS (toldOf (.name (word "all"))) = V.str (Str.ofString "all") by decide +kernel])⟩
    · obtain rfl := tokEq_name c1
      rw [show plainAddr (⟨place, .name (word "last")⟩ :: R.l.drop (k + 1)) = .ok (.last, R.l.drop (k + 1)) from rfl] at kq
      exact kq (k + 1) _ rfl S3.kp (S3.trd hR (hlt rfl)) _ _ (Same.refl _) ⟨p, rfl, h3p.trans (by rw [show vS (toldOf (.name (word "last"))) = V.str (Str.ofString "last") by decide +kernel])⟩
  have c1 : ¬ (VasedBase.tokEq tok (.name (word "all")) || (VasedBase.tokEq tok (.name (word "last")) || false)) = true := c1
  rw [Bool.or_false, Bool.or_eq_true_iff, not_or] at c1
  -- has, is
  refine ⟨_, rfl, q, _, _, _, rfl, S2.ta, small (m := 10) (by show 2 ≤ 10; decide), fun p2 hp2 => ⟨p2, _, rfl, .inr (SqT.of upd_same), rfl, rfl, _, rfl, ?_⟩⟩
  have S3 := S2.same (Same.new (o := HO.tup [V.str (Str.ofString "has"), V.str (Str.ofString "is")]) hp2)
  generalize upd H2 p2 (HO.tup [V.str (Str.ofString "has"), V.str (Str.ofString "is")]) = H3 at *
  show if (if false = true then !inV (vS (toldOf tok)) (["has", "is"].map fun s => V.str (Str.ofString s)) else inV (vS (toldOf tok)) (["has", "is"].map fun s => V.str (Str.ofString s))) = true then _ else _
  rw [if_neg (show ¬ false = true from Bool.false_ne_true), inW hw _ (by decide +kernel)]
  refine ite2 (fun c2 => ?_) fun c2 => ?_
  · have c2 : (VasedBase.tokEq tok (.name (word "has")) || (VasedBase.tokEq tok (.name (word "is")) || false)) = true := c2
    rw [Bool.or_false] at c2
    obtain c2 | c2 := Bool.or_eq_true_iff.mp c2
    · obtain rfl := tokEq_name c2
      rw [show plainAddr (⟨place, .name (word "has")⟩ :: R.l.drop (k + 1)) = (takeLetters (R.l.drop (k + 1))).map fun x => (.has x.1, x.2) from rfl] at kq
      refine ⟨_, rfl, q, _, _, _, rfl, S3.ta, _, rfl, R, k + 1, rfl, S3.trd hR (hlt rfl), (kq.map.from S3.kp (S3.trd hR (hlt rfl))).imp fun w j H' _ _ g => ?_⟩
      refine ⟨small (m := 10) (by show 2 ≤ 10; decide), fun p hp => g _ _ (Same.new hp) ⟨p, rfl, upd_same.trans (congrArg (fun x => some (HO.tup [x, vS w])) (show vS (toldOf (.name (word "has"))) = V.str (Str.ofString "has") by decide +kernel))⟩⟩
    · obtain rfl := tokEq_name c2
      rw [show plainAddr (⟨place, .name (word "is")⟩ :: R.l.drop (k + 1)) = (takeLetters (R.l.drop (k + 1))).map fun x => (.is_ x.1, x.2) from rfl] at kq
      refine ⟨_, rfl, q, _, _, _, rfl, S3.ta, _, rfl, R, k + 1, rfl, S3.trd hR (hlt rfl), (kq.map.from S3.kp (S3.trd hR (hlt rfl))).imp fun w j H' _ _ g => ?_⟩
      refine ⟨small (m := 10) (by show 2 ≤ 10; decide), fun p hp => g _ _ (Same.new hp) ⟨p, rfl, upd_same.trans (congrArg (fun x => some (HO.tup [x, vS w])) (show vS (toldOf (.name (word "is"))) = V.str (Str.ofString "is") by decide +kernel))⟩⟩
  have c2 : ¬ (VasedBase.tokEq tok (.name (word "has")) || (VasedBase.tokEq tok (.name (word "is")) || false)) = true := c2
  rw [Bool.or_false, Bool.or_eq_true_iff, not_or] at c2
  -- line
  refine ⟨_, rfl, q, _, _, _, rfl, S3.ta, rfl, _, rfl, ?_⟩
  show if decide (vS (toldOf tok) = V.str (Str.ofString "line")) = true then _ else _
  rw [eqWd hw "line" (by decide +kernel)]
  refine ite2 (fun c3 => ?_) fun c3 => ?_
  · obtain rfl := tokEq_name c3
    rw [show plainAddr (⟨place, .name (word "line")⟩ :: R.l.drop (k + 1)) = (takeNum 1 99 (R.l.drop (k + 1))).map fun x => (.line x.1, x.2) from rfl] at kq
    refine ⟨_, rfl, R, k + 1, 1, 99, rfl, S3.trd hR (hlt rfl), (kq.map.from S3.kp (S3.trd hR (hlt rfl))).imp fun n j H' _ _ g => ?_⟩
    exact ⟨small (m := 10) (by show 2 ≤ 10; decide), fun p hp => g _ _ (Same.new hp) ⟨p, rfl, upd_same⟩⟩
  -- from
  refine ⟨_, rfl, q, _, _, _, rfl, S3.ta, rfl, _, rfl, ?_⟩
  show if decide (vS (toldOf tok) = V.str (Str.ofString "from")) = true then _ else _
  rw [eqWd hw "from" (by decide +kernel)]
  refine ite2 (fun c4 => ?_) fun c4 => ?_
  · obtain rfl := tokEq_name c4
    rw [show plainAddr (⟨place, .name (word "from")⟩ :: R.l.drop (k + 1)) = (takeNum 1 99 (R.l.drop (k + 1))).bind fun x => (VasedBase.takeWord "to" x.2).bind fun l => (takeNum x.1 99 l).map fun y => (.span x.1 y.1, y.2) from rfl] at kq
    refine ⟨_, rfl, R, k + 1, 1, 99, rfl, S3.trd hR (hlt rfl), (kq.bind.from S3.kp (S3.trd hR (hlt rfl))).imp fun n j H4 _ t4 g => ?_⟩
    have g : Pst (((VasedBase.taken (.name (word "to")) (R.l.drop j)).map fun m => ((), m)).bind fun p => (takeNum n 99 p.2).map fun y => (Vaseda.Addr.span n y.1, y.2)) K R H4 E (fun a _ H' => ∀ H2 v, Same H' H2 → RepA H2 v a → Q v H2) := by
      have g : Pst ((VasedBase.takeWord "to" (R.l.drop j)).bind fun l => (takeNum n 99 l).map fun y => (Vaseda.Addr.span n y.1, y.2)) K R H4 E (fun a _ H' => ∀ H2 v, Same H' H2 → RepA H2 v a → Q v H2) := g
      have e : VasedBase.takeWord "to" (R.l.drop j) = VasedBase.taken (.name (word "to")) (R.l.drop j) := rfl
      rw [e] at g
      generalize VasedBase.taken (.name (word "to")) (R.l.drop j) = x at *
      cases x with
      | error f => exact g
      | ok m => exact g
    refine ⟨_, rfl, R, j, word "to", .name (word "to"), ?_, t4, (by intro z; cases z), fun tk hk => ?_, g.bind.imp fun _ j2 H5 s5 t5 g2 => ?_⟩
    · rw [show vS (word "to") = V.str (Str.ofString "to") by decide +kernel]
    · obtain ⟨a, b⟩ := word_let "to" (by decide +kernel)
      exact told_word hk a b
    · refine ⟨_, rfl, _, rfl, _, rfl, R, j2, n, 99, rfl, t5, (Pst.map g2).imp fun m j3 H6 _ _ g3 => ?_⟩
      exact ⟨small (m := 10) (by show 4 ≤ 10; decide), fun p hp => g3 _ _ (Same.new hp) ⟨p, rfl, upd_same⟩⟩
  -- nothing
  have e : plainAddr (⟨place, tok⟩ :: R.l.drop (k + 1)) = wrong (⟨place, tok⟩ :: R.l.drop (k + 1)) := by
    have n0 : ∀ {s : String}, ¬ VasedBase.tokEq tok (.name (word s)) = true → ¬ nextWord s (⟨place, tok⟩ :: R.l.drop (k + 1)) = true := fun h => h
    unfold plainAddr
    rw [if_neg (n0 c1.1), if_neg (n0 c3), if_neg (n0 c4), if_neg (n0 c1.2), if_neg (n0 c2.1), if_neg (n0 c2.2)]
  rw [e] at kq
  have kq : FltR K R.r H E 3 place := kq
  exact ⟨_, rfl, q, _, _, _, rfl, S3.ta, fault_in (kq.make S3.kp S3.ne)⟩
end
end Ls
set_option Elab.async false
set_option linter.all false
set_option maxRecDepth 100000
set_option maxHeartbeats 4000000
/-! parsing: read_address -/
namespace Ls
open PySem PySem.Spec PyProof.Rows L2
open VasedBase (isBlank isDigit isLetter decimal numberOf showNat PTok Toks word nextWord wrong)
open Vaseda (takeNum takeLetters takeAddr)
def nN : Nat → VAddr → VAddr
  | 0, a => a
  | n + 1, a => nN n (.not a)
theorem addr_chain (f n : Nat) (l : Toks) : takeAddr (f + 1) n l = if nextWord "all" l = true then .ok (.all, l.drop 1)
  else if nextWord "line" l = true then (takeNum 1 99 (l.drop 1)).map fun x => (.line x.1, x.2)
  else if nextWord "from" l = true then (takeNum 1 99 (l.drop 1)).bind fun x => (VasedBase.takeWord "to" x.2).bind fun l => (takeNum x.1 99 l).map fun y => (.span x.1 y.1, y.2)
  else if nextWord "last" l = true then .ok (.last, l.drop 1)
  else if nextWord "has" l = true then (takeLetters (l.drop 1)).map fun x => (.has x.1, x.2)
  else if nextWord "is" l = true then (takeLetters (l.drop 1)).map fun x => (.is_ x.1, x.2)
  else if nextWord "not" l = true then (if 3 ≤ n then .error ⟨4, VasedBase.here l⟩ else (takeAddr f (n + 1) (l.drop 1)).map fun x => (.not x.1, x.2))
  else wrong l := rfl
theorem addr_step (f n : Nat) (l : Toks) : takeAddr (f + 1) n l = if nextWord "not" l = true then (if 3 ≤ n then .error ⟨4, VasedBase.here l⟩ else (takeAddr f (n + 1) (l.drop 1)).map fun x => (.not x.1, x.2)) else plainAddr l := by
  rw [addr_chain]
  by_cases h : nextWord "not" l = true
  · rw [if_pos h, if_pos h]
    cases l with
    | nil => cases h
    | cons pt r =>
      obtain ⟨p, tok⟩ := pt
      have h' : VasedBase.tokEq tok (.name (word "not")) = true := h
      obtain rfl := tokEq_name h'
      have nn : ∀ s : String, (word "not" == word s) = false → ¬ nextWord s (⟨p, .name (word "not")⟩ :: r) = true := fun s e h => by
        rw [show nextWord s (⟨p, .name (word "not")⟩ :: r) = (word "not" == word s) from rfl, e] at h
        cases h
      rw [if_neg (nn "all" (by decide +kernel)), if_neg (nn "line" (by decide +kernel)), if_neg (nn "from" (by decide +kernel)), if_neg (nn "last" (by decide +kernel)), if_neg (nn "has" (by decide +kernel)), if_neg (nn "is" (by decide +kernel))]
  · rw [if_neg h, if_neg h]
    rfl
def spAddress (K : PySem.W.Frag) : Sp := fun vs H Q E => ∃ (R : RD) (k f : Nat), vs = [.ref R.r] ∧ TRd K H R k ∧ (R.l.drop k).length < f ∧ Pst (takeAddr f 0 (R.l.drop k)) K R H E (fun a _ H' => ∀ H2 v, Same H' H2 → RepA H2 v a → Q v H2)
section
variable {P : Program} {w : World} {K : PySem.W.Frag} {mg : Str → Option Value} {base : Heap}
theorem sc_read_address : FnScope ["reader", "nots", "token", "address"] ["reader"] (defScope s_read_address) := ⟨rfl, rfl, rfl, by decide +kernel, rfl, by decide +kernel, by decide +kernel⟩
theorem ok_read_address (T : Txt K mg) : DOk P w K mg base (L2.CX P w) 5 "read_address" (spAddress K) := by
  obtain ⟨fd, F⟩ := T.f_read_address
  have sc := sc_read_address
  have K_TokenReader_read_token := ok_read_token (P := P) (w := w) (base := base) T
  have K_TokenReader_coming := ok_coming (P := P) (w := w) (base := base) T
  have K_read_plain_address := ok_plain_address (P := P) (w := w) (base := base) T
  obtain ⟨_, c_NOTS_AT_MOST⟩ := T.v_NOTS_AT_MOST; obtain ⟨_, c_TOO_MANY⟩ := T.v_TOO_MANY
  refine dok F T.g_read_address (fun _ _ _ _ _ _ us hl => match us, hl with | [_], _ => rfl) sc (fun vs H Q E h => by obtain ⟨_, _, _, rfl, _⟩ := h; rfl) (fun cdv A outer s H vs Q E hr h => ?_)
  refine ⟨_, (pss_cons (ps_set (i := 1) sc.nd rfl (Or.inl rfl) pe_int)
  (pss_cons (ps_while (passes_of rfl) (pt_cmpR op_eq (pe_told rfl T (pe_mt0 (pv 0) K_TokenReader_coming hr (by first | decide | omega))) pe_str (nomark _))
  (pss_cons (ps_set (i := 2) sc.nd rfl (Or.inl rfl) (pe_mt0 (pv 0) K_TokenReader_read_token hr (by first | decide | omega)))
    (pss_cons (ps_if (pt_cmpR op_eq (pv 1) (pe_glob (v := .int (3)) rfl c_NOTS_AT_MOST ⟨_, rfl⟩) (nomark _))
    (pss_one (ps_raise rfl (takes_of rfl rfl rfl rfl) (pmk_fault rfl T hr (by first | decide | omega) rfl (pa_cons (pe_glob (v := .int (4)) rfl c_TOO_MANY ⟨_, rfl⟩) (pa_cons (pe_tplace rfl T (pv 2)) pa_nil)))))
    pss_nil)
    (pss_one (ps_aug (i := 1) sc.nd rfl (Or.inl rfl) pe_int ip_add)))))
  (pss_cons (ps_set (i := 3) sc.nd rfl (Or.inl rfl) (pe_dS K_read_plain_address hr (by first | decide | omega) rfl (takes_of rfl rfl rfl rfl) (pa_cons (pv 0) pa_nil)))
  (pss_cons (ps_while (passes_of rfl) (pt_cmpR op_gt (pv 1) pe_int (nomark _))
  (pss_cons (ps_set (i := 3) sc.nd rfl (Or.inl rfl) (pe_tup (pa_cons pe_str (pa_cons (pv 3) pa_nil))))
    (pss_one (ps_aug (i := 1) sc.nd rfl (Or.inl rfl) pe_int ip_sub))))
  (pss_one (ps_ret (pv 3))))))), ?_⟩
  obtain ⟨R, k, f, rfl, hR, hf, kq⟩ := h
  refine ⟨fun m σ H' => ∃ (n k f : Nat) (v2 : Option V), σ = [some (.ref R.r), some (.int (n : Nat)), v2, none] ∧ TRd K H' R k ∧ n ≤ 3 ∧ (R.l.drop k).length < f ∧ m = R.l.length - k ∧
    Pst (takeAddr f n (R.l.drop k)) K R H' E (fun a _ H' => ∀ H2 v, Same H' H2 → RepA H2 v (nN n a) → Q v H2), ⟨_, 0, k, f, none, rfl, hR, by decide, hf, rfl, kq⟩, ?_⟩
  rintro m σ H1 ⟨n, k, f, v2, rfl, hR, hn, hf, rfl, kq⟩
  obtain ⟨pt, q, t, h1, h2, h3, h4, h5, h6⟩ := hR.at
  have hw : pt.tok = .last ∨ WfT pt.tok := h6.imp (fun z => z) (fun z => z.2)
  cases f with
  | zero => exact absurd hf (Nat.not_lt_zero _)
  | succ f =>
  rw [addr_step, h5] at kq
  refine ⟨_, rfl, R.r, R.dx, _, rfl, hR.ob, rfl, R, k, rfl, hR, fun q' hq => ?_⟩
  rw [h2] at hq
  obtain rfl : q = q' := by injection hq with hq; injection hq
  refine ⟨q, _, _, _, rfl, h4, rfl, _, rfl, ?_⟩
  show if decide (vS (toldOf pt.tok) = V.str (Str.ofString "not")) = true then _ else _
  rw [eqWd hw "not" (by decide +kernel)]
  have kq : Pst (if VasedBase.tokEq pt.tok (.name (word "not")) = true then (if 3 ≤ n then .error ⟨4, pt.place⟩ else (takeAddr f (n + 1) (R.l.drop (k + 1))).map fun x => (Vaseda.Addr.not x.1, x.2)) else plainAddr (pt :: R.l.drop (k + 1))) K R H1 E (fun a _ H' => ∀ H2 v, Same H' H2 → RepA H2 v (nN n a) → Q v H2) := kq
  refine ite2 (fun c1 => ?_) fun c1 => ?_
  · rw [if_pos c1] at kq
    have hlt : k + 1 < R.l.length := by
      obtain z | z := h6
      · rw [z] at c1; cases c1
      · exact z.1
    refine ⟨fun σ' H' => ∃ q', σ' = [some (.ref R.r), some (.int ((n + 1 : Nat) : Int)), some (.ref q'), none] ∧ TRd K H' R (k + 1) ∧ n + 1 ≤ 3 ∧ Pst (takeAddr f (n + 1) (R.l.drop (k + 1))) K R H' E (fun a _ H' => ∀ H2 v, Same H' H2 → RepA H2 v (nN (n + 1) a) → Q v H2), ?_, ?_⟩
    · rintro σ' H' ⟨q', rfl, hR', hn', kq'⟩
      refine ⟨R.l.length - (k + 1), by omega, n + 1, k + 1, f, _, rfl, hR', hn', ?_, rfl, kq'⟩
      rw [List.length_drop] at hf ⊢
      omega
    refine ⟨_, rfl, R.r, R.dx, _, rfl, hR.ob, rfl, R, k, rfl, hR, fun q' H2 hq s1 e1 => ?_⟩
    rw [h2] at hq
    obtain rfl : q = q' := by injection hq with hq; injection hq
    have S1 := SR.of hR h4 s1 e1
    refine ⟨_, rfl, rfl, _, rfl, ?_⟩
    show if decide (V.int (n : Nat) = V.int (3 : Int)) = true then _ else _
    by_cases c2 : n = 3
    · subst c2
      rw [if_pos (decide_eq_true (p := V.int ((3 : Nat) : Int) = V.int (3 : Int)) rfl)]
      rw [if_pos (Nat.le_refl _)] at kq
      have kq : FltR K R.r H1 E 4 pt.place := kq
      exact ⟨_, rfl, q, _, _, _, rfl, S1.ta, fault_in (kq.make S1.kp S1.ne)⟩
    · rw [if_neg (by rw [decide_eq_true_eq]; intro z; injection z with z; omega)]
      rw [if_neg (by omega)] at kq
      exact ⟨_, rfl, _, _, rfl, rfl, q, rfl, S1.trd hR hlt, by omega, kq.map.from S1.kp (S1.trd hR hlt)⟩
  · rw [if_neg c1] at kq
    refine ⟨_, rfl, R, k, rfl, hR, ?_⟩
    rw [h5]
    refine kq.imp fun a j H2 s2 t2 g => ?_
    intro H3 v s3 ra
    refine ⟨fun m σ H' => ∃ (n' : Nat) (v' : V) (a' : VAddr), σ = [some (.ref R.r), some (.int (n' : Nat)), v2, some v'] ∧ RepA H' v' a' ∧ nN n' a' = nN n a ∧ Same H2 H' ∧ m = n', ⟨n, n, v, a, rfl, ra, rfl, s3, rfl⟩, ?_⟩
    rintro m σ H4 ⟨n', v', a', rfl, ra', e, s4, rfl⟩
    refine ⟨_, rfl, _, _, rfl, rfl, _, rfl, ite2 (fun c2 => ?_) fun c2 => ?_⟩
    · have d2 : (0 : Int) < (m : Nat) := of_decide_eq_true c2
      obtain ⟨j', rfl⟩ : ∃ j', m = j' + 1 := ⟨m - 1, by omega⟩
      refine ⟨fun σ' H' => ∃ p, σ' = [some (.ref R.r), some (.int ((j' : Nat) : Int)), v2, some (.ref p)] ∧ H' = upd H4 p (.tup [.str "not", v']) ∧ H4 p = none, ?_, ?_⟩
      · rintro σ' H' ⟨p, rfl, rfl, hp⟩
        have sn := Same.new (o := HO.tup [V.str (Str.ofString "not"), v']) hp
        exact ⟨j', by omega, j', .ref p, .not a', rfl, ⟨p, v', rfl, upd_same, ra'.mono (Same.tups sn)⟩, e, s4.trans sn, rfl⟩
      · refine ⟨_, rfl, small (m := 10) (by show 2 ≤ 10; decide), fun p hp => ⟨_, rfl, _, _, rfl, rfl, p, ?_, rfl, hp⟩⟩
        show [some (V.ref R.r), some (V.int (((j' + 1 : Nat) : Int) - 1)), v2, some (V.ref p)] = _
        rw [show ((j' + 1 : Nat) : Int) - 1 = ((j' : Nat) : Int) by omega]
    · have d2 : ¬ (0 : Int) < (m : Nat) := fun z => c2 (decide_eq_true z)
      obtain rfl : m = 0 := by omega
      refine ⟨_, rfl, g H4 v' s4 ?_⟩
      rw [← e]
      exact ra'
end
end Ls
set_option Elab.async false
set_option linter.all false
set_option maxRecDepth 100000
set_option maxHeartbeats 4000000
/-! parsing: read_deed -/
namespace Ls
open PySem PySem.Spec PyProof.Rows L2
open VasedBase (isBlank isDigit isLetter decimal numberOf showNat PTok Toks word nextWord wrong)
open Vaseda (takeNum takeLetters takeAddr takeDeed takeTwo takeInstead)
theorem Pst.imp2 {α : Type} {x : Except VasedBase.Fault (α × Toks)} {K : PySem.W.Frag} {R : RD} {H : Hp} {E : XK} {g g' : α → Nat → Hp → Prop} (h : Pst x K R H E g) (k : ∀ v j H', x = .ok (v, R.l.drop j) → KpO R.r H H' → TRd K H' R j → g v j H' → g' v j H') : Pst x K R H E g' := by
  cases x with
  | error f => exact h
  | ok p =>
    obtain ⟨v, rest⟩ := p
    exact fun j H' e s t => k v j H' (by rw [e]) s t (h j H' e s t)
theorem letters_one {l : Toks} {w : Ln} {r : Toks} (h : takeLetters l = .ok (w, r)) : ∃ pt, l = pt :: r := by
  cases l with
  | nil => cases h
  | cons pt l =>
    obtain ⟨p, tok⟩ := pt
    cases tok with
    | name b =>
      have h : ((if VasedBase.RESERVED.contains b = true then wrong (⟨p, .name b⟩ :: l) else .ok ((⟨p, b⟩ : VasedBase.PName), l)).map fun x => (x.1.name, x.2)) = .ok (w, r) := h
      split at h
      · cases h
      · cases h
        exact ⟨_, rfl⟩
    | num n => cases h
    | sign c => cases h
    | last => cases h
section
variable {X : Cx} {pins : List (Addr × Obj)} {σ : L2.St} {H : Hp} {s : Shared}
/-- return e, told as it is -/
theorem retV {e : Expr} {t : TE} {pos : Pos} {Q : WK} (h : PE X e t) (I : Inv X [] σ H s) (q : t σ H fun v H' => ∀ u s1, RelV v u → Q u s1 H') : wpAny (model X.prog X.w) X.A (execs [.Return (some e) pos] X.env) (fun f s2 => BW X Q f s2 ∧ f ≠ .next) X.xe s := by
  refine wpAny_execs_cons (wpAny_Return_some (thn (h.run [] s σ H _ I q) ?_))
  rintro u s1 ⟨v, H1, I1, r1, q1⟩
  exact ⟨⟨σ, H1, I1, q1 u s1 r1⟩, by intro z; cases z⟩
end
theorem addr_no {s : String} {place : Nat} {tok : VTok} {r : Toks} (h : ¬ VasedBase.tokEq tok (.name (word s)) = true) : ¬ nextWord s (⟨place, tok⟩ :: r) = true := h
def spDeedW (K : PySem.W.Frag) : SpW := fun vs _ s H Q E => ∃ (R : RD) (k : Nat), vs = [.ref R.r] ∧ TRd K H R k ∧ Inc R.ts s.toks ∧ Pst (takeDeed (R.l.drop k)) K R H E (fun d _ H' => ∀ H2 p s1, Same H' H2 → RepD H2 (.ref p) d → Q (.ref p) s1 H2)
section
variable {P : Program} {w : World} {K : PySem.W.Frag} {mg : Str → Option Value} {base : Heap}
theorem sc_read_deed : FnScope ["reader", "token", "letters"] ["reader"] (defScope s_read_deed) := ⟨rfl, rfl, rfl, by decide +kernel, rfl, by decide +kernel, by decide +kernel⟩
theorem ok_read_deed (T : Txt K mg) : DOkW P w K mg base (L2.CX P w) 5 "read_deed" (spDeedW K) := by
  obtain ⟨fd, F⟩ := T.f_read_deed
  have sc := sc_read_deed
  have K_TokenReader_read_token := ok_read_token (P := P) (w := w) (base := base) T
  have K_read_letters := ok_read_letters (P := P) (w := w) (base := base) T
  have KW_read_letters := okW_read_letters (P := P) (w := w) (base := base) T
  have KW_instead := okW_instead (P := P) (w := w) (base := base) T
  have K_read_bounded := ok_read_bounded (P := P) (w := w) (base := base) T
  obtain ⟨_, c_GREATEST_SKIP⟩ := T.v_GREATEST_SKIP; obtain ⟨_, c_NOT_ALLOWED⟩ := T.v_NOT_ALLOWED
  refine dokW F T.g_read_deed (fun _ _ _ _ _ _ us hl => match us, hl with | [_], _ => rfl) sc (fun vs us s H Q E h => by obtain ⟨_, _, rfl, _⟩ := h; rfl) (fun cdv A outer s H vs us Q E s1 hr r h ht I hh => ?_)
  obtain ⟨R, k, rfl, hR, hi, kq⟩ := h
  clear r hh
  obtain ⟨pt, q, t, h1, h2, h3, h4, h5, h6⟩ := hR.at
  have hw : pt.tok = .last ∨ WfT pt.tok := h6.imp (fun z => z) (fun z => z.2)
  have hlt : ∀ {w : Ln}, pt.tok = .name w → k + 1 < R.l.length := fun e => by
    obtain z | z := h6
    · rw [e] at z; cases z
    · exact z.1
  rw [h5] at kq
  obtain ⟨place, tok⟩ := pt
  refine seqW (N := fun σ' H1 => σ' = [some (.ref R.r), some (.ref q), none] ∧ SR K R k q (sOf (toldOf tok)) t place H H1)
    (ps_set (i := 1) sc.nd rfl (Or.inl rfl) (pe_mt0 (pv 0) K_TokenReader_read_token hr (by first | decide | omega))) I ?_ ?_
  · refine ⟨_, rfl, R.r, R.dx, _, rfl, hR.ob, rfl, R, k, rfl, hR, fun q' H1 hq s1 e1 => ?_⟩
    rw [h2] at hq
    obtain rfl : q = q' := by injection hq with hq; injection hq
    exact ⟨rfl, SR.of hR h4 s1 e1⟩
  rintro s2 _ H1 k2 I2 ⟨rfl, S1⟩
  -- delete, keep, bring, trade, stop
  refine ifW' (N := fun d H' => SR K R k q (sOf (toldOf tok)) t place H H' ∧ d = ["delete", "keep", "bring", "trade", "stop"].any fun s => VasedBase.tokEq tok (.name (word s)))
    (pt_cmpR (op_inK (K := K) rfl) (pe_told rfl T (pv 1)) (pe_tup (pa_cons pe_str (pa_cons pe_str (pa_cons pe_str (pa_cons pe_str (pa_cons pe_str pa_nil)))))) rfl) I2 ?_ ?_ ?_
  · refine ⟨_, rfl, q, _, _, _, rfl, S1.ta, small (m := 10) (by show 5 ≤ 10; decide), fun p1 hp1 => ⟨p1, _, rfl, .inr (SqT.of upd_same), rfl, rfl, _, rfl, S1.same (Same.new hp1), ?_⟩⟩
    rw [← inW hw _ (by decide +kernel)]
    rfl
  · rintro s3 H3 k3 I3 ⟨S3, e3⟩
    refine retV (pe_tup (pa_cons (pe_told rfl T (pv 1)) pa_nil)) I3 ?_
    refine ⟨_, rfl, q, _, _, _, rfl, S3.ta, small (m := 10) (by show 1 ≤ 10; decide), fun p hp u s4 ru => ?_⟩
    obtain rfl : u = Value.ref p := ru
    have S4 := S3.same (Same.new (o := HO.tup [vS (toldOf tok)]) hp)
    have h4p : upd H3 p (HO.tup [vS (toldOf tok)]) p = some (HO.tup [vS (toldOf tok)]) := upd_same
    have fin : ∀ (nm : String) (d : VDeed), VasedBase.tokEq tok (.name (word nm)) = true → repl d = false → dItems d = [V.str (Str.ofString nm)] → V.str (Str.ofString nm) = vS (word nm) → takeDeed (⟨place, .name (word nm)⟩ :: R.l.drop (k + 1)) = .ok (d, R.l.drop (k + 1)) → Q (.ref p) s4 (upd H3 p (HO.tup [vS (toldOf tok)])) := by
      intro nm d hc hd hit hnm htk
      obtain rfl := tokEq_name hc
      rw [htk] at kq
      refine kq (k + 1) _ rfl S4.kp (S4.trd hR (hlt rfl)) _ p s4 (Same.refl _) ⟨p, rfl, ?_⟩
      rw [if_neg (by rw [hd]; exact Bool.false_ne_true), hit, hnm]
      exact h4p
    have e3 : (VasedBase.tokEq tok (.name (word "delete")) || (VasedBase.tokEq tok (.name (word "keep")) || (VasedBase.tokEq tok (.name (word "bring")) || (VasedBase.tokEq tok (.name (word "trade")) || (VasedBase.tokEq tok (.name (word "stop")) || false))))) = true := e3.symm
    obtain c | e3 := Bool.or_eq_true_iff.mp e3
    · exact fin "delete" .delete c rfl rfl (by decide +kernel) rfl
    obtain c | e3 := Bool.or_eq_true_iff.mp e3
    · exact fin "keep" .keep c rfl rfl (by decide +kernel) rfl
    obtain c | e3 := Bool.or_eq_true_iff.mp e3
    · exact fin "bring" .bring c rfl rfl (by decide +kernel) rfl
    obtain c | e3 := Bool.or_eq_true_iff.mp e3
    · exact fin "trade" .trade c rfl rfl (by decide +kernel) rfl
    obtain c | e3 := Bool.or_eq_true_iff.mp e3
    · exact fin "stop" .halt_ c rfl rfl (by decide +kernel) rfl
    cases e3
  rintro s3 H3 k3 I3 ⟨S3, e3⟩
  have e3 : false = (VasedBase.tokEq tok (.name (word "delete")) || (VasedBase.tokEq tok (.name (word "keep")) || (VasedBase.tokEq tok (.name (word "bring")) || (VasedBase.tokEq tok (.name (word "trade")) || (VasedBase.tokEq tok (.name (word "stop")) || false))))) := e3
  have n1 : ¬ VasedBase.tokEq tok (.name (word "delete")) = true ∧ ¬ VasedBase.tokEq tok (.name (word "keep")) = true ∧ ¬ VasedBase.tokEq tok (.name (word "bring")) = true ∧ ¬ VasedBase.tokEq tok (.name (word "trade")) = true ∧ ¬ VasedBase.tokEq tok (.name (word "stop")) = true := by
    refine ⟨?_, ?_, ?_, ?_, ?_⟩ <;> intro z <;> rw [z] at e3 <;> simp at e3
  clear e3
  -- before, after, change
  refine ifW' (N := fun d H' => SR K R k q (sOf (toldOf tok)) t place H H' ∧ d = ["before", "after", "change"].any fun s => VasedBase.tokEq tok (.name (word s)))
    (pt_cmpR (op_inK (K := K) rfl) (pe_told rfl T (pv 1)) (pe_tup (pa_cons pe_str (pa_cons pe_str (pa_cons pe_str pa_nil)))) rfl) I3 ?_ ?_ ?_
  · refine ⟨_, rfl, q, _, _, _, rfl, S3.ta, small (m := 10) (by show 3 ≤ 10; decide), fun p1 hp1 => ⟨p1, _, rfl, .inr (SqT.of upd_same), rfl, rfl, _, rfl, S3.same (Same.new hp1), ?_⟩⟩
    rw [← inW hw _ (by decide +kernel)]
    rfl
  · rintro s4 H4 k4 I4 ⟨S4, e4⟩
    refine retV (pe_tup (pa_cons (pe_told rfl T (pv 1)) (pa_cons (pe_dS K_read_letters hr (by first | decide | omega) rfl (takes_of rfl rfl rfl rfl) (pa_cons (pv 0) pa_nil)) pa_nil))) I4 ?_
    refine ⟨_, rfl, q, _, _, _, rfl, S4.ta, _, rfl, ?_⟩
    have fin : ∀ (nm : String) (d : Ln → VDeed), VasedBase.tokEq tok (.name (word nm)) = true → (∀ w, repl (d w) = false) → (∀ w, dItems (d w) = [V.str (Str.ofString nm), vS w]) → V.str (Str.ofString nm) = vS (word nm) →
        (takeDeed (⟨place, .name (word nm)⟩ :: R.l.drop (k + 1)) = (takeLetters (R.l.drop (k + 1))).map fun x => (d x.1, x.2)) →
        spLetters K [.ref R.r] H4 (fun y H' => [vS (toldOf tok), y].length ≤ sizeLine ∧ ∀ p, H' p = none → ∀ u s1, RelV (.ref p) u → Q u s1 (upd H' p (.tup [vS (toldOf tok), y]))) E := by
      intro nm d hc hd hit hnm htk
      obtain rfl := tokEq_name hc
      rw [htk] at kq
      refine ⟨R, k + 1, rfl, S4.trd hR (hlt rfl), (kq.map.from S4.kp (S4.trd hR (hlt rfl))).imp fun w j H' _ _ g => ⟨small (m := 10) (by show 2 ≤ 10; decide), fun p hp u s5 ru => ?_⟩⟩
      obtain rfl : u = Value.ref p := ru
      refine g _ p s5 (Same.new hp) ⟨p, rfl, ?_⟩
      rw [if_neg (by rw [hd]; exact Bool.false_ne_true), hit, hnm]
      exact upd_same
    have e4 : (VasedBase.tokEq tok (.name (word "before")) || (VasedBase.tokEq tok (.name (word "after")) || (VasedBase.tokEq tok (.name (word "change")) || false))) = true := e4.symm
    obtain c | e4 := Bool.or_eq_true_iff.mp e4
    · exact fin "before" .before c (fun _ => rfl) (fun _ => rfl) (by decide +kernel) rfl
    obtain c | e4 := Bool.or_eq_true_iff.mp e4
    · exact fin "after" .after c (fun _ => rfl) (fun _ => rfl) (by decide +kernel) rfl
    obtain c | e4 := Bool.or_eq_true_iff.mp e4
    · exact fin "change" .change c (fun _ => rfl) (fun _ => rfl) (by decide +kernel) rfl
    cases e4
  rintro s4 H4 k4 I4 ⟨S4, e4⟩
  have e4 : false = (VasedBase.tokEq tok (.name (word "before")) || (VasedBase.tokEq tok (.name (word "after")) || (VasedBase.tokEq tok (.name (word "change")) || false))) := e4
  have n2 : ¬ VasedBase.tokEq tok (.name (word "before")) = true ∧ ¬ VasedBase.tokEq tok (.name (word "after")) = true ∧ ¬ VasedBase.tokEq tok (.name (word "change")) = true := by
    refine ⟨?_, ?_, ?_⟩ <;> intro z <;> rw [z] at e4 <;> simp at e4
  clear e4
  -- swap, first
  refine ifW' (N := fun d H' => SR K R k q (sOf (toldOf tok)) t place H H' ∧ d = ["swap", "first"].any fun s => VasedBase.tokEq tok (.name (word s)))
    (pt_cmpR (op_inK (K := K) rfl) (pe_told rfl T (pv 1)) (pe_tup (pa_cons pe_str (pa_cons pe_str pa_nil))) rfl) I4 ?_ ?_ ?_
  · refine ⟨_, rfl, q, _, _, _, rfl, S4.ta, small (m := 10) (by show 2 ≤ 10; decide), fun p1 hp1 => ⟨p1, _, rfl, .inr (SqT.of upd_same), rfl, rfl, _, rfl, S4.same (Same.new hp1), ?_⟩⟩
    rw [← inW hw _ (by decide +kernel)]
    rfl
  · rintro s5 H5 k5 I5 ⟨S5, e5⟩
    have e5 : (VasedBase.tokEq tok (.name (word "swap")) || (VasedBase.tokEq tok (.name (word "first")) || false)) = true := e5.symm
    obtain ⟨nm, f, hc, hrep, hit, hnm, htk⟩ : ∃ (nm : String) (f : Ln → Ln → VDeed), VasedBase.tokEq tok (.name (word nm)) = true ∧ (∀ a b, repl (f a b) = true) ∧ (∀ a b, dItems (f a b) = [V.str (Str.ofString nm), vS a, vS b]) ∧ V.str (Str.ofString nm) = vS (word nm) ∧
        takeDeed (⟨place, .name (word nm)⟩ :: R.l.drop (k + 1)) = takeTwo f (R.l.drop (k + 1)) := by
      obtain c | e5 := Bool.or_eq_true_iff.mp e5
      · exact ⟨"swap", .swap, c, fun _ _ => rfl, fun _ _ => rfl, by decide +kernel, rfl⟩
      obtain c | e5 := Bool.or_eq_true_iff.mp e5
      · exact ⟨"first", .first, c, fun _ _ => rfl, fun _ _ => rfl, by decide +kernel, rfl⟩
      cases e5
    obtain rfl := tokEq_name hc
    rw [htk] at kq
    have hk1 := hlt rfl
    have kq : Pst ((takeLetters (R.l.drop (k + 1))).bind fun x => (takeInstead x.2).map fun y => (f x.1 y.1, y.2)) K R H E (fun d _ H' => ∀ H2 p s1, Same H' H2 → RepD H2 (.ref p) d → Q (.ref p) s1 H2) := kq
    have kq2 := kq.bind.from S5.kp (S5.trd hR hk1)
    refine wpAny_execs_cons (wpAny_Assign_Name (pe_dW (E := E) (Q := fun u s6 H6 => ∃ (w : Ln) (t1 : Nat), u = .str (sOf w) t1 ∧ R.ts[k + 1]? = some t1 ∧ TRd K H6 R (k + 2) ∧ KpO R.r H5 H6 ∧
        Pst (takeInstead (R.l.drop (k + 2))) K R H6 E (fun w2 _ H' => ∀ H2 p s1, Same H' H2 → RepD H2 (.ref p) (f w w2) → Q (.ref p) s1 H2))
      KW_read_letters hr (by decide) rfl (passAt (takes_of rfl rfl rfl rfl) _) (pa_cons (pv 0) pa_nil) I5 ?_ ?_) (by rfl))
    · refine ⟨_, rfl, ?_⟩
      intro us s6 r6 h6
      refine ⟨R, k + 1, rfl, S5.trd hR hk1, kq2.imp2 ?_⟩
      intro w j H' hx s' t' g t1 s7 ht1
      obtain ⟨pt', he⟩ := letters_one hx
      have hl := congrArg List.length he
      have hj := t'.lt
      rw [List.length_cons, List.length_drop, List.length_drop] at hl
      obtain rfl : j = k + 2 := by omega
      exact ⟨w, t1, rfl, ht1, t', s', Pst.map g⟩
    rintro u s6 H6 h6 I6 ⟨w, t1, rfl, ht1, t6, s56, kq3⟩
    have ta6 := S5.ta.mono fun b o u hb => s56 _ _ hb (by
      rintro rfl
      rw [S5.ob] at hb
      cases hb)
    refine put_raw (i := 2) (v := vS w) I6 sc.nd rfl rfl ⟨t1, rfl⟩ ?_
    intro s7 I7 h7 g7 _
    have hi1 := inc_at hi ht1
    refine wpAny_execs_cons (wpAny_Return_some (wpAny_Tuple_spliced ?_))
    show wpAny _ _ (spliced ((false, _) :: (false, _) :: (false, _) :: [])) _ _ _
    refine Calls.spliced_cons (attr_of (by rfl) (raw_name (i := 1) rfl (.inl rfl) I7 rfl ?_))
    rintro _ rfl
    refine told_raw T I7 ta6 ?_
    refine Calls.spliced_cons (has_name (i := 2) rfl I7.ok.kind (g7.keep (LK.tok (Nat.le_succ _))) ?_)
    rintro u rfl
    refine Calls.spliced_cons (pe_dW (E := E) (Q := fun u s8 H8 => ∃ (w2 : Ln) (t2 : Nat), u = .str (sOf w2) t2 ∧ 1 ≤ t2 ∧ t1 ≠ t2 ∧ ∀ H2 p s1, Same H8 H2 → RepD H2 (.ref p) (f w w2) → Q (.ref p) s1 H2)
      KW_instead hr (by decide) rfl (passAt (takes_of rfl rfl rfl rfl) _) (pa_cons (pv 0) pa_nil) (I7.tok _) ?_ ?_)
    · refine ⟨_, rfl, ?_⟩
      intro us s8 r8 h8
      have h8 : s7.toks + 1 ≤ s8.toks := h8
      refine ⟨R, k + 2, rfl, t6, hi.up (by omega), kq3.imp ?_⟩
      intro w2 j H' _ _ g t2 s9 h2 hd
      exact ⟨w2, t2, rfl, h2, hd (k + 1) t1 ht1 (by omega), g⟩
    rintro u s8 H8 h8 I8 ⟨w2, t2, rfl, h2t, hne, g⟩
    have h3s : 3 ≤ sizeLine := by decide
    refine Calls.spliced_nil ⟨h3s, ⟨?_, by intro z; cases z⟩⟩
    have hfr : H8 s8.heap.objs.size = none := I8.hok.fresh (Nat.le_refl _)
    refine ⟨[some (.ref R.r), some (.ref q), some (vS w)], upd H8 s8.heap.objs.size (.frz { cls := .type "tuple", data := .seq #[.str (sOf (toldOf (.name (word nm)))) t, .str (sOf w) t1, .str (sOf w2) t2] } (.tup (dItems (f w w2)))), ?_, ?_⟩
    · refine I8.laid (t' := s8.toks) (fun b u e => Heap.get?_push_of_some _ e) (Nat.le_refl _) ⟨Heap.get?_push_size _ rfl, ?_, [.str (sOf (toldOf (.name (word nm)))) t, .str (sOf w) t1, .str (sOf w2) t2], ?_, IsTup.new s8.heap _⟩
      · rw [hit]
        exact h3s
      · rw [hit, hnm]
        exact .cons ⟨_, rfl⟩ (.cons ⟨_, rfl⟩ (.cons ⟨_, rfl⟩ .nil))
    · refine g _ _ _ (Same.new hfr) ⟨_, rfl, ?_⟩
      rw [if_pos (hrep w w2)]
      exact ⟨_, upd_same, t, t1, t2, _, _, _, 0, rfl, rfl, Nat.ne_of_gt hi1.1, Nat.ne_of_gt h2t, hne⟩
  rintro s5 H5 k5 I5 ⟨S5, e5⟩
  have e5 : false = (VasedBase.tokEq tok (.name (word "swap")) || (VasedBase.tokEq tok (.name (word "first")) || false)) := e5
  have n3 : ¬ VasedBase.tokEq tok (.name (word "swap")) = true ∧ ¬ VasedBase.tokEq tok (.name (word "first")) = true := by
    refine ⟨?_, ?_⟩ <;> intro z <;> rw [z] at e5 <;> simp at e5
  clear e5
  -- skip
  refine ifW' (N := fun d H' => SR K R k q (sOf (toldOf tok)) t place H H' ∧ d = VasedBase.tokEq tok (.name (word "skip")))
    (pt_cmpR op_eq (pe_told rfl T (pv 1)) pe_str (nomark _)) I5 ?_ ?_ ?_
  · exact ⟨_, rfl, q, _, _, _, rfl, S5.ta, rfl, _, rfl, S5, eqWd hw "skip" (by decide +kernel)⟩
  · rintro s6 H6 k6 I6 ⟨S6, e6⟩
    obtain rfl := tokEq_name e6.symm
    rw [show takeDeed (⟨place, .name (word "skip")⟩ :: R.l.drop (k + 1)) = (takeNum 1 9 (R.l.drop (k + 1))).map fun x => (.skip x.1, x.2) from rfl] at kq
    refine retV (pe_tup (pa_cons pe_str (pa_cons (pe_dS K_read_bounded hr (by first | decide | omega) rfl (takes_of rfl rfl rfl rfl) (pa_cons (pv 0) (pa_cons pe_int (pa_cons (pe_glob (v := .int (9)) rfl c_GREATEST_SKIP ⟨_, rfl⟩) pa_nil)))) pa_nil))) I6 ?_
    refine ⟨_, rfl, R, k + 1, 1, 9, rfl, S6.trd hR (hlt rfl), (kq.map.from S6.kp (S6.trd hR (hlt rfl))).imp fun n j H' _ _ g => ⟨small (m := 10) (by show 2 ≤ 10; decide), fun p hp u s7 ru => ?_⟩⟩
    obtain rfl : u = Value.ref p := ru
    refine g _ p s7 (Same.new hp) ⟨p, rfl, ?_⟩
    rw [if_neg (by show ¬ false = true; exact Bool.false_ne_true)]
    exact upd_same
  rintro s6 H6 k6 I6 ⟨S6, e6⟩
  have n4 : ¬ VasedBase.tokEq tok (.name (word "skip")) = true := by rw [← e6]; exact Bool.false_ne_true
  have e : takeDeed (⟨place, tok⟩ :: R.l.drop (k + 1)) = wrong (⟨place, tok⟩ :: R.l.drop (k + 1)) := by
    unfold takeDeed
    dsimp only
    rw [if_neg (addr_no n1.1), if_neg (addr_no n2.1), if_neg (addr_no n2.2.1), if_neg (addr_no n2.2.2), if_neg (addr_no n3.1), if_neg (addr_no n3.2), if_neg (addr_no n1.2.1), if_neg (addr_no n1.2.2.1), if_neg (addr_no n1.2.2.2.1), if_neg (addr_no n4), if_neg (addr_no n1.2.2.2.2)]
  rw [e] at kq
  have kq : FltR K R.r H E 3 place := kq
  refine lastW (ps_raise rfl (takes_of rfl rfl rfl rfl) (pmk_fault rfl T hr (by decide) rfl (pa_cons (pe_glob (v := .int (3)) rfl c_NOT_ALLOWED ⟨_, rfl⟩) (pa_cons (pe_tplace rfl T (pv 1)) pa_nil)))) I6 ?_
  exact ⟨_, rfl, q, _, _, _, rfl, S6.ta, fault_in (kq.make S6.kp S6.ne)⟩
end
end Ls
set_option Elab.async false
set_option linter.all false
set_option maxRecDepth 100000
set_option maxHeartbeats 4000000
/-! parsing: read_command, read_script -/
namespace Ls
open PySem PySem.Spec PyProof.Rows L2
open VasedBase (isBlank isDigit isLetter decimal numberOf showNat PTok Toks word nextWord wrong)
open Vaseda (takeNum takeLetters takeAddr takeDeed takeTwo takeInstead takeCmd)
theorem KpO.tups {r : Addr} {H H' : Hp} (s : KpO r H H') {C dx : Addr} {fs : List (Str × V)} (e : H r = some (.ins C dx fs)) : Tups H H' := fun p o h t => s p o h (by
  rintro rfl
  rw [e] at h
  cases h
  exact t)
theorem TRd.tups {K : PySem.W.Frag} {H H' : Hp} {R : RD} {k : Nat} (h : TRd K H R k) (s : KpO R.r H H') : Tups H H' := s.tups h.ob
def cmdRest (R : RD) (a : VAddr) (j : Nat) : Except VasedBase.Fault (VCmd × Toks) := (takeDeed (R.l.drop j)).bind fun d => (VasedBase.takeSign 59 d.2).map fun m => (⟨a, d.1⟩, m)
def spCmdW (K : PySem.W.Frag) : SpW := fun vs _ s H Q E => ∃ (R : RD) (k : Nat), vs = [.ref R.r] ∧ TRd K H R k ∧ Inc R.ts s.toks ∧ Pst (takeCmd (R.l.drop k)) K R H E (fun c _ H' => ∀ H2 p s1, Same H' H2 → RepC K H2 (.ref p) c → Q (.ref p) s1 H2)
section
variable {P : Program} {w : World} {K : PySem.W.Frag} {mg : Str → Option Value} {base : Heap}
theorem sign_pst {x : Except VasedBase.Fault Toks} {c : VCmd} {R : RD} {H : Hp} {E : XK} {g : VCmd → Nat → Hp → Prop} (h : Pst (x.map fun m => (c, m)) K R H E g) : Pst (x.map fun m => ((), m)) K R H E (fun _ j H' => g c j H') := by
  cases x with
  | error f => exact h
  | ok m => exact h
theorem sc_read_command : FnScope ["reader", "address", "deed"] ["reader"] (defScope s_read_command) := ⟨rfl, rfl, rfl, by decide +kernel, rfl, by decide +kernel, by decide +kernel⟩
theorem ok_read_command (T : Txt K mg) : DOkW P w K mg base (L2.CX P w) 6 "read_command" (spCmdW K) := by
  obtain ⟨fd, F⟩ := T.f_read_command
  have sc := sc_read_command
  have K_TokenReader_read_token := ok_read_token (P := P) (w := w) (base := base) T
  have K_TokenReader_coming := ok_coming (P := P) (w := w) (base := base) T
  have K_read_address := ok_read_address (P := P) (w := w) (base := base) T
  have K_read_deed := ok_read_deed (P := P) (w := w) (base := base) T
  have K_read_told := ok_read_told (P := P) (w := w) (base := base) T
  have K_Command := ok_Command (P := P) (w := w) (base := base) T
  refine dokW F T.g_read_command (fun _ _ _ _ _ _ us hl => match us, hl with | [_], _ => rfl) sc (fun vs us s H Q E h => by obtain ⟨_, _, rfl, _⟩ := h; rfl) (fun cdv A outer s H vs us Q E s1 hr r h ht I hh => ?_)
  obtain ⟨R, k, rfl, hR, hi, kq⟩ := h
  clear r hh
  obtain ⟨pt, q, t, h1, h2, h3, h4, h5, h6⟩ := hR.at
  have hw : pt.tok = .last ∨ WfT pt.tok := h6.imp (fun z => z) (fun z => z.2)
  have kq : Pst ((if VasedBase.tokEq pt.tok (.name (word "if")) = true then takeAddr ((R.l.drop k).length + 1) 0 (R.l.drop (k + 1)) else .ok (Vaseda.Addr.all, R.l.drop k)).bind fun a => (takeDeed a.2).bind fun d => (VasedBase.takeSign 59 d.2).map fun m => (⟨a.1, d.1⟩, m)) K R H E (fun c _ H' => ∀ H2 p s1, Same H' H2 → RepC K H2 (.ref p) c → Q (.ref p) s1 H2) := by
    unfold takeCmd at kq
    rw [h5] at kq ⊢
    exact kq
  have kq := kq.bind
  -- address = ("all",)
  refine seqW (N := fun σ' H1 => ∃ p, σ' = [some (.ref R.r), some (.ref p), none] ∧ Same H H1 ∧ H1 p = some (.tup [.str "all"])) (ps_set (i := 1) sc.nd rfl (Or.inl rfl) (pe_tup (pa_cons pe_str pa_nil))) I ?_ ?_
  · exact ⟨small (m := 10) (by show 1 ≤ 10; decide), fun p hp => ⟨p, rfl, Same.new hp, upd_same⟩⟩
  rintro s2 _ H1 k2 I2 ⟨p0, rfl, sH1, hp0⟩
  have R1 := hR.same sH1
  have t1 : TokAt K H1 q (sOf (toldOf pt.tok)) t ((pt.place : Nat) : Int) := h4.mono (frz_same sH1)
  have kq1 := kq.from (KpO.of sH1) R1
  -- if
  refine seqW (N := fun σ' H' => ∃ v a j, σ' = [some (.ref R.r), some v, none] ∧ TRd K H' R j ∧ RepA H' v a ∧ Pst (cmdRest R a j) K R H' E (fun c _ H' => ∀ H2 p s1, Same H' H2 → RepC K H2 (.ref p) c → Q (.ref p) s1 H2))
    (ps_if (pt_cmpR op_eq (pe_told rfl T (pe_mt0 (pv 0) K_TokenReader_coming hr (by first | decide | omega))) pe_str (nomark _))
      (pss_cons (ps_expr (pe_mt0 (pv 0) K_TokenReader_read_token hr (by first | decide | omega)))
        (pss_one (ps_set (i := 1) sc.nd rfl (Or.inl rfl) (pe_dS K_read_address hr (by first | decide | omega) rfl (takes_of rfl rfl rfl rfl) (pa_cons (pv 0) pa_nil)))))
      pss_nil) I2 ?_ ?_
  · refine ⟨_, rfl, R.r, R.dx, _, rfl, R1.ob, rfl, R, k, rfl, R1, fun q' hq => ?_⟩
    rw [h2] at hq
    obtain rfl : q = q' := by injection hq with hq; injection hq
    refine ⟨q, _, _, _, rfl, t1, rfl, _, rfl, ?_⟩
    show if decide (vS (toldOf pt.tok) = V.str (Str.ofString "if")) = true then _ else _
    rw [eqWd hw "if" (by decide +kernel)]
    refine ite2 (fun c1 => ?_) fun c1 => ?_
    · rw [if_pos c1] at kq1
      have hlt : k + 1 < R.l.length := by
        obtain z | z := h6
        · rw [z] at c1; cases c1
        · exact z.1
      refine ⟨_, rfl, R.r, R.dx, _, rfl, R1.ob, rfl, R, k, rfl, R1, fun q' H2 hq s2 e2 => ?_⟩
      have R2 := R1.kp s2 e2 hlt
      refine ⟨_, rfl, R, k + 1, _, rfl, R2, ?_, (kq1.from s2 R2).imp fun a j H3 s3 R3 g => ?_⟩
      · rw [List.length_drop, List.length_drop]
        omega
      · intro H4 v s4 ra
        exact ⟨v, a, j, rfl, R3.same s4, ra, Pst.from g (KpO.of s4) (R3.same s4)⟩
    · rw [if_neg c1] at kq1
      exact ⟨.ref p0, .all, k, rfl, R1, ⟨p0, rfl, hp0⟩, kq1 k H1 rfl KpO.refl R1⟩
  rintro s3 _ H3 k3 I3 ⟨va, a, j, rfl, R3, ra, kq3⟩
  have kq3 := Pst.bind kq3
  -- deed
  refine wpAny_execs_cons (wpAny_Assign_Name (pe_dW (E := E) (Q := fun u s4 H4 => ∃ (p : Addr) (d : VDeed) (j : Nat), u = .ref p ∧ TRd K H4 R j ∧ KpO R.r H3 H4 ∧ RepD H4 (.ref p) d ∧
      Pst ((VasedBase.taken (.sign 59) (R.l.drop j)).map fun m => ((), m)) K R H4 E (fun _ _ H' => ∀ H2 p s1, Same H' H2 → RepC K H2 (.ref p) ⟨a, d⟩ → Q (.ref p) s1 H2))
    K_read_deed hr (by decide) rfl (passAt (takes_of rfl rfl rfl rfl) _) (pa_cons (pv 0) pa_nil) I3 ?_ ?_) (by rfl))
  · refine ⟨_, rfl, ?_⟩
    intro us s4 r4 h4'
    refine ⟨R, j, rfl, R3, hi.up (by omega), kq3.imp ?_⟩
    intro d j' H4 s4' R4 g H5 p s5 s45 rd
    refine ⟨p, d, j', rfl, R4.same s45, s4'.trans (KpO.of s45), rd, Pst.from (sign_pst g) (KpO.of s45) (R4.same s45)⟩
  rintro u s4 H4 k4 I4 ⟨pd, d, j, rfl, R4, s34, rd, kq4⟩
  refine put_raw (i := 2) (v := .ref pd) I4 sc.nd rfl rfl rfl ?_
  intro s5 I5 k5 _ _
  have ra4 := ra.mono (R3.tups s34)
  -- ;
  refine seqW (N := fun σ' H' => σ' = [some (.ref R.r), some va, some (.ref pd)] ∧ RepA H' va a ∧ RepD H' (.ref pd) d ∧ ∀ H2 p s1, Same H' H2 → RepC K H2 (.ref p) ⟨a, d⟩ → Q (.ref p) s1 H2)
    (ps_expr (pe_dS K_read_told hr (by first | decide | omega) rfl (takes_of rfl rfl rfl rfl) (pa_cons (pv 0) (pa_cons pe_str pa_nil)))) I5 ?_ ?_
  · refine ⟨_, rfl, R, j, [59], .sign 59, ?_, R4, (by intro z; cases z), fun tk hk => told_semi hk, kq4.imp fun _ j' H5 s5 R5 g => ⟨rfl, ra4.mono (R4.tups s5), rd.mono (R4.tups s5), g⟩⟩
    rw [show vS [59] = V.str (Str.ofString ";") by decide +kernel]
  rintro s6 _ H6 k6 I6 ⟨rfl, ra6, rd6, g⟩
  refine thn (retV (pe_mk K_Command hr (by first | decide | omega) rfl (pa_cons (pv 1) (pa_cons (pv 2) pa_nil))) I6 ?_) fun _ _ z => z.1
  refine ⟨_, rfl, _, rfl, fun c dx hc hdx ne => ?_⟩
  refine ⟨c, dx, va, .ref pd, rfl, upd_same, rfl, ?_⟩
  rw [upd_upd]
  intro u s7 ru
  obtain rfl : u = Value.ref c := ru
  have sn : Same H6 (upd (upd H6 dx (.own c)) c (.ins (He.ga K "Command") dx [("address", va), ("deed", .ref pd)])) := (Same.new hdx).trans (Same.new (by rw [upd_ne (Ne.symm ne)]; exact hc))
  exact g _ c s7 sn ⟨c, dx, va, .ref pd, rfl, upd_same, ra6.mono (Same.tups sn), rd6.mono (Same.tups sn)⟩
end
end Ls
set_option Elab.async false
set_option linter.all false
set_option maxRecDepth 100000
set_option maxHeartbeats 4000000
/-! parsing: read_script -/
namespace Ls
open PySem PySem.Spec PyProof.Rows L2
open VasedBase (isBlank isDigit isLetter decimal numberOf showNat PTok Toks word nextWord wrong)
open Vaseda (takeNum takeLetters takeAddr takeDeed takeTwo takeInstead takeCmd takeCmds)
theorem tok_wf {b : UInt8} {r : Ln} {tk : VTok} {n : Nat} (h : VasedBase.token (b :: r) = some (tk, n)) : WfT tk := by
  rw [tok_code] at h
  split at h
  · cases h
    rfl
  · split at h
    · rename_i h2
      have h3 := of_decide_eq_true h2
      cases h
      exact ⟨h3.1, h3.2, fun c hc => take_imp hc⟩
    · split at h
      · rename_i h2
        have hd : AllDig ((b :: r).takeWhile isDigit) := fun c hc => take_imp hc
        have h4 := number_some hd
        rw [h2] at h4
        have h5 := of_decide_eq_true (Bool.and_eq_true_iff.mp (Bool.and_eq_true_iff.mp h4.symm).2).1
        cases h
        exact h5
      · cases h
theorem lex_wf : ∀ (n : Nat) (l : Ln) (a : Nat) (ts : List PTok), l.length ≤ n → lexL a l = .ok ts → WfL ts ∧ 1 ≤ ts.length ∧ ts.length ≤ l.length + 1 := by
  intro n
  induction n with
  | zero =>
    intro l a ts hl h
    obtain rfl : l = [] := List.length_eq_zero_iff.mp (by omega)
    rw [lexL_nil] at h
    cases h
    refine ⟨?_, by simp, by simp⟩
    intro i pt e
    cases i with
    | zero => cases e; exact .inl ⟨rfl, rfl⟩
    | succ i => simp at e
  | succ n ih =>
    intro l a ts hl h
    cases l with
    | nil =>
      rw [lexL_nil] at h
      cases h
      refine ⟨?_, by simp, by simp⟩
      intro i pt e
      cases i with
      | zero => cases e; exact .inl ⟨rfl, rfl⟩
      | succ i => simp at e
    | cons b r =>
      have hr : r.length ≤ n := by simp at hl; omega
      by_cases h1 : isBlank b = true
      · rw [lexL_blank h1] at h
        obtain ⟨a1, a2, a3⟩ := ih r _ ts hr h
        exact ⟨a1, a2, by simp; omega⟩
      · by_cases h2 : b = 35
        · subst h2
          rw [lexL_remark] at h
          obtain ⟨a1, a2, a3⟩ := ih _ _ ts (by rw [drop_len]; omega) h
          rw [drop_len] at a3
          exact ⟨a1, a2, by simp; omega⟩
        · rw [lexL_tok (by simpa using h1) h2] at h
          cases h3 : VasedBase.token (b :: r) with
          | none => rw [h3] at h; cases h
          | some x =>
            obtain ⟨tk, k⟩ := x
            rw [h3] at h
            obtain ⟨_, hk1, hk2⟩ := tok_len h3
            dsimp only at h
            cases h4 : lexL (a + k) ((b :: r).drop k) with
            | error e => rw [h4] at h; cases h
            | ok ts' =>
              rw [h4] at h
              cases h
              obtain ⟨a1, a2, a3⟩ := ih _ _ ts' (by rw [drop_len]; simp at hl ⊢; omega) h4
              rw [drop_len] at a3
              refine ⟨?_, by simp, by simp at a3 ⊢; omega⟩
              intro i pt e
              cases i with
              | zero =>
                cases e
                exact .inr ⟨by simp; omega, tok_wf h3⟩
              | succ i =>
                obtain ⟨b1, b2⟩ | ⟨b1, b2⟩ := a1 i pt (by simpa using e)
                · exact .inl ⟨by simp; omega, b2⟩
                · exact .inr ⟨by simp; omega, b2⟩
theorem cmds_step (n : Nat) (cs : List VCmd) (l : Toks) : takeCmds (n + 1) cs l = if VasedBase.next .last l = true then .ok cs else if 16 ≤ cs.length then .error ⟨4, VasedBase.here l⟩ else (takeCmd l).bind fun x => takeCmds n (cs ++ [x.1]) x.2 := rfl
theorem read_lex {bs : Ln} (h : bs.length ≤ 4096) : Vaseda.read bs = (lexL 0 bs).bind fun l => takeCmds (l.length + 1) [] l := by
  unfold Vaseda.read VasedBase.tokens
  rw [if_neg (by show ¬ 4096 < _; omega)]
  rfl
theorem read_long {bs : Ln} (h : 4096 < bs.length) : Vaseda.read bs = .error ⟨1, 4096⟩ := by
  unfold Vaseda.read VasedBase.tokens
  rw [if_pos (by show 4096 < _; exact h)]
  rfl
/-- what is left is no longer -/
def LeT {α : Type} (x : Except VasedBase.Fault (α × Toks)) (n : Nat) : Prop := ∀ v r, x = .ok (v, r) → r.length ≤ n
theorem LeT.ok {α : Type} {v : α} {r : Toks} {n : Nat} (h : r.length ≤ n) : LeT (.ok (v, r)) n := fun _ _ e => by cases e; exact h
theorem LeT.err {α : Type} {f : VasedBase.Fault} {n : Nat} : LeT (α := α) (.error f) n := fun _ _ e => by cases e
theorem LeT.map {α β : Type} {x : Except VasedBase.Fault (α × Toks)} {f : α → β} {n : Nat} (h : LeT x n) : LeT (x.map fun y => (f y.1, y.2)) n := by
  cases x with
  | error e => exact LeT.err
  | ok p =>
    obtain ⟨v, r⟩ := p
    exact LeT.ok (h v r rfl)
theorem LeT.bind {α β : Type} {x : Except VasedBase.Fault (α × Toks)} {f : α × Toks → Except VasedBase.Fault (β × Toks)} {n : Nat} (h : LeT x n) (g : ∀ v r, r.length ≤ n → LeT (f (v, r)) n) : LeT (x.bind f) n := by
  cases x with
  | error e => exact LeT.err
  | ok p =>
    obtain ⟨v, r⟩ := p
    exact g v r (h v r rfl)
theorem LeT.ite {α : Type} {c : Prop} [Decidable c] {x y : Except VasedBase.Fault (α × Toks)} {n : Nat} (h : LeT x n) (g : LeT y n) : LeT (if c then x else y) n := by
  split
  · exact h
  · exact g
theorem le_num {lo hi : Nat} {l : Toks} {n : Nat} (h : l.length ≤ n) : LeT (takeNum lo hi l) n := by
  cases l with
  | nil => exact LeT.err
  | cons pt l =>
    obtain ⟨p, tok⟩ := pt
    rw [List.length_cons] at h
    cases tok with
    | num k =>
      show LeT (if k < lo ∨ hi < k then .error ⟨7, p⟩ else .ok (k, l)) n
      exact LeT.ite LeT.err (LeT.ok (by omega))
    | name b => exact LeT.err
    | sign c => exact LeT.err
    | last => exact LeT.err
theorem le_letters {l : Toks} {n : Nat} (h : l.length ≤ n) : LeT (takeLetters l) n := by
  cases l with
  | nil => exact LeT.err
  | cons pt l =>
    obtain ⟨p, tok⟩ := pt
    rw [List.length_cons] at h
    cases tok with
    | name b =>
      show LeT ((if VasedBase.RESERVED.contains b = true then wrong (⟨p, .name b⟩ :: l) else .ok ((⟨p, b⟩ : VasedBase.PName), l)).map fun x => (x.1.name, x.2)) n
      exact LeT.map (LeT.ite LeT.err (LeT.ok (by omega)))
    | num n => exact LeT.err
    | sign c => exact LeT.err
    | last => exact LeT.err
theorem drop1_le {l : Toks} {n : Nat} (h : l.length ≤ n) : (l.drop 1).length ≤ n := by
  rw [List.length_drop]
  omega
theorem taken_lt {t : VTok} {l m : Toks} (h : VasedBase.taken t l = .ok m) : m.length < l.length := by
  unfold VasedBase.taken at h
  split at h
  · rename_i c
    cases h
    cases l with
    | nil => cases c
    | cons _ _ => simp
  · cases h
theorem le_addr : ∀ (f k : Nat) (l : Toks) (n : Nat), l.length ≤ n → LeT (takeAddr f k l) n
  | 0, _, _, _, _ => LeT.err
  | f + 1, k, l, n, h => by
    have h1 := drop1_le h
    unfold takeAddr
    refine LeT.ite (LeT.ok h1) (LeT.ite (LeT.map (le_num h1)) (LeT.ite ?_ (LeT.ite (LeT.ok h1) (LeT.ite (LeT.map (le_letters h1)) (LeT.ite (LeT.map (le_letters h1)) (LeT.ite (LeT.ite LeT.err (LeT.map (le_addr f (k + 1) _ n h1))) LeT.err))))))
    refine LeT.bind (le_num h1) fun v r hr => ?_
    show LeT ((VasedBase.takeWord "to" r).bind fun l => (takeNum v 99 l).map fun y => (Vaseda.Addr.span v y.1, y.2)) n
    cases hw : VasedBase.takeWord "to" r with
    | error e => exact LeT.err
    | ok m =>
      have := taken_lt hw
      exact LeT.map (f := fun y => Vaseda.Addr.span v y) (le_num (by omega))
theorem le_two {f : Ln → Ln → VDeed} {l : Toks} {n : Nat} (h : l.length ≤ n) : LeT (takeTwo f l) n := by
  unfold takeTwo
  refine LeT.bind (le_letters h) fun v r hr => ?_
  refine LeT.map (f := fun y => f v y) ?_
  unfold takeInstead
  exact LeT.ite (LeT.ok (drop1_le hr)) (le_letters hr)
theorem le_deed {l : Toks} {n : Nat} (h : l.length ≤ n) : LeT (takeDeed l) n := by
  have h1 := drop1_le h
  unfold takeDeed
  exact LeT.ite (LeT.ok h1) (LeT.ite (LeT.map (le_letters h1)) (LeT.ite (LeT.map (le_letters h1)) (LeT.ite (LeT.map (le_letters h1)) (LeT.ite (le_two h1) (LeT.ite (le_two h1) (LeT.ite (LeT.ok h1) (LeT.ite (LeT.ok h1) (LeT.ite (LeT.ok h1) (LeT.ite (LeT.map (le_num h1)) (LeT.ite (LeT.ok h1) LeT.err))))))))))
theorem cmd_lt {l : Toks} {c : VCmd} {r : Toks} (h : takeCmd l = .ok (c, r)) : r.length < l.length := by
  unfold takeCmd at h
  have h1 : LeT (if nextWord "if" l = true then takeAddr (l.length + 1) 0 (l.drop 1) else .ok (Vaseda.Addr.all, l)) l.length := LeT.ite (le_addr _ _ _ _ (drop1_le (Nat.le_refl _))) (LeT.ok (Nat.le_refl _))
  generalize (if nextWord "if" l = true then takeAddr (l.length + 1) 0 (l.drop 1) else .ok (Vaseda.Addr.all, l)) = x at *
  cases x with
  | error e => cases h
  | ok a =>
    obtain ⟨a, r1⟩ := a
    have h : (takeDeed r1).bind (fun d => (VasedBase.takeSign 59 d.2).map fun m => ((⟨a, d.1⟩ : VCmd), m)) = .ok (c, r) := h
    cases h3 : takeDeed r1 with
    | error e => rw [h3] at h; cases h
    | ok d =>
      obtain ⟨d, r2⟩ := d
      rw [h3] at h
      have h : (VasedBase.takeSign 59 r2).map (fun m => ((⟨a, d⟩ : VCmd), m)) = .ok (c, r) := h
      cases h4 : VasedBase.takeSign 59 r2 with
      | error e => rw [h4] at h; cases h
      | ok m =>
        rw [h4] at h
        cases h
        have h5 := h1 _ _ rfl
        have h6 := le_deed (Nat.le_refl _) _ _ h3
        have h7 := taken_lt h4
        omega
theorem repC_kpo {K : PySem.W.Frag} {H H' : Hp} {p C dx a : Addr} {k : Nat} (hp : H p = some (.ins C dx (trF a k))) (s : KpO p H H') {v : V} {c : VCmd} (r : RepC K H v c) : RepC K H' v c := by
  obtain ⟨q, dx', va, vd, e1, h1, h2, h3⟩ := r
  refine ⟨q, dx', va, vd, e1, s _ _ h1 (ne_of h1 hp ?_), h2.mono (s.tups hp), h3.mono (s.tups hp)⟩
  intro z
  injection z with _ _ z
  have z : [(Str.ofString "address", va), (Str.ofString "deed", vd)] = trF a k := z
  injection z with z _
  injection z with z _
  exact absurd z (by decide +kernel)
def spScriptW (K : PySem.W.Frag) : SpW := fun vs _ _ H Q E => ∃ (a : Addr) (bs : Ln), vs = [.ref a] ∧ SqL K H a (bV bs) ∧
  (∀ sc, Vaseda.read bs = .ok sc → ∀ q H' s1, H q = none → Same H H' → RepS K H' q sc → Q (.ref q) s1 H') ∧ (∀ f, Vaseda.read bs = .error f → Flt K H E f.code f.place)
theorem flt_flr {K : PySem.W.Frag} {H H' : Hp} {E : XK} {c p : Nat} {r : Addr} (h : Flt K H E c p) (s : Same H H') (hr : H r = none) : FltR K r H' E c p := fun H1 d s1 hd hx => by
  refine h H1 d ?_ (s.free hd) hx
  intro b o e
  exact s1 b o (s b o e) (ne_of_none e hr)
section
variable {P : Program} {w : World} {K : PySem.W.Frag} {mg : Str → Option Value} {base : Heap}
theorem except_cases {α ε : Type} (x : Except ε α) : (∃ v, x = .ok v) ∨ ∃ e, x = .error e := by
  cases x with
  | ok v => exact .inl ⟨v, rfl⟩
  | error e => exact .inr ⟨e, rfl⟩
theorem sc_read_script : FnScope ["told", "reader", "script"] ["told"] (defScope s_read_script) := ⟨rfl, rfl, rfl, by decide +kernel, rfl, by decide +kernel, by decide +kernel⟩
theorem okW_read_script (T : Txt K mg) : DOkW P w K mg base (L2.CX P w) 7 "read_script" (spScriptW K) := by
  obtain ⟨fd, F⟩ := T.f_read_script
  have sc := sc_read_script
  have K_TokenReader_coming := ok_coming (P := P) (w := w) (base := base) T
  have K_read_command := ok_read_command (P := P) (w := w) (base := base) T
  have K_tokens_of := ok_tokens_of (P := P) (w := w) (base := base) T
  obtain ⟨_, c_BYTES_AT_MOST⟩ := T.v_BYTES_AT_MOST; obtain ⟨_, c_COMMANDS_AT_MOST⟩ := T.v_COMMANDS_AT_MOST; obtain ⟨_, c_TOO_LONG⟩ := T.v_TOO_LONG; obtain ⟨_, c_TOO_MANY⟩ := T.v_TOO_MANY
  refine dokW F T.g_read_script (fun _ _ _ _ _ _ us hl => match us, hl with | [_], _ => rfl) sc (fun vs us s H Q E h => by obtain ⟨_, _, rfl, _⟩ := h; rfl) (fun cdv A outer s H vs us Q E s1 hr r h ht I hh => ?_)
  obtain ⟨a, bs, rfl, ha, kq, ke⟩ := h
  clear r hh
  -- too long
  refine seqW (N := fun σ' H' => σ' = [some (.ref a), none, none] ∧ H = H' ∧ bs.length ≤ 4096)
    (ps_if (pt_cmpR op_gt (pe_callB (call_len_seqK (K := K) rfl) rfl T.b_len boot_len (pa_cons (pv 0) pa_nil)) (pe_glob (v := .int (4096)) rfl c_BYTES_AT_MOST ⟨_, rfl⟩) (nomark _))
      (pss_one (ps_raise rfl (takes_of rfl rfl rfl rfl) (pmk_fault rfl T hr (by first | decide | omega) rfl (pa_cons (pe_glob (v := .int (1)) rfl c_TOO_LONG ⟨_, rfl⟩) (pa_cons (pe_glob (v := .int (4096)) rfl c_BYTES_AT_MOST ⟨_, rfl⟩) pa_nil)))))
      pss_nil) I ?_ ?_
  · refine ⟨_, rfl, a, _, rfl, .inl ha, _, _, rfl, rfl, _, rfl, ite2 (fun c1 => ?_) fun c1 => ?_⟩
    · have d1 : (4096 : Int) < (((bV bs).length : Nat) : Int) := of_decide_eq_true c1
      rw [bV_len] at d1
      have ke := ke _ (read_long (by omega))
      exact fault_in fun d hd => ke _ d (Same.new hd) hd upd_same
    · have d1 : ¬ (4096 : Int) < (((bV bs).length : Nat) : Int) := fun z => c1 (decide_eq_true z)
      rw [bV_len] at d1
      exact ⟨rfl, rfl, by omega⟩
  rintro s2 _ _ k2 I2 ⟨rfl, rfl, hbl⟩
  rw [read_lex hbl] at kq ke
  -- reader = TokenReader(tokens_of(told))
  obtain ⟨fi, fdi, psi, Mk, Fi, hmi, bi⟩ := (ok_TokenReader (P := P) (w := w) (base := base) T).ex
  refine wpAny_execs_cons (wpAny_Assign_Name (wpAny_Call_Name_kw (ld_glob I2 rfl T.g_TokenReader ?_ (by decide))) (by rfl))
  refine PySem.W.callWith_K (h₀ := base) I2.ok.mod.kin Mk.kp ?_ (by rfl) (by rfl)
  show wpAny _ _ (spliced ((false, _) :: [])) _ _ _
  refine Calls.spliced_cons (pe_dW (E := E) (Q := fun u s3 H3 => ∃ (l : List PTok) (L : Addr) (vs : List V) (ts : List Nat), lexL 0 bs = .ok l ∧ u = .ref L ∧ H L = none ∧ Same H H3 ∧ H3 L = some (.lst vs) ∧ TokL K H3 vs l ts ∧ Inc ts s3.toks)
    K_tokens_of hr (by decide) rfl (passAt (takes_of rfl rfl rfl rfl) _) (pa_cons (pv 0) pa_nil) I2 ?_ ?_)
  · refine ⟨_, rfl, ?_⟩
    intro us s3 r3 h3
    refine ⟨a, bs, rfl, ha, hbl, ?_, ?_⟩
    · intro l hl L vs ts s4 H4 hL s04 h4 hl4 hi4
      exact ⟨l, L, vs, ts, hl, rfl, hL, s04, h4, hl4, hi4⟩
    · intro f hf
      rw [hf] at ke
      exact ke f rfl
  rintro u s3 H3 k3 I3 ⟨l, L, vs, ts, hlex, rfl, hL, s03, h3L, hl3, hi3⟩
  rw [hlex] at kq ke
  have kq : ∀ sc, takeCmds (l.length + 1) [] l = .ok sc → ∀ q H' s1, H q = none → Same H H' → RepS K H' q sc → Q (.ref q) s1 H' := kq
  have ke : ∀ f, takeCmds (l.length + 1) [] l = .error f → Flt K H E f.code f.place := ke
  obtain ⟨hwf, hl1, hl2⟩ := lex_wf _ bs 0 l (Nat.le_refl _) hlex
  refine Calls.spliced_nil ⟨I3.kIn, ?_⟩
  refine wpAny_mono (wpAny_toks (run_make (Q := fun v H4 => ∃ r dx, v = .ref r ∧ H3 r = none ∧ Same H3 H4 ∧ H4 r = some (.ins (He.ga K "TokenReader") dx (trF L 0))) (dvs := []) (ds := []) Mk Fi (hr.mono (by decide)) bi .nil pass0 I3 (.cons (show RelV (.ref L) (.ref L) from rfl) .nil) ?_)) ?_ fun _ _ z => z.2
  · intro x dx hx hd ne
    refine ⟨x, dx, L, rfl, upd_same, rfl, x, dx, rfl, hx, ?_, upd_same⟩
    rw [upd_upd]
    exact (Same.new hd).trans (Same.new (by rw [upd_ne (Ne.symm ne)]; exact hx))
  rintro u s4 ⟨k4, _, H4, I4, ru, r, dx, rfl, hr0, s34, h4r⟩
  obtain rfl : u = Value.ref r := ru
  refine put_raw (i := 1) (v := .ref r) I4 sc.nd rfl rfl rfl ?_
  intro s5 I5 k5 _ _
  have R4 : TRd K H4 ⟨r, dx, L, vs, l, ts⟩ 0 := ⟨h4r, s34 _ _ h3L, hl3.mono (frz_same s34), hwf, by show 0 < l.length; omega, by show l.length ≤ 5000; omega⟩
  have hrH : H r = none := by
    cases e : H r with
    | none => rfl
    | some o =>
      rw [s03 _ _ e] at hr0
      cases hr0
  have hi5 : Inc ts s5.toks := hi3.up (by omega)
  have s04 := s03.trans s34
  clear hl3 hi3 h3L s34 h4r hr0
  -- script = []
  refine seqW (N := fun σ' H' => ∃ S, σ' = [some (.ref a), some (.ref r), some (.ref S)] ∧ Same H4 H' ∧ H4 S = none ∧ H' S = some (.lst [])) (ps_set (i := 2) sc.nd rfl (Or.inl rfl) (pe_lst pa_nil)) I5 ?_ ?_
  · exact ⟨small (m := 10) (by show 0 ≤ 10; decide), fun S hS => ⟨S, rfl, Same.new hS, hS, upd_same⟩⟩
  rintro s6 _ H6 k6 I6 ⟨S, rfl, s46, hS4, h6S⟩
  have R6 := R4.same s46
  have hSr : S ≠ r := fun e => by
    rw [e, R4.ob] at hS4
    cases hS4
  have hSH : H S = none := by
    cases e : H S with
    | none => rfl
    | some o =>
      rw [s04 _ _ e] at hS4
      cases hS4
  refine whileW I6 (passes_of rfl) (pt_cmpR op_ne (pe_told rfl T (pe_mt0 (pv 1) K_TokenReader_coming hr (by first | decide | omega))) pe_str (nomark _))
    (fun m n σ H' => ∃ k cs vc f, σ = [some (.ref a), some (.ref r), some (.ref S)] ∧ TRd K H' ⟨r, dx, L, vs, l, ts⟩ k ∧ Inc ts n ∧ H' S = some (.lst vc) ∧ Paired (RepC K H') vc cs ∧ cs.length ≤ 16 ∧ Same H H' ∧ m = l.length - k ∧ (l.drop k).length < f ∧
      takeCmds f cs (l.drop k) = takeCmds (l.length + 1) [] l) ?_ ?_
  · exact ⟨_, 0, [], [], l.length + 1, rfl, R6, hi5.up k6, h6S, .nil, by decide, s04.trans s46, rfl, by simp, rfl⟩
  rintro m n σ H7 ⟨k, cs, vc, f, rfl, R7, hi7, h7S, hcs, hc16, s07, rfl, hf, hcm⟩
  obtain ⟨pt, q, t, h1, h2, h3, h4, h5, h6⟩ := R7.at
  have hw : pt.tok = .last ∨ WfT pt.tok := h6.imp (fun z => z) (fun z => z.2)
  cases f with
  | zero => exact absurd hf (Nat.not_lt_zero _)
  | succ f =>
  have hlen := paired_len hcs
  rw [cmds_step] at hcm
  have h5 : l.drop k = pt :: l.drop (k + 1) := h5
  have hlt7 : k < l.length := R7.lt
  refine ⟨_, rfl, r, dx, _, rfl, R7.ob, rfl, ⟨r, dx, L, vs, l, ts⟩, k, rfl, R7, fun q' hq => ?_⟩
  have hq : vs[k]? = some (.ref q') := hq
  have h2 : vs[k]? = some (.ref q) := h2
  rw [h2] at hq
  obtain rfl : q = q' := by injection hq with hq; injection hq
  refine ⟨q, _, _, _, rfl, h4, rfl, _, rfl, ?_⟩
  show if (!decide (vS (toldOf pt.tok) = V.str (Str.ofString ""))) = true then _ else _
  rw [show V.str (Str.ofString "") = vS [] by decide +kernel, told_end hw]
  have enx : VasedBase.next .last (l.drop k) = VasedBase.tokEq pt.tok .last := by rw [h5]; rfl
  rw [enx] at hcm
  cases hlast : VasedBase.tokEq pt.tok .last
  · rw [if_pos (show (!false) = true from rfl)]
    rw [hlast, if_neg Bool.false_ne_true] at hcm
    intro s8 k8 I8
    -- a seventeenth one
    refine seqW (N := fun σ' H' => σ' = [some (.ref a), some (.ref r), some (.ref S)] ∧ H7 = H' ∧ cs.length < 16)
      (ps_if (pt_cmpR op_eq (pe_callB (call_len_seqK (K := K) rfl) rfl T.b_len boot_len (pa_cons (pv 2) pa_nil)) (pe_glob (v := .int (16)) rfl c_COMMANDS_AT_MOST ⟨_, rfl⟩) (nomark _))
        (pss_one (ps_raise rfl (takes_of rfl rfl rfl rfl) (pmk_fault rfl T hr (by first | decide | omega) rfl (pa_cons (pe_glob (v := .int (4)) rfl c_TOO_MANY ⟨_, rfl⟩) (pa_cons (pe_tplace rfl T (pe_mt0 (pv 1) K_TokenReader_coming hr (by first | decide | omega))) pa_nil)))))
        pss_nil) I8 ?_ ?_
    · refine ⟨_, rfl, S, _, rfl, .inl (SqL.of h7S), rfl, _, rfl, ?_⟩
      show if decide (V.int ((vc.length : Nat) : Int) = V.int 16) = true then _ else _
      refine ite2 (fun c1 => ?_) fun c1 => ?_
      · have d1 : V.int ((vc.length : Nat) : Int) = V.int 16 := of_decide_eq_true c1
        have d2 : vc.length = 16 := by injection d1 with d1; omega
        rw [if_pos (by omega), h5] at hcm
        have ke7 := flt_flr (ke ⟨4, pt.place⟩ hcm.symm) s07 hrH
        refine ⟨_, rfl, r, dx, _, rfl, R7.ob, rfl, ⟨r, dx, L, vs, l, ts⟩, k, rfl, R7, fun q' hq => ?_⟩
        have hq : vs[k]? = some (.ref q') := hq
        rw [h2] at hq
        obtain rfl : q = q' := by injection hq with hq; injection hq
        exact ⟨q, _, _, _, rfl, h4, fault_in (ke7.make KpO.refl (by rw [R7.ob]; intro z; cases z))⟩
      · have d1 : ¬ V.int ((vc.length : Nat) : Int) = V.int 16 := fun h => c1 (decide_eq_true h)
        have d2 : vc.length ≠ 16 := fun h => d1 (by rw [h]; rfl)
        exact ⟨rfl, rfl, by omega⟩
    rintro s9 _ _ k9 I9 ⟨rfl, rfl, hc15⟩
    rw [if_neg (by omega)] at hcm
    -- script.append(read_command(reader))
    refine wpAny_execs_cons (append_raw (i := 2) I9 rfl (.inl rfl) rfl h7S (pe_dW (E := E) (Q := fun u s10 H10 => ∃ (p : Addr) (c : VCmd) (j : Nat), u = .ref p ∧ KpO r H7 H10 ∧ TRd K H10 ⟨r, dx, L, vs, l, ts⟩ j ∧ RepC K H10 (.ref p) c ∧
      takeCmds f (cs ++ [c]) (l.drop j) = takeCmds (l.length + 1) [] l ∧ (l.drop j).length < (l.drop k).length)
      K_read_command hr (by decide) rfl (passAt (takes_of rfl rfl rfl rfl) _) (pa_cons (pv 1) pa_nil) I9 ?_ ?_))
    · refine ⟨_, rfl, ?_⟩
      intro us s10 r10 h10
      refine ⟨⟨r, dx, L, vs, l, ts⟩, k, rfl, R7, hi7.up (by omega), ?_⟩
      show Pst (takeCmd (l.drop k)) K ⟨r, dx, L, vs, l, ts⟩ H7 E _
      cases hc : takeCmd (l.drop k) with
      | error f =>
        rw [hc] at hcm
        exact flt_flr (ke f hcm.symm) s07 hrH
      | ok x =>
        obtain ⟨c, rest⟩ := x
        rw [hc] at hcm
        intro j H8 he s78 R8 H9 p s11 s89 rc
        have he : rest = l.drop j := he
        subst he
        exact ⟨p, c, j, rfl, s78.trans (KpO.of s89), R8.same s89, rc, hcm, cmd_lt hc⟩
    · rintro u s10 H10 h10 I10 ⟨p, c, j, rfl, s710, R10, rc, hcm', hlt⟩
      have h10S := s710 _ _ h7S hSr
      refine ⟨.ref p, H10, vc, rfl, I10, h10S, smallLt (m := 100) (by omega), ?_⟩
      intro s11 h11 I11
      refine wpAny_execs_nil ?_
      have hSL : S ≠ L := fun e => by
        rw [e, R4.ls] at hS4
        cases hS4
      have sH10 : Same H H10 := fun b o e => s710 b o (s07 b o e) (ne_of_none e hrH)
      have hcs10 : Paired (RepC K (upd H10 S (.lst (vc ++ [.ref p])))) vc cs := paired_imp (fun _ _ x => (repC_kpo R7.ob s710 x).mono (Imm.put h10S)) hcs
      have rc11 := rc.mono (Imm.put (ys := vc ++ [.ref p]) h10S)
      have R11 : TRd K (upd H10 S (.lst (vc ++ [.ref p]))) ⟨r, dx, L, vs, l, ts⟩ j := by
        refine ⟨?_, ?_, R10.tk.mono ?_, R10.wf, R10.lt, R10.sz⟩
        · show upd H10 S _ r = _
          rw [upd_ne (Ne.symm hSr)]
          exact R10.ob
        · show upd H10 S _ L = _
          rw [upd_ne (Ne.symm hSL)]
          exact R10.ls
        · intro b o u e
          have hne : b ≠ S := by
            intro z
            rw [z, h10S] at e
            cases e
          rw [upd_ne hne]
          exact e
      have hlt2 := hlt
      rw [List.length_drop, List.length_drop] at hlt2
      exact ⟨l.length - j, _, _, by omega, I11, j, cs ++ [c], vc ++ [.ref p], f, rfl, R11, hi7.up (by omega), upd_same, paired_app hcs10 (.cons rc11 .nil), by simp; omega, Same.put sH10 hSH, rfl, by omega, hcm'⟩
  · rw [if_neg (show ¬ (!true) = true from Bool.false_ne_true)]
    rw [hlast, if_pos rfl] at hcm
    intro s8 k8 I8
    refine wpAny_execs_cons (wpAny_Return_some (raw_name (i := 2) rfl (.inl rfl) I8 rfl ?_))
    rintro _ rfl
    exact ⟨_, H7, I8, kq cs hcm.symm S H7 s8 hSH s07 ⟨vc, h7S, hcs⟩⟩
end
end Ls
set_option Elab.async false
set_option linter.all false
set_option maxRecDepth 100000
set_option maxHeartbeats 4000000
/-! examples: answer_check -/
namespace Ls
open PySem PySem.Spec PyProof.Rows L2
open VasedBase (isBlank isDigit isLetter decimal numberOf showNat PTok Toks word nextWord wrong)
open Vaseda (takeNum takeLetters takeAddr takeDeed takeTwo takeInstead takeCmd takeCmds)
/-! ### what is read is within bounds -/
def WfA (l : Toks) : Prop := ∀ pt ∈ l, pt.tok = .last ∨ WfT pt.tok
theorem WfA.drop {l : Toks} (h : WfA l) (n : Nat) : WfA (l.drop n) := fun pt hp => h pt (List.mem_of_mem_drop hp)
def GdT {α : Type} (x : Except VasedBase.Fault (α × Toks)) (p : α → Prop) : Prop := ∀ v r, x = .ok (v, r) → p v ∧ WfA r
section
variable {α β : Type} {p q : α → Prop}
theorem GdT.ok {v : α} {r : Toks} (h : p v) (w : WfA r) : GdT (.ok (v, r)) p := fun _ _ e => by cases e; exact ⟨h, w⟩
theorem GdT.err {f : VasedBase.Fault} : GdT (.error f) p := fun _ _ e => by cases e
theorem GdT.ite {c : Prop} [Decidable c] {x y : Except VasedBase.Fault (α × Toks)} (h : c → GdT x p) (g : GdT y p) : GdT (if c then x else y) p := by
  split
  · rename_i z
    exact h z
  · exact g
theorem GdT.map {x : Except VasedBase.Fault (α × Toks)} {f : α → β} {p' : β → Prop} (h : GdT x p) (g : ∀ v, p v → p' (f v)) : GdT (x.map fun y => (f y.1, y.2)) p' := by
  cases x with
  | error e => exact GdT.err
  | ok y =>
    obtain ⟨v, r⟩ := y
    obtain ⟨h1, h2⟩ := h v r rfl
    exact GdT.ok (g v h1) h2
theorem GdT.bind {x : Except VasedBase.Fault (α × Toks)} {f : α × Toks → Except VasedBase.Fault (β × Toks)} {p' : β → Prop} (h : GdT x p) (g : ∀ v r, p v → WfA r → GdT (f (v, r)) p') : GdT (x.bind f) p' := by
  cases x with
  | error e => exact GdT.err
  | ok y =>
    obtain ⟨v, r⟩ := y
    obtain ⟨h1, h2⟩ := h v r rfl
    exact g v r h1 h2
end
theorem gd_num {lo hi : Nat} {l : Toks} (w : WfA l) : GdT (takeNum lo hi l) fun n => n ≤ hi := by
  cases l with
  | nil => exact GdT.err
  | cons pt l =>
    obtain ⟨p, tok⟩ := pt
    cases tok with
    | num k =>
      show GdT (if k < lo ∨ hi < k then .error ⟨7, p⟩ else .ok (k, l)) _
      intro v r e
      split at e
      · cases e
      · rename_i hn
        cases e
        exact ⟨by omega, w.drop 1⟩
    | name b => exact GdT.err
    | sign c => exact GdT.err
    | last => exact GdT.err
theorem gd_letters {l : Toks} (w : WfA l) : GdT (takeLetters l) fun x => x ≠ [] ∧ x.length ≤ 16 := by
  cases l with
  | nil => exact GdT.err
  | cons pt l =>
    obtain ⟨p, tok⟩ := pt
    cases tok with
    | name b =>
      show GdT ((if VasedBase.RESERVED.contains b = true then wrong (⟨p, .name b⟩ :: l) else .ok ((⟨p, b⟩ : VasedBase.PName), l)).map fun x => (x.1.name, x.2)) _
      have h := w ⟨p, .name b⟩ List.mem_cons_self
      obtain ⟨h1, h2, _⟩ : 1 ≤ b.length ∧ b.length ≤ 8 ∧ ∀ c ∈ b, isLetter c = true := by
        obtain z | z := h
        · cases z
        · exact z
      refine GdT.map (p := fun x : VasedBase.PName => x.name ≠ [] ∧ x.name.length ≤ 16) (GdT.ite (fun _ => GdT.err) (GdT.ok ⟨?_, Nat.le_trans h2 (by decide)⟩ (w.drop 1))) fun v h => h
      intro z
      have z : b = [] := z
      rw [z] at h1
      simp at h1
    | num n => exact GdT.err
    | sign c => exact GdT.err
    | last => exact GdT.err
theorem gd_instead {l : Toks} (w : WfA l) : GdT (takeInstead l) fun x => x.length ≤ 16 := by
  unfold takeInstead
  refine GdT.ite (fun _ => GdT.ok (Nat.zero_le _) (w.drop 1)) ?_
  intro v r e
  obtain ⟨h1, h2⟩ := gd_letters w v r e
  exact ⟨h1.2, h2⟩
theorem taken_wf {t : VTok} {l m : Toks} (h : VasedBase.taken t l = .ok m) (w : WfA l) : WfA m := by
  unfold VasedBase.taken at h
  split at h
  · cases h
    exact w.drop 1
  · cases h
theorem gd_addr : ∀ (f k : Nat) (l : Toks), k ≤ 3 → WfA l → GdT (takeAddr f k l) fun a => nots a ≤ 3 - k
  | 0, _, _, _, _ => GdT.err
  | f + 1, k, l, hk, w => by
    have w1 := w.drop 1
    unfold takeAddr
    refine GdT.ite (fun _ => GdT.ok (Nat.zero_le _) w1) (GdT.ite (fun _ => GdT.map (gd_num w1) fun _ _ => Nat.zero_le _) (GdT.ite (fun _ => ?_) (GdT.ite (fun _ => GdT.ok (Nat.zero_le _) w1) (GdT.ite (fun _ => GdT.map (gd_letters w1) fun _ _ => Nat.zero_le _)
      (GdT.ite (fun _ => GdT.map (gd_letters w1) fun _ _ => Nat.zero_le _) (GdT.ite (fun _ => ?_) GdT.err))))))
    · refine GdT.bind (gd_num w1) fun v r _ wr => ?_
      show GdT ((VasedBase.takeWord "to" r).bind fun l => (takeNum v 99 l).map fun y => (Vaseda.Addr.span v y.1, y.2)) _
      cases hw : VasedBase.takeWord "to" r with
      | error e => exact GdT.err
      | ok m => exact GdT.map (f := fun y => Vaseda.Addr.span v y) (gd_num (taken_wf hw wr)) fun _ _ => Nat.zero_le _
    · by_cases h3 : Vaseda.NOTS ≤ k
      · rw [if_pos h3]
        exact GdT.err
      · rw [if_neg h3]
        have h3 : ¬ 3 ≤ k := h3
        refine GdT.map (gd_addr f (k + 1) _ (by omega) w1) fun v hv => ?_
        show nots v + 1 ≤ 3 - k
        omega
theorem gd_two {f : Ln → Ln → VDeed} {l : Toks} (w : WfA l) (h : ∀ a b, a ≠ [] → a.length ≤ 16 → b.length ≤ 16 → okR (f a b)) : GdT (takeTwo f l) okR := by
  unfold takeTwo
  refine GdT.bind (gd_letters w) fun v r hv wr => ?_
  exact GdT.map (f := fun y => f v y) (gd_instead wr) fun y hy => h v y hv.1 hv.2 hy
theorem gd_deed {l : Toks} (w : WfA l) : GdT (takeDeed l) okR := by
  have w1 := w.drop 1
  unfold takeDeed
  exact GdT.ite (fun _ => GdT.ok trivial w1) (GdT.ite (fun _ => GdT.map (gd_letters w1) fun _ h => h.2) (GdT.ite (fun _ => GdT.map (gd_letters w1) fun _ h => h.2) (GdT.ite (fun _ => GdT.map (gd_letters w1) fun _ h => h.2) (GdT.ite (fun _ => gd_two w1 fun _ _ a b c => ⟨a, b, c⟩)
    (GdT.ite (fun _ => gd_two w1 fun _ _ a b c => ⟨a, b, c⟩) (GdT.ite (fun _ => GdT.ok trivial w1) (GdT.ite (fun _ => GdT.ok trivial w1) (GdT.ite (fun _ => GdT.ok trivial w1) (GdT.ite (fun _ => GdT.map (gd_num w1) fun _ h => h) (GdT.ite (fun _ => GdT.ok trivial w1) GdT.err))))))))))
theorem gd_cmd {l : Toks} (w : WfA l) : GdT (takeCmd l) okRC := by
  unfold takeCmd
  refine GdT.bind (p := fun a => nots a ≤ 3) (GdT.ite (fun _ => gd_addr _ 0 _ (by decide) (w.drop 1)) (GdT.ok (Nat.zero_le _) w)) fun a r ha wr => ?_
  refine GdT.bind (gd_deed wr) fun d r2 hd wr2 => ?_
  show GdT ((VasedBase.takeSign 59 r2).map fun m => ((⟨a, d⟩ : VCmd), m)) _
  cases h : VasedBase.takeSign 59 r2 with
  | error e => exact GdT.err
  | ok m => exact GdT.ok ⟨ha, hd⟩ (taken_wf h wr2)
theorem gd_cmds : ∀ (n : Nat) (cs : List VCmd) (l : Toks), WfA l → okS cs → ∀ sc, takeCmds n cs l = .ok sc → okS sc := by
  intro n
  induction n with
  | zero => intro cs l _ _ sc h; cases h
  | succ n ih =>
    intro cs l w hc sc h
    rw [cmds_step] at h
    split at h
    · cases h
      exact hc
    · split at h
      · cases h
      · rename_i h16
        cases h1 : takeCmd l with
        | error e => rw [h1] at h; cases h
        | ok x =>
          obtain ⟨c, r⟩ := x
          rw [h1] at h
          obtain ⟨g1, g2⟩ := gd_cmd w c r h1
          refine ih (cs ++ [c]) r g2 ⟨fun z hz => ?_, by simp; omega⟩ sc h
          rcases List.mem_append.mp hz with hz | hz
          · exact hc.1 z hz
          · rw [List.mem_singleton.mp hz]
            exact g1
theorem read_okS {bs : Ln} {sc : List VCmd} (h : Vaseda.read bs = .ok sc) : okS sc := by
  by_cases hl : bs.length ≤ 4096
  · rw [read_lex hl] at h
    cases h1 : lexL 0 bs with
    | error e => rw [h1] at h; cases h
    | ok l =>
      rw [h1] at h
      have w := (lex_wf _ bs 0 l (Nat.le_refl _) h1).1
      refine gd_cmds _ [] l (fun pt hp => ?_) ⟨fun c hc => (by cases hc), by decide⟩ sc h
      obtain ⟨i, hi⟩ := List.mem_iff_getElem?.mp hp
      exact (w i pt hi).imp (fun z => z.2) fun z => z.2
  · rw [read_long (by omega)] at h
    cases h
def spScriptP (K : PySem.W.Frag) : Sp := fun vs H Q E => ∃ (a : Addr) (bs : Ln), vs = [.ref a] ∧ SqL K H a (bV bs) ∧
  (∀ sc, Vaseda.read bs = .ok sc → ∀ q H', H q = none → Same H H' → RepS K H' q sc → Q (.ref q) H') ∧ (∀ f, Vaseda.read bs = .error f → Flt K H E f.code f.place)
section
variable {P : Program} {w : World} {K : PySem.W.Frag} {mg : Str → Option Value} {base : Heap} {TB : Hp → Prop}
theorem ok_read_script (T : Txt K mg) : DOk P w K mg base (L2.CX P w) 7 "read_script" (spScriptP K) := by
  refine DOkW.plain (okW_read_script T) ?_ ?_
  · rintro vs H Q E us s r ⟨a, bs, rfl, ha, k1, k2⟩
    exact ⟨a, bs, rfl, ha, fun sc h q H' s1 hq ss rs => ⟨.ref q, rfl, k1 sc h q H' hq ss rs⟩, k2⟩
  · rintro vs H Q E ⟨a, bs, rfl, _⟩
    exact ⟨[.ref a], .cons rfl .nil⟩
theorem xf_Fault (T : Txt K mg) : XfC K (He.ga K "Fault") := (oexB_ok T.x_Fault).xf
theorem no_Fault_code (T : Txt K mg) : PySem.W.findIn K (.ref (He.ga K "Fault")) "code" = some none := (oexB_ok T.x_Fault).f _ (by decide)
theorem no_Fault_place (T : Txt K mg) : PySem.W.findIn K (.ref (He.ga K "Fault")) "place" = some none := (oexB_ok T.x_Fault).f _ (by decide)
theorem sc_answer_check : FnScope ["held", "reader", "told", "script", "fault", "example", "fitted"] ["held", "reader"] (defScope s_answer_check) := ⟨rfl, rfl, rfl, by decide +kernel, rfl, by decide +kernel, by decide +kernel⟩
theorem ok_answer_check (tb : TBok TB) (T : Txt K mg) : DOk P w K mg base CX0 9 "answer_check" (AnsP K TB fun c => ∃ x, c = .check x) := by
  obtain ⟨fd, F⟩ := T.f_answer_check
  have sc := sc_answer_check
  have K_CallReader_read_row := ok_read_row (P := P) (w := w) (base := base) T
  have K_read_script : DOk P w K mg base (L2.CX P w) 7 "read_script" (spScriptP K) := ok_read_script T
  have K_fits : DOk P w K mg base CX0 8 "fits" (spFits K) := ok_fits T
  have K_far_from : DOk P w K mg base CX0 8 "far_from" (spFarFrom K) := ok_far_from T
  refine dok F T.g_answer_check (fun _ _ _ _ _ _ us hl => match us, hl with | [_, _], _ => rfl) sc (fun vs H Q E h => by obtain ⟨_, _, _, _, _, _, _, _, _, rfl, _⟩ := h; rfl) (fun cdv A outer s H vs Q E hr h => ?_)
  refine ⟨_, PSs.nox (pss_cons (ps_set (i := 2) sc.nd rfl (Or.inl rfl) (pe_mt0 (pv 1) K_CallReader_read_row hr (by first | decide | omega)))
  (pss_cons (ps_try_as (i := 4) rfl rfl sc.nd rfl rfl ⟨rfl, by decide, .inl T.g_Fault⟩ takes0
  (fun W pn xe tk _ => (pss_one (ps_set (i := 3) sc.nd rfl (Or.inr rfl) (pe_dS K_read_script hr (by first | decide | omega) rfl tk (pa_cons (pv 2) pa_nil)))))
  (fun a_ oe_ cls_ d_ pn_ hz hf => (pss_one (ps_ret (pe_lst (pa_cons pe_int (pa_cons (pe_xf (xf_Fault T) (no_Fault_code T) hz hf (pv 4)) (pa_cons (pe_xf (xf_Fault T) (no_Fault_place T) hz hf (pv 4)) pa_nil))))))))
  (pss_cons (ps_setLc (own := [("example", 5)]) (i := 6) rfl sc.nd rfl rfl (sw_true rfl rfl rfl (by decide +kernel)) (pi_listK (K := K) rfl (pv 0)) (blkOk_by (N := ["held", "reader", "told", "script", "fault", "example", "fitted"]) (sc := defScope s_answer_check) (by decide +kernel)) (fun _ _ _ _ _ => (pg_name (i := 5) sc.nd rfl (Or.inl rfl))) (fun _ _ _ _ _ => (pts_one (pt_val (pe_d K_fits hr (by first | decide | omega) rfl (pa_cons (pv 3) (pa_cons (pv 5) pa_nil)))))) (fun _ _ _ _ _ => (pv 5)))
  (pss_one (ps_ret (pe_op op_cat (pe_lst (pa_cons pe_int (pa_cons (pe_callB (call_len_seqK (K := K) rfl) rfl T.b_len boot_len (pa_cons (pv 6) pa_nil)) pa_nil))) (pe_lc (own := [("example", 5)]) rfl sc.nd (pi_listK (K := K) rfl (pv 0)) (blkOk_by (N := ["held", "reader", "told", "script", "fault", "example", "fitted"]) (sc := defScope s_answer_check) (by decide +kernel)) (fun _ _ _ _ _ => (pg_name (i := 5) sc.nd rfl (Or.inl rfl))) (fun _ _ _ _ _ => pts_nil) (fun _ _ _ _ _ => (pe_d K_far_from hr (by first | decide | omega) rfl (pa_cons (pv 3) (pa_cons (pv 5) pa_nil))))))))))), ?_⟩
  obtain ⟨h, p, dx, a, k, k', ns, es, c, rfl, ⟨x, rfl⟩, S, ⟨r1, rfl, hx⟩, kq⟩ := h
  refine ⟨_, rfl, p, dx, _, rfl, S.rd.ob, rfl, p, dx, a, k, x.length, ns, rfl, S.rd, S.nap, r1.1, r1.2.1, fun H1 q1 s1 R1 hq1 h1 => ?_⟩
  rw [row_bV r1] at h1
  have S1 := S.kpo tb s1 R1
  have k1 : Keep2 h p H H1 := Keep2.kpo s1
  have hel := S.oe.1
  refine ⟨_, rfl, q1, x, rfl, SqL.of h1, fun sc hs q H2 hq s2 rs => ?_, fun f hf H2 d s2 hd hx2 => ?_⟩
  · obtain ⟨os1, os2⟩ := read_okS hs
    have S2 := S1.same tb s2
    obtain ⟨us, hh, rr⟩ := S2.re
    have lus := paired_len rr
    have hst : Vasedf.step es (.check x) = (es, ⟨1, Vasedf.nats ((es.filter fun e => Vasedf.fits [e] sc).length :: es.map (Vasedf.missing sc))⟩) := by
      show (es, match Vaseda.read x with | .error f => _ | .ok s => _) = _
      rw [hs]
    refine ⟨_, rfl, h, rfl, ⟨_, SqL.of hh⟩, fun D hD => ?_⟩
    refine lc_list (K := K) (a := h) (xs := us) (fun i H' => Same H2 H' ∧ ∃ ys, H' D = some (.lst ys) ∧ ys.length = ((es.take i).filter fun e => Vasedf.fits [e] sc).length) ⟨Same.new hD, [], upd_same, rfl⟩ (fun i H3 _ ⟨s3, _⟩ => SqL.of (s3 _ _ hh)) ?_ ?_
    · rintro i y H3 hi ⟨s3, ys, h3, l3⟩
      obtain ⟨e, he, re⟩ := paired_get rr hi
      have oe1 := S.oe.2 e (List.mem_of_getElem? he)
      have hfl := List.length_filter_le (fun e => Vasedf.fits [e] sc) (es.take i)
      rw [List.length_take] at hfl
      have htk : ((es.take (i + 1)).filter fun e => Vasedf.fits [e] sc) = ((es.take i).filter fun e => Vasedf.fits [e] sc) ++ if Vasedf.fits [e] sc = true then [e] else [] := by
        rw [take_more he, List.filter_append, List.filter_cons]
        rfl
      refine ⟨rfl, _, rfl, _, rfl, q, y, sc, e, rfl, RepS.same s3 rs, os1, os2, RepX.same s3 re, oe1, fun H4 s4 => ⟨_, rfl, ite2 (fun c => ?_) fun c => ?_⟩⟩
      · rw [if_pos c] at htk
        refine ⟨_, rfl, ys, s4 _ _ h3, smallLt (m := 100) (by omega), Same.put (s3.trans s4) hD, _, upd_same, ?_⟩
        rw [htk, List.length_append, List.length_append, l3]
        rfl
      · rw [if_neg c, List.append_nil] at htk
        exact ⟨s3.trans s4, ys, s4 _ _ h3, by rw [htk]; exact l3⟩
    rintro H3 ⟨s3, ys, h3, l3⟩
    rw [lus, List.take_length] at l3
    have hfl := List.length_filter_le (fun e => Vasedf.fits [e] sc) es
    have hh3 := s3 _ _ hh
    refine ⟨_, rfl, D, _, rfl, .inl (SqL.of h3), small (m := 10) (by show 2 ≤ 10; decide), fun l1 hl1 => ?_⟩
    have s4 := Same.new (o := HO.lst [V.int 1, V.int (ys.length : Nat)]) hl1
    have h4l : upd H3 l1 (HO.lst [V.int 1, V.int (ys.length : Nat)]) l1 = some (HO.lst [V.int 1, V.int (ys.length : Nat)]) := upd_same
    have hh4 := s4 _ _ hh3
    have s24 := s3.trans s4
    generalize upd H3 l1 (HO.lst [V.int 1, V.int (ys.length : Nat)]) = H4 at *
    refine ⟨_, rfl, h, rfl, ⟨_, SqL.of hh4⟩, fun D2 hD2 => ?_⟩
    refine lc_list (K := K) (a := h) (xs := us) (fun i H' => Same H4 H' ∧ H' D2 = some (.lst ((es.map fun e => V.int (Vasedf.missing sc e : Nat)).take i))) ⟨Same.new hD2, upd_same⟩ (fun i H5 _ ⟨s5, _⟩ => SqL.of (s5 _ _ hh4)) ?_ ?_
    · rintro i y H5 hi ⟨s5, h5⟩
      obtain ⟨e, he, re⟩ := paired_get rr hi
      have hm2 : (es.map fun e => V.int (Vasedf.missing sc e : Nat))[i]? = some (V.int (Vasedf.missing sc e : Nat)) := by rw [List.getElem?_map, he]; rfl
      have s25 := s24.trans s5
      refine ⟨rfl, _, rfl, _, rfl, q, y, sc, e, rfl, RepS.same s25 rs, os1, os2, RepX.same s25 re, S.oe.2 e (List.mem_of_getElem? he), fun H6 s6 => ?_⟩
      refine ⟨_, s6 _ _ h5, smallLt (m := 100) (by rw [List.length_take, List.length_map]; omega), Same.put (s5.trans s6) hD2, ?_⟩
      rw [upd_same, take_more hm2]
    rintro H5 ⟨s5, h5⟩
    rw [List.take_of_length_le (by rw [List.length_map]; omega)] at h5
    have s25 := s24.trans s5
    refine ⟨l1, D2, _, _, rfl, rfl, s5 _ _ h4l, h5, small (m := 100) (by simp only [List.length_map, List.length_cons, List.length_nil]; omega), fun l hl => ?_⟩
    have e : [V.int 1, V.int (ys.length : Nat)] ++ (es.map fun e => V.int (Vasedf.missing sc e : Nat)) = iV ((1 : Int) :: Vasedf.nats ((es.filter fun e => Vasedf.fits [e] sc).length :: es.map (Vasedf.missing sc))) := by
      rw [l3]
      simp [iV, Vasedf.nats]
    rw [e]
    exact ans_end (ans := (1 : Int) :: Vasedf.nats ((es.filter fun e => Vasedf.fits [e] sc).length :: es.map (Vasedf.missing sc))) tb kq (S2.same tb s25) ((k1.trans (Keep2.same s2)).trans (Keep2.same s25)) hl hst (by simp) (by simp [Vasedf.nats]; omega)
  · refine ⟨true, T.e_Fault, fun _ a2 ha2 => ?_, fun z => nomatch z⟩
    refine ⟨_, rfl, rfl, rfl, d, _, _, rfl, hx2, rfl, _, rfl, rfl, rfl, d, _, _, rfl, hx2, rfl, small (m := 10) (by show 3 ≤ 10; decide), fun l hl => ?_⟩
    refine ans_end (ans := [0, (f.code : Int), (f.place : Int)]) tb kq (S1.same tb s2) (k1.trans (Keep2.same s2)) hl ?_ (by simp) (by simp)
    show (es, match Vaseda.read x with | .error f => _ | .ok s => _) = _
    rw [hf]
    rfl
end
end Ls
set_option Elab.async false
set_option linter.all false
set_option maxRecDepth 100000
set_option maxHeartbeats 4000000
/-! the calls in a list of whole numbers, by their places -/
namespace Ls
open PySem PySem.Spec PyProof.Rows L2
open VasedfNeutral (natural bytesOf callOf asked1)
/-- which calls a place has -/
def okN : Nat → Vasedf.Call → Prop
  | 0, c => ∃ x y, c = .example_ x y
  | 1, c => ∃ z, c = .drop z
  | 2, c => c = .shown
  | 3, c => c = .family
  | 4, c => c = .find
  | 5, c => c = .all
  | 6, c => ∃ x, c = .check x
  | 7, c => c = .nearest
  | 8, c => ∃ x y, c = .far x y
  | _, _ => False
theorem whole_id (c : List (List Int)) : PyVasedf.whole c = c := by
  unfold PyVasedf.whole
  split <;> rfl
theorem drop_cons {α : Type} {l : List α} {k : Nat} {x : α} {r : List α} (h : l.drop k = x :: r) : l[k]? = some x ∧ r = l.drop (k + 1) ∧ k < l.length := by
  have h1 : (l.drop k)[0]? = some x := by rw [h]; rfl
  rw [List.getElem?_drop] at h1
  have h2 : l[k]? = some x := by simpa using h1
  refine ⟨h2, ?_, (List.getElem?_eq_some_iff.mp h2).1⟩
  have h3 : (l.drop k).drop 1 = r := by rw [h]; rfl
  rw [List.drop_drop] at h3
  exact h3.symm
theorem byte_of {z : Int} (h : natural z 8 = true) : (((UInt8.ofNat z.toNat).toNat : Nat) : Int) = z := by
  unfold VasedfNeutral.natural at h
  simp only [Bool.and_eq_true, decide_eq_true_eq] at h
  have h2 : z.toNat < 256 := by omega
  rw [UInt8.toNat_ofNat_of_lt' (by simpa using h2)]
  omega
theorem bytes_back : ∀ x : List Int, (x.all fun z => natural z 8) = true → (bytesOf x).map (fun c => ((c.toNat : Nat) : Int)) = x
  | [], _ => rfl
  | z :: x, h => by
    have h : (natural z 8 && x.all fun z => natural z 8) = true := h
    obtain ⟨h1, h2⟩ := Bool.and_eq_true_iff.mp h
    show _ :: (bytesOf x).map _ = _
    rw [bytes_back x h2]
    exact congrArg (· :: x) (byte_of h1)
theorem bytes_is {x : List Int} (h : (x.all fun z => natural z 8) = true) : NeutralIO.bytes x = true := by
  unfold NeutralIO.bytes
  rw [List.all_eq_true] at h ⊢
  intro z hz
  have q := h z hz
  unfold VasedfNeutral.natural at q
  simp only [Bool.and_eq_true, decide_eq_true_eq] at q ⊢
  omega
theorem row_at {ns : List Int} {j : Nat} {x s : List Int} (h : PyFlat.row (ns.drop j) = some (x, s)) (hb : (x.all fun z => natural z 8) = true) : RowAt ns j (bytesOf x) ∧ s = ns.drop (j + 1 + (bytesOf x).length) ∧ (bytesOf x).length = x.length := by
  have hl : (bytesOf x).length = x.length := List.length_map ..
  cases hd : ns.drop j with
  | nil => rw [hd] at h; cases h
  | cons n r =>
    rw [hd] at h
    obtain ⟨h1, h2, h3⟩ := drop_cons hd
    have h : (if 0 ≤ n ∧ n.toNat ≤ r.length then some (r.take n.toNat, r.drop n.toNat) else none) = some (x, s) := h
    split at h
    · rename_i c
      injection h with h
      injection h with e1 e2
      have lx : x.length = n.toNat := by rw [← e1, List.length_take]; omega
      have lr : r.length = ns.length - (j + 1) := by rw [h2, List.length_drop]
      refine ⟨⟨?_, by omega, ?_⟩, ?_, hl⟩
      · rw [h1, hl, lx]
        congr 1
        omega
      · rw [bytes_back x hb, hl, lx, ← h2, e1]
      · rw [hl, lx, ← e2, h2, List.drop_drop]
    · cases h
theorem rows0 {l : List Int} {xs : List (List Int)} {t : List Int} (h : PyFlat.rows 0 l = some (xs, t)) : xs = [] ∧ t = l := by
  have h : some (([] : List (List Int)), l) = some (xs, t) := h
  injection h with h
  injection h with e1 e2
  exact ⟨e1.symm, e2.symm⟩
theorem rows_cons {k : Nat} {l : List Int} {xs : List (List Int)} {t : List Int} (h : PyFlat.rows (k + 1) l = some (xs, t)) : ∃ x s ys, PyFlat.row l = some (x, s) ∧ PyFlat.rows k s = some (ys, t) ∧ xs = x :: ys := by
  unfold PyFlat.rows at h
  cases h1 : PyFlat.row l with
  | none => rw [h1] at h; cases h
  | some q =>
    obtain ⟨x, s⟩ := q
    rw [h1] at h
    have h : (match PyFlat.rows k s with | none => none | some (xs, t) => some (x :: xs, t)) = some (xs, t) := h
    cases h2 : PyFlat.rows k s with
    | none => rw [h2] at h; cases h
    | some q =>
      obtain ⟨ys, u⟩ := q
      rw [h2] at h
      have h : some (x :: ys, u) = some (xs, t) := h
      injection h with h
      injection h with e1 e2
      subst e2
      exact ⟨x, s, ys, rfl, h2, e1.symm⟩
theorem call_eq (p : Int) (r : List Int) : PyFlat.call PyVasedf.shape (p :: r) = (match PyVasedf.shape p with
    | none => none
    | some (n, k) => if r.length < n then none else match PyFlat.rows k (r.drop n) with
      | none => none
      | some (xs, t) => some ((p :: r.take n) :: xs, t)) := rfl
theorem call_of {p : Int} {r : List Int} {n k : Nat} {c : List (List Int)} {t : List Int} (h : PyFlat.call PyVasedf.shape (p :: r) = some (c, t)) (hs : PyVasedf.shape p = some (n, k)) : n ≤ r.length ∧ ∃ xs, PyFlat.rows k (r.drop n) = some (xs, t) ∧ c = (p :: r.take n) :: xs := by
  rw [call_eq, hs] at h
  have h : (if r.length < n then none else match PyFlat.rows k (r.drop n) with | none => none | some (xs, t) => some ((p :: r.take n) :: xs, t)) = some (c, t) := h
  split at h
  · cases h
  · rename_i hn
    cases h2 : PyFlat.rows k (r.drop n) with
    | none => rw [h2] at h; cases h
    | some q =>
      obtain ⟨ys, u⟩ := q
      rw [h2] at h
      have h : some ((p :: r.take n) :: ys, u) = some (c, t) := h
      injection h with h
      injection h with e1 e2
      subst e2
      exact ⟨by omega, ys, rfl, e1.symm⟩
/-- what a step of the reading finds at k -/
structure Step1 (ns : List Int) (k : Nat) (c : List (List Int)) (t : List Int) (i k' : Nat) (vc : Vasedf.Call) : Prop where
  at_ : ns[k]? = some (i : Int)
  lt : i < 9
  ok : okN i vc
  call : CallAt ns (k + 1) k' vc
  rest : t = ns.drop k'
  of_ : callOf c = some vc
theorem two_rows {ns : List Int} {k : Nat} {xs : List (List Int)} {t : List Int} (h : PyFlat.rows 2 (ns.drop k) = some (xs, t)) : ∃ x y s, xs = [x, y] ∧ PyFlat.row (ns.drop k) = some (x, s) ∧ PyFlat.row s = some (y, t) := by
  obtain ⟨x, s, ys, h1, h2, rfl⟩ := rows_cons h
  obtain ⟨y, s2, zs, h3, h4, rfl⟩ := rows_cons h2
  obtain ⟨rfl, rfl⟩ := rows0 h4
  exact ⟨x, y, s, rfl, h1, h3⟩
theorem step_at {ns : List Int} {k : Nat} {c : List (List Int)} {t : List Int} (h : PyFlat.call PyVasedf.shape (ns.drop k) = some (c, t)) (ha : asked1 c = true) : ∃ i k' vc, Step1 ns k c t i k' vc := by
  cases hd : ns.drop k with
  | nil => rw [hd] at h; cases h
  | cons p r =>
    rw [hd] at h
    obtain ⟨h1, h2, h3⟩ := drop_cons hd
    have two : ∀ {i : Nat}, PyVasedf.shape p = some (0, 2) → p = (i : Int) → ∃ x y s, c = [[(i : Int)], x, y] ∧ PyFlat.row (ns.drop (k + 1)) = some (x, s) ∧ PyFlat.row s = some (y, t) := by
      intro i hs hp
      obtain ⟨_, xs, h5, h6⟩ := call_of h hs
      rw [List.drop_zero, h2] at h5
      obtain ⟨x, y, s, rfl, h7, h8⟩ := two_rows h5
      exact ⟨x, y, s, by rw [h6, hp, List.take_zero], h7, h8⟩
    have nul : ∀ {i : Nat}, PyVasedf.shape p = some (0, 0) → p = (i : Int) → c = [[(i : Int)]] ∧ t = ns.drop (k + 1) := by
      intro i hs hp
      obtain ⟨_, xs, h5, h6⟩ := call_of h hs
      obtain ⟨ex, et⟩ := rows0 h5
      rw [List.drop_zero, h2] at et
      exact ⟨by rw [h6, ex, hp, List.take_zero], et⟩
    have both : ∀ {x y s : List Int}, PyFlat.row (ns.drop (k + 1)) = some (x, s) → PyFlat.row s = some (y, t) → (((x.all (fun (z : Int) => natural z 8)) && decide (x.length ≤ 8192)) && ((y.all (fun (z : Int) => natural z 8)) && decide (y.length ≤ 8192))) = true →
        (NeutralIO.bytes x && NeutralIO.bytes y) = true ∧ RowAt ns (k + 1) (bytesOf x) ∧ RowAt ns (k + 1 + 1 + (bytesOf x).length) (bytesOf y) ∧ (bytesOf x).length ≤ 8192 ∧ (bytesOf y).length ≤ 8192 ∧ t = ns.drop (k + 1 + 1 + (bytesOf x).length + 1 + (bytesOf y).length) := by
      intro x y s h7 h8 q
      simp only [Bool.and_eq_true, decide_eq_true_eq] at q
      obtain ⟨⟨q1, q2⟩, q3, q4⟩ := q
      obtain ⟨r1, r2, r3⟩ := row_at h7 q1
      rw [r2] at h8
      obtain ⟨r4, r5, r6⟩ := row_at h8 q3
      exact ⟨by rw [bytes_is q1, bytes_is q3]; rfl, r1, r4, by omega, by omega, r5⟩
    by_cases p0 : p = 0
    · obtain ⟨x, y, s, rfl, h7, h8⟩ := two (i := 0) (by rw [p0]; rfl) p0
      obtain ⟨b0, b1, b2, b3, b4, b5⟩ := both h7 h8 ha
      exact ⟨0, _, .example_ (bytesOf x) (bytesOf y), by rw [h1, p0]; rfl, by decide, ⟨_, _, rfl⟩, ⟨b1, b2, rfl, b3, b4⟩, b5, if_pos b0⟩
    by_cases p1 : p = 1
    · obtain ⟨h4, xs, h5, h6⟩ := call_of h (show PyVasedf.shape p = some (1, 0) by rw [p1]; rfl)
      obtain ⟨rfl, rfl⟩ := rows0 h5
      cases hr : r with
      | nil => rw [hr] at h4; simp at h4
      | cons z r2 =>
        rw [hr] at h2 h6
        obtain ⟨h7, h8, h9⟩ := drop_cons h2.symm
        refine ⟨1, k + 2, .drop z, by rw [h1, p1]; rfl, by decide, ⟨_, rfl⟩, ⟨h7, rfl⟩, ?_, ?_⟩
        · show r2 = _
          rw [h8]
        · rw [h6, p1]
          rfl
    by_cases p2 : p = 2
    · obtain ⟨rfl, e⟩ := nul (i := 2) (by rw [p2]; rfl) p2
      exact ⟨2, _, .shown, by rw [h1, p2]; rfl, by decide, rfl, rfl, e, rfl⟩
    by_cases p3 : p = 3
    · obtain ⟨rfl, e⟩ := nul (i := 3) (by rw [p3]; rfl) p3
      exact ⟨3, _, .family, by rw [h1, p3]; rfl, by decide, rfl, rfl, e, rfl⟩
    by_cases p4 : p = 4
    · obtain ⟨rfl, e⟩ := nul (i := 4) (by rw [p4]; rfl) p4
      exact ⟨4, _, .find, by rw [h1, p4]; rfl, by decide, rfl, rfl, e, rfl⟩
    by_cases p5 : p = 5
    · obtain ⟨rfl, e⟩ := nul (i := 5) (by rw [p5]; rfl) p5
      exact ⟨5, _, .all, by rw [h1, p5]; rfl, by decide, rfl, rfl, e, rfl⟩
    by_cases p6 : p = 6
    · obtain ⟨_, xs, h5, h6⟩ := call_of h (show PyVasedf.shape p = some (0, 1) by rw [p6]; rfl)
      rw [List.drop_zero, h2] at h5
      obtain ⟨x, s, ys, h7, h8, rfl⟩ := rows_cons h5
      obtain ⟨rfl, rfl⟩ := rows0 h8
      rw [p6, List.take_zero] at h6
      subst h6
      have q : ((x.all (fun (z : Int) => natural z 8)) && decide (x.length ≤ 8192)) = true := ha
      simp only [Bool.and_eq_true, decide_eq_true_eq] at q
      obtain ⟨r1, r2, r3⟩ := row_at h7 q.1
      exact ⟨6, _, .check (bytesOf x), by rw [h1, p6]; rfl, by decide, ⟨_, rfl⟩, ⟨r1, rfl, by omega⟩, r2, if_pos (bytes_is q.1)⟩
    by_cases p7 : p = 7
    · obtain ⟨rfl, e⟩ := nul (i := 7) (by rw [p7]; rfl) p7
      exact ⟨7, _, .nearest, by rw [h1, p7]; rfl, by decide, rfl, rfl, e, rfl⟩
    by_cases p8 : p = 8
    · obtain ⟨x, y, s, rfl, h7, h8⟩ := two (i := 8) (by rw [p8]; rfl) p8
      obtain ⟨b0, b1, b2, b3, b4, b5⟩ := both h7 h8 ha
      exact ⟨8, _, .far (bytesOf x) (bytesOf y), by rw [h1, p8]; rfl, by decide, ⟨_, _, rfl⟩, ⟨b1, b2, rfl, b3, b4⟩, b5, if_pos b0⟩
    · have hn : PyVasedf.shape p = none := by
        unfold PyVasedf.shape
        rw [if_neg p0, if_neg p1, if_neg p2, if_neg p3, if_neg p4, if_neg p5, if_neg p6, if_neg p7, if_neg p8]
      rw [call_eq, hn] at h
      cases h
theorem calls_nil {ns : List Int} {f k : Nat} (h : PyFlat.calls PyVasedf.shape f (ns.drop k) = some []) : ¬ k < ns.length := by
  intro hk
  cases hd : ns.drop k with
  | nil =>
    have := congrArg List.length hd
    rw [List.length_drop] at this
    simp at this
    omega
  | cons p r =>
    rw [hd] at h
    cases f with
    | zero => cases h
    | succ f =>
      unfold PyFlat.calls at h
      cases h1 : PyFlat.call PyVasedf.shape (p :: r) with
      | none => rw [h1] at h; cases h
      | some q =>
        obtain ⟨c, t⟩ := q
        rw [h1] at h
        have h : (match PyFlat.calls PyVasedf.shape f t with | none => none | some cs => some (c :: cs)) = some [] := h
        split at h <;> cases h
theorem calls_cons {ns : List Int} {f k : Nat} {c : List (List Int)} {cs : List (List (List Int))} (h : PyFlat.calls PyVasedf.shape f (ns.drop k) = some (c :: cs)) : k < ns.length ∧ ∃ t f', PyFlat.call PyVasedf.shape (ns.drop k) = some (c, t) ∧ PyFlat.calls PyVasedf.shape f' t = some cs := by
  cases hd : ns.drop k with
  | nil =>
    rw [hd] at h
    cases f <;> cases h
  | cons p r =>
    rw [hd] at h
    refine ⟨(drop_cons hd).2.2, ?_⟩
    cases f with
    | zero => cases h
    | succ f =>
      unfold PyFlat.calls at h
      cases h1 : PyFlat.call PyVasedf.shape (p :: r) with
      | none => rw [h1] at h; cases h
      | some q =>
        obtain ⟨c2, t⟩ := q
        rw [h1] at h
        have h : (match PyFlat.calls PyVasedf.shape f t with | none => none | some cs => some (c2 :: cs)) = some (c :: cs) := h
        cases h2 : PyFlat.calls PyVasedf.shape f t with
        | none => rw [h2] at h; cases h
        | some cs2 =>
          rw [h2] at h
          have h : some (c2 :: cs2) = some (c :: cs) := h
          injection h with h
          injection h with e1 e2
          subst e1
          subst e2
          exact ⟨t, f, rfl, h2⟩
/-- what is asked, told as a start of the reading -/
theorem asked_start {ns : List Int} (h : PyVasedf.answers_asked ns = true) : ∃ cs, PyFlat.calls PyVasedf.shape ns.length (ns.drop 0) = some cs ∧ cs.length ≤ 10 ∧ (∀ c ∈ cs, asked1 c = true) ∧ PyVasedf.answers ns = PyFlat.told (PyFlat.played VasedfNeutral.step VasedfNeutral.start cs) := by
  unfold PyVasedf.answers_asked at h
  cases h1 : PyFlat.calls PyVasedf.shape ns.length ns with
  | none => rw [h1] at h; cases h
  | some cs =>
    rw [h1] at h
    have h : (!cs.isEmpty && PyFlat.atMost 10 cs && PyInside.calls PyVasedf.bound cs && VasedfNeutral.asked (cs.map PyVasedf.whole) && PyFlat.short 10000000 (PyVasedf.answers ns)) = true := h
    simp only [Bool.and_eq_true] at h
    obtain ⟨⟨⟨⟨_, h2⟩, _⟩, h3⟩, _⟩ := h
    have e : cs.map PyVasedf.whole = cs := by
      rw [show PyVasedf.whole = id from funext whole_id, List.map_id]
    rw [e] at h3
    unfold VasedfNeutral.asked at h3
    refine ⟨cs, h1, of_decide_eq_true h2, ?_, ?_⟩
    · have h4 := (Bool.and_eq_true_iff.mp h3).1
      exact fun c hc => List.all_eq_true.mp h4 c hc
    · unfold PyVasedf.answers PyVasedf.calls
      rw [h1]
      show PyFlat.told (PyFlat.played _ _ (cs.map PyVasedf.whole)) = _
      rw [e]
end Ls
set_option Elab.async false
set_option linter.all false
set_option maxRecDepth 100000
set_option maxHeartbeats 4000000
/-! ts[i](e, ..): a call of a def that an index picks: a rule that the layer lacks. -/
namespace Ls
open PySem PySem.Spec PyProof.Rows L2
/-- the callee is one of several defs; its promise goes with its address -/
def tCallIx (S : Addr → Sp → Prop) (tf : TE) (t : TA) : TE := fun σ H Q => tf σ H fun v H1 => ∃ f sp, v = .ref f ∧ S f sp ∧ t σ H1 fun vs H2 => sp vs H2 Q E0
section
variable {X : Cx} {k : Nat} {a b e : Expr} {es : List Expr} {p pos : Pos} {tf : TE} {t : TA}
theorem pe_callIx {S : Addr → Sp → Prop} (hf : PE X (.Subscript a b p) tf) (A : ∀ f sp, S f sp → Held X.prog X.w X.K X.mg X.base k f sp) (hr : Room k X.A) (ha : PA X (e :: es) t)
    (he : starEach (e :: es) X.env = (false, eval e X.env) :: starEach es X.env := by rfl) (hpl : (backTo pos (starEach es X.env)).any (·.1) = false := by rfl) : PE X (.Call (.Subscript a b p) (e :: es) [] pos) (tCallIx S tf t) := by
  refine ⟨fun pins s σ H Q I h => ?_⟩
  refine Call_ (thn (hf.run pins s σ H _ I h) fun u s1 ⟨v, H1, I1, r1, f, sp, e1, hS, q1⟩ => ?_)
  subst e1
  cases r1
  obtain ⟨fd, ps, F, hk, hb⟩ := (A f sp hS).ex
  refine PySem.W.callWith_K (h₀ := X.base) I.ok.mod.kin hk (thn (ha.run pos pins s1 σ _ _ I1 q1) fun us s2 ⟨vs, H2, I2, r, q⟩ => ⟨I2.kIn, ?_⟩) he hpl
  exact run_fn F hr hb .nil (fun _ _ _ _ _ _ _ z => z.elim) I2 r (by rw [List.append_nil]; exact q)
end
end Ls
set_option Elab.async false
set_option linter.all false
set_option maxRecDepth 100000
set_option maxHeartbeats 4000000
/-! answers: the calls one by one -/
namespace Ls
open PySem PySem.Spec PyProof.Rows L2
open LamX (TabB TabS CodeO ExtN)
open VasedfNeutral (asked1 callOf)
theorem sqL_sm {K : PySem.W.Frag} {H H' : Hp} {a : Addr} {xs : List V} (s : Same H H') (h : SqL K H a xs) : SqL K H' a xs := by
  rcases h with (q | ⟨o, q⟩) | q
  · exact .inl (.inl (s _ _ q))
  · exact .inl (.inr ⟨o, s _ _ q⟩)
  · exact .inr q
/-! ### what is tracked, told otherwise -/
/-- a list, told as a fact of the heap -/
def LstX (a : Addr) (xs : List V) : HO := .ext fun h => xs.length ≤ sizeLine ∧ ∃ (its : List Value) (n : Nat), Vals xs its ∧ h.get? a = some { cls := .type "list", data := .seq its.toArray n }
def extO : HO → Bool
  | .ext _ => true
  | _ => false
section
variable {X : Cx} {pins : List (Addr × Obj)} {σ : L2.St} {H : Hp} {s : Shared} {a : Addr} {xs : List V}
theorem iv_veil (I : Inv X pins σ H s) (e : H a = some (.lst xs)) : Inv X pins σ (upd H a (LstX a xs)) s := by
  refine iv_turn I e (fun _ z => by cases z) (fun _ _ z => by cases z) (fun _ z => by cases z) (fun _ z => by cases z) ?_
  have q : ObjOk X.prog X.w H s.heap a (.lst xs) := I.hok a _ e
  obtain ⟨z, its, n, r, g⟩ := q
  exact ⟨⟨z, its, n, r, g⟩, ⟨_, g⟩, fun h1 h2 ⟨z, its, n, r, g⟩ st => ⟨z, its, n, r, st _ g⟩⟩
theorem iv_unveil (I : Inv X pins σ H s) (e : H a = some (LstX a xs)) : Inv X pins σ (upd H a (.lst xs)) s := by
  refine iv_turn I e (fun _ z => by unfold LstX at z; cases z) (fun _ _ z => by unfold LstX at z; cases z) (fun _ z => by unfold LstX at z; cases z) (fun _ z => by unfold LstX at z; cases z) ?_
  have q : ObjOk X.prog X.w H s.heap a (LstX a xs) := I.hok a _ e
  exact q.1
/-- it is no code object -/
theorem veil_ne {q : Str} (I : Inv X pins σ H s) (e : H a = some (LstX a xs)) : ∀ c, H c = some (CodeO c q) → c ≠ a := by
  intro c hc z
  subst z
  have h1 : ObjOk X.prog X.w H s.heap c (LstX c xs) := I.hok c _ e
  have h2 : ObjOk X.prog X.w H s.heap c (CodeO c q) := I.hok c _ hc
  obtain ⟨⟨_, its, n, _, g⟩, _⟩ := h1
  obtain ⟨⟨oc, vs, t, g2, d, _⟩, _⟩ := h2
  rw [g] at g2
  cases g2
  cases d
/-- what is tracked is not written -/
theorem iv_notK {o : HO} (I : Inv X pins σ H s) (e : H a = some o) : X.K.lookup a = none := by
  cases z : X.K.lookup a with
  | none => rfl
  | some u =>
    have q := (I.bs a u (I.mod.kin a u z)).2
    rw [e] at q
    cases q
end
/-- the heap told otherwise ahead of a statement -/
def tRe (X : Cx) (t : TS) : TS := fun D σ H => ∀ (pins : List (Addr × Obj)) (s : Shared), Inv X pins σ H s → ∃ H', Inv X pins σ H' s ∧ t D σ H'
theorem ps_re {X : Cx} {st : Stmt} {t : TS} (h : PS X st t) : PS X st (tRe X t) := by
  constructor
  intro pins s σ H D I q
  obtain ⟨H', J, q'⟩ := q pins s I
  exact h.run pins s σ H' D J q'
section
variable {K : PySem.W.Frag} {H H' : Hp} {h p dx a tl : Addr} {k : Nat} {ns : List Int} {es : List VEx}
theorem rd_off (R : RdAt K H p dx a k ns) (e : ∀ b u, H b = some u → extO u = false → H' b = some u) : RdAt K H' p dx a k ns := by
  refine ⟨e _ _ R.ob rfl, ?_⟩
  rcases R.sq with (q | ⟨o, q⟩) | q
  · exact .inl (.inl (e _ _ q rfl))
  · exact .inl (.inr ⟨o, e _ _ q rfl⟩)
  · exact .inr q
theorem StAt.off {TB : Hp → Prop} (S : StAt K TB H h p dx a k ns es) (e : ∀ b u, H b = some u → extO u = false → H' b = some u) (t : TB H') : StAt K TB H' h p dx a k ns es := by
  refine ⟨?_, S.oe, rd_off S.rd e, S.nap, S.nah, t⟩
  obtain ⟨vs, g, r⟩ := S.re
  refine ⟨vs, e _ _ g rfl, paired_imp ?_ r⟩
  rintro x y ⟨p, dx, b, c, q, h1, h2, h3⟩
  exact ⟨p, dx, b, c, q, e _ _ h1 rfl, e _ _ h2 rfl, e _ _ h3 rfl⟩
theorem off_upd {xs : List V} {o : HO} (hx : H tl = some (LstX tl xs)) : ∀ b u, H b = some u → extO u = false → upd H tl o b = some u := by
  intro b u hb n
  rw [upd_ne]
  · exact hb
  · intro z
    rw [z, hx] at hb
    cases hb
    cases n
theorem near_off {xs : List V} {o : HO} (hx : H tl = some (LstX tl xs)) (nc : ∀ c, H c = some (CodeO c lamName) → c ≠ tl) (t : NearT K H) : NearT K (upd H tl o) := by
  obtain ⟨ps, h1, h2, h3⟩ := t
  refine ⟨ps, off_upd hx _ _ h1 rfl, h2, fun pos cv hc => ?_⟩
  obtain ⟨c, e1, e2⟩ := h3 pos cv hc
  exact ⟨c, e1, by rw [upd_ne (nc c e2)]; exact e2⟩
end
/-! ### the call's defs -/
def cName : Nat → Str
  | 0 => "answer_example"
  | 1 => "answer_drop"
  | 2 => "answer_shown"
  | 3 => "answer_family"
  | 4 => "answer_find"
  | 5 => "answer_all"
  | 6 => "answer_check"
  | 7 => "answer_nearest"
  | _ => "answer_far"
def SAns (K : PySem.W.Frag) : Addr → Sp → Prop := fun f sp => ∃ i, i < 9 ∧ f = He.ga K (cName i) ∧ sp = AnsP K (NearT K) (okN i)
theorem calls_get {i : Nat} (h : i < 9) : tup_CALLS[i]? = some (.glo (cName i)) := by
  have q : ∀ i : Fin 9, tup_CALLS[i.val]? = some (.glo (cName i.val)) := by
    intro i
    match i with
    | 0 => rfl
    | 1 => rfl
    | 2 => rfl
    | 3 => rfl
    | 4 => rfl
    | 5 => rfl
    | 6 => rfl
    | 7 => rfl
    | 8 => rfl
  exact q ⟨i, h⟩
section
variable {P : Program} {w : World} {K : PySem.W.Frag} {mg : Str → Option Value} {base : Heap}
theorem held_of {k : Nat} {x : Str} {sp : Sp} (D : DOk P w K mg base CX0 k x sp) (hm : mg x = some (.ref (He.ga K x))) (hk : k ≤ 13) : Held P w K mg base 13 (He.ga K x) sp := by
  obtain ⟨f, fd, ps, G, h1, h2, h3⟩ := D.ex
  rw [hm] at h1
  cases h1
  exact ⟨fd, ps, G.mono hk, h2, h3⟩
theorem held_all (T : Txt K mg) (B : TabB base mg (cdAd K) (tbAd K)) : ∀ f sp, SAns K f sp → Held P w K mg base 13 f sp := by
  rintro f sp ⟨i, hi, rfl, rfl⟩
  have tb := tbok_near K
  match i, hi with
  | 0, _ => exact held_of (ok_answer_example tb T) T.g_answer_example (by decide)
  | 1, _ => exact held_of (ok_answer_drop tb T) T.g_answer_drop (by decide)
  | 2, _ => exact held_of (ok_answer_shown tb T) T.g_answer_shown (by decide)
  | 3, _ => exact held_of (ok_answer_family tb T) T.g_answer_family (by decide)
  | 4, _ => exact held_of (ok_answer_find tb T) T.g_answer_find (by decide)
  | 5, _ => exact held_of (ok_answer_all tb T) T.g_answer_all (by decide)
  | 6, _ => exact held_of (ok_answer_check tb T) T.g_answer_check (by decide)
  | 7, _ => exact held_of (ok_answer_nearest T B) T.g_answer_nearest (by decide)
  | 8, _ => exact held_of (ok_answer_far tb T) T.g_answer_far (by decide)
  | n + 9, h => exact absurd h (by omega)
end
theorem sc_answers : FnScope ["calls", "reader", "held", "told", "answer"] ["calls"] (defScope s_answers) := ⟨rfl, rfl, rfl, by decide +kernel, rfl, by decide +kernel, by decide +kernel⟩
theorem main_ok : MainOk 14 := by
  intro w K mg base T B fd F
  have sc := sc_answers
  have K_CallReader := ok_CallReader (P := R.prog) (w := w) (base := base) T
  have K_CallReader_has_more := ok_has_more (P := R.prog) (w := w) (base := base) T
  have K_CallReader_read_number := ok_read_number (P := R.prog) (w := w) (base := base) T
  have hA := held_all (P := R.prog) (w := w) (base := base) T B
  have tb := tbok_near K
  refine F.ok sc (fun vs H Q E h => by obtain ⟨_, _, rfl, _⟩ := h; rfl) (fun cdv A outer s H vs Q E hr h => ?_)
  refine ⟨_, PSs.nox (pss_cons (ps_set (i := 1) sc.nd rfl (Or.inl rfl) (pe_mk K_CallReader hr (by first | decide | omega) rfl (pa_cons (pv 0) pa_nil)))
    (pss_cons (ps_re (ps_set (i := 2) sc.nd rfl (Or.inl rfl) (pe_lst pa_nil)))
    (pss_cons (ps_re (ps_set (i := 3) sc.nd rfl (Or.inl rfl) (pe_lst pa_nil)))
    (pss_cons (ps_while PassesOwn.never (pt_val (pe_mt0 (pv 1) K_CallReader_has_more hr (by first | decide | omega)))
    (pss_cons (ps_re (ps_set (i := 4) sc.nd rfl (Or.inl rfl) (pe_callIx (S := SAns K) (k := 13) (pe_ix (ix_tupK (K := K) rfl) (pe_glob (v := .ref (He.ga K "CALLS")) rfl T.g_CALLS rfl) (pe_mt0 (pv 1) K_CallReader_read_number hr (by first | decide | omega)) (fun _ _ => rfl)) hA hr (pa_cons (pv 2) (pa_cons (pv 1) pa_nil)))))
      (pss_cons (ps_re (ps_expr (pe_bmK (K := K) rfl PySem.F.plainAttrs_list PySem.F.slot_list_append PySem.F.type_list_append mt_append (pv 3) (pa_cons (pe_callB (call_len_seqK (K := K) rfl) rfl T.b_len boot_len (pa_cons (pv 4) pa_nil)) pa_nil))))
      (pss_one (ps_expr (pe_bmK (K := K) rfl PySem.F.plainAttrs_list PySem.F.slot_list_extend PySem.F.type_list_extend mt_extend (pv 3) (pa_cons (pv 4) pa_nil)))))))
    (pss_one (ps_ret (pv 3))))))), ?_⟩
  obtain ⟨a, ns, rfl, hs, tab, asked, hlen, kq⟩ := h
  obtain ⟨cs0, hcs, c10, ca0, eans⟩ := asked_start asked
  rw [eans] at kq
  refine ⟨_, rfl, fun p dx hp hdx ne => ⟨p, dx, a, rfl, upd_same, rfl, ?_⟩⟩
  rw [upd_upd]
  have s1 := new_ins (K := K) (C := He.ga K "CallReader") (fs := rdF a 0) hp hdx ne
  have g1 : upd (upd H dx (.own p)) p (.ins (He.ga K "CallReader") dx (rdF a 0)) p = some (.ins (He.ga K "CallReader") dx (rdF a 0)) := upd_same
  generalize upd (upd H dx (.own p)) p (.ins (He.ga K "CallReader") dx (rdF a 0)) = H1 at s1 g1 ⊢
  intro pins1 s1' I1
  have kp : K.lookup p = none := iv_notK I1 g1
  have nap : a ≠ p := by
    intro e
    subst e
    rcases hs with (q | ⟨o, q⟩) | ⟨o, its, n, q, _⟩
    · rw [hp] at q; cases q
    · rw [hp] at q; cases q
    · rw [kp] at q; cases q
  refine ⟨H1, I1, small (m := 10) (by show 0 ≤ 10; decide), fun h hh => ?_⟩
  intro pins2 s2' I2
  have kh : K.lookup h = none := iv_notK I2 upd_same
  have hs1 := sqL_sm s1 hs
  have nah : a ≠ h := by
    intro e
    subst e
    rcases hs1 with (q | ⟨o, q⟩) | ⟨o, its, n, q, _⟩
    · rw [hh] at q; cases q
    · rw [hh] at q; cases q
    · rw [kh] at q; cases q
  have s2 := Same.new (o := HO.lst []) hh
  have S0 : StAt K (NearT K) (upd H1 h (.lst [])) h p dx a 0 ns [] := ⟨⟨[], upd_same, .nil⟩, ⟨by simp, fun e he => by simp at he⟩, ⟨s2 _ _ g1, sqL_sm s2 hs1⟩, nap, nah, (tab.ext s1).ext s2⟩
  refine ⟨_, I2, small (m := 10) (by show 0 ≤ 10; decide), fun tl ht => ?_⟩
  have ntp : tl ≠ p := Ne.symm (ne_of_none S0.rd.ob ht)
  have nth : tl ≠ h := by
    intro e
    rw [e, upd_same] at ht
    cases ht
  generalize upd H1 h (.lst []) = H2 at S0 ht
  refine ⟨fun m σ H' => ∃ (v4 : Option V) (k f : Nat) (cs : List (List (List Int))) (es : List VEx) (done : List Int) (Hv : Hp), σ = [some (.ref a), some (.ref p), some (.ref h), some (.ref tl), v4] ∧ m = cs.length ∧ H' = upd Hv tl (.lst (iV done)) ∧
    StAt K (NearT K) (upd Hv tl (LstX tl (iV done))) h p dx a k ns es ∧ PyFlat.calls PyVasedf.shape f (ns.drop k) = some cs ∧ cs.length ≤ 10 ∧ (∀ c ∈ cs, asked1 c = true) ∧ done.length + 12001 * cs.length ≤ 120010 ∧
    done ++ PyFlat.told (PyFlat.played VasedfNeutral.step es cs) = PyFlat.told (PyFlat.played VasedfNeutral.step VasedfNeutral.start cs0), ⟨cs0.length, none, 0, _, cs0, [], [], H2, rfl, rfl, rfl, S0.same tb (Same.new ht), hcs, c10, ca0, by rw [List.length_nil]; omega, rfl⟩, ?_⟩
  rintro m σ H' ⟨v4, k, f, cs, es, done, Hv, rfl, rfl, rfl, S, hc, hl10, ca, hdl, et⟩
  have hx : upd Hv tl (LstX tl (iV done)) tl = some (LstX tl (iV done)) := upd_same
  have Rd : RdAt K (upd Hv tl (.lst (iV done))) p dx a k ns := by
    have q := rd_off S.rd (off_upd (o := .lst (iV done)) hx)
    rw [upd_upd] at q
    exact q
  refine ⟨_, rfl, p, dx, _, rfl, Rd.ob, rfl, p, dx, a, k, ns, rfl, Rd, _, rfl, ?_⟩
  cases cs with
  | nil =>
    rw [decide_eq_false (calls_nil hc), if_neg (by decide)]
    refine ⟨_, rfl, kq _ tl ?_⟩
    rw [upd_same, ← et]
    show some (HO.lst (iV done)) = some (HO.lst ((done ++ []).map V.int))
    rw [List.append_nil]
    rfl
  | cons c cs =>
    obtain ⟨lt, t, f', h1, h2⟩ := calls_cons hc
    rw [decide_eq_true lt, if_pos rfl]
    obtain ⟨i, k', vc, st⟩ := step_at h1 (ca c (List.mem_cons_self ..))
    refine ⟨fun σ' H' => ∃ (v4 : Option V) (k f : Nat) (cs' : List (List (List Int))) (es : List VEx) (done : List Int) (Hv : Hp), σ' = [some (.ref a), some (.ref p), some (.ref h), some (.ref tl), v4] ∧ cs.length = cs'.length ∧ H' = upd Hv tl (.lst (iV done)) ∧
      StAt K (NearT K) (upd Hv tl (LstX tl (iV done))) h p dx a k ns es ∧ PyFlat.calls PyVasedf.shape f (ns.drop k) = some cs' ∧ cs'.length ≤ 10 ∧ (∀ c ∈ cs', asked1 c = true) ∧ done.length + 12001 * cs'.length ≤ 120010 ∧
      done ++ PyFlat.told (PyFlat.played VasedfNeutral.step es cs') = PyFlat.told (PyFlat.played VasedfNeutral.step VasedfNeutral.start cs0), fun σ' H' q => ⟨cs.length, Nat.lt_succ_self _, q⟩, ?_⟩
    intro pins3 s3' I3
    have I4 := iv_veil I3 (a := tl) (xs := iV done) upd_same
    rw [upd_upd] at I4
    refine ⟨_, I4, ?_⟩
    refine ⟨_, rfl, p, dx, _, rfl, S.rd.ob, rfl, p, dx, a, k, ns, (i : Int), rfl, S.rd, S.nap, st.at_, fun H3 s3 R3 => ?_⟩
    have S3 := S.kpo tb s3 R3
    have h3tl := s3 _ _ hx ntp
    have hget : (tup_CALLS.map (He.Dv.v K))[i]? = some (.ref (He.ga K (cName i))) := by
      rw [List.getElem?_map, calls_get st.lt]
      rfl
    refine ⟨_, _, _, _, rfl, rfl, He.tupB_ok T.t_CALLS _, atI_at hget, He.ga K (cName i), AnsP K (NearT K) (okN i), rfl, ⟨i, st.lt, rfl, rfl⟩, ?_⟩
    refine ⟨_, rfl, _, rfl, h, p, dx, a, k + 1, k', ns, es, vc, rfl, st.ok, S3, st.call, fun H4 q hq kp4 S4 h4 hl4 => ?_⟩
    have h4tl : H4 tl = some (LstX tl (iV done)) := kp4 _ _ h3tl nth ntp (fun ps z => by unfold LstX at z; cases z)
    have nqt : q ≠ tl := by
      intro e
      rw [e, h3tl] at hq
      cases hq
    generalize hans : encA (Vasedf.step es vc).2 = ans at h4 hl4
    intro pins5 s5' I5
    have nc := veil_ne (q := lamName) I5 h4tl
    refine ⟨_, iv_unveil I5 h4tl, ?_⟩
    have l4 : (iV ans).length = ans.length := List.length_map ..
    have ld : (iV done).length = done.length := List.length_map ..
    have hdl2 : done.length + 12001 * (cs.length + 1) ≤ 120010 := hdl
    have sz : (120020 : Nat) < sizeLine := by decide
    have e4 : upd H4 tl (.lst (iV done)) q = some (.lst (iV ans)) := by rw [upd_ne nqt]; exact h4
    refine ⟨_, rfl, .inl ⟨rfl, _, SqL.of upd_same⟩, _, rfl, q, _, rfl, .inl (SqL.of e4), tl, _, _, rfl, rfl, upd_same, by omega, ?_⟩
    rw [upd_upd]
    have e5 : upd H4 tl (.lst (iV done ++ [V.int (iV ans).length])) q = some (.lst (iV ans)) := by rw [upd_ne nqt]; exact h4
    refine ⟨_, rfl, .inl ⟨rfl, _, SqL.of upd_same⟩, _, rfl, tl, q, _, _, rfl, rfl, upd_same, e5, by rw [List.length_append, List.length_singleton]; omega, ?_⟩
    rw [upd_upd]
    have ei : iV done ++ [V.int (iV ans).length] ++ iV ans = iV (done ++ (ans.length : Int) :: ans) := by
      unfold iV
      rw [List.map_append, List.map_cons, List.length_map, List.append_assoc]
      rfl
    rw [ei]
    have S5 : StAt K (NearT K) (upd H4 tl (LstX tl (iV (done ++ (ans.length : Int) :: ans)))) h p dx a k' ns (Vasedf.step es vc).1 := S4.off (off_upd h4tl) (near_off h4tl nc S4.tb)
    refine ⟨_, k', f', cs, (Vasedf.step es vc).1, done ++ (ans.length : Int) :: ans, H4, rfl, rfl, rfl, S5, by rw [← st.rest]; exact h2, by simp at hl10; omega, fun c hc => ca c (List.mem_cons_of_mem _ hc), by rw [List.length_append, List.length_cons]; omega, ?_⟩
    rw [← et]
    have e6 : PyFlat.told (PyFlat.played VasedfNeutral.step es (c :: cs)) = ((ans.length : Int) :: ans) ++ PyFlat.told (PyFlat.played VasedfNeutral.step (Vasedf.step es vc).1 cs) := by
      have e7 : VasedfNeutral.step es c = ((Vasedf.step es vc).1, ans) := by
        unfold VasedfNeutral.step
        rw [st.of_, ← hans]
        rfl
      show PyFlat.told ((VasedfNeutral.step es c).2 :: PyFlat.played VasedfNeutral.step (VasedfNeutral.step es c).1 cs) = _
      rw [e7]
      rfl
    rw [e6, List.append_assoc]
end Ls
set_option Elab.async false
set_option linter.all false
namespace Ls
open PySem PySem.Spec PyProof.Rows L2
theorem room : Room 14 callerA := ⟨rfl, by decide, by decide⟩
theorem last : R.Holds := holds_of 14 room main_ok
end Ls
theorem PySem.Challenge.cw_linescriptsyard_s01_answers_holds : PySem.Challenge.rw_linescriptsyard_s01_answers.Holds := by
  exact Ls.last
#print axioms PySem.Challenge.cw_linescriptsyard_s01_answers_holds
