import PyProof.Rows.All
import Wide.All
import OpenK.AllK
import Wide.FinOn
import HandS.ForMost
import HandS.Exc
import HandS.WordsExc
import HandS.IsInst
import HandS.Flow
import HandS.Lambda
import HandS.ExcField
import HandS.Head0
import HandS.Head1
import HandS.Head2
import HandS.HeadEnd
import HandS.HeadHook1
import HandS.HeadHook2
import HandS.HeadHook3
import HandS.HeadHook4
import HandS.HeadWalk
import HandS.ExcOwn
import HandS.Zip
import HandS.Wide
import HandS.CallLocal
import HandS.WrittenGet
import HandS.TupAny
import HandS.StrMore
import HandS.Conv
import HandS.Style
import HandS.Replace
import HandS.ListItems
import HandS.RaiseMore
import KE.KDictZip
import KE.GoesMore
import KE.GoesEnum
import KE.KItemsList
import PyProof.ReprRoads
import HandS.TryMany
import HandS.ExcInit
import HandS.Codes
import PySem.Challenge.RW_everypipe_k08_whole_sums
set_option Elab.async false
set_option linter.all false
set_option maxRecDepth 100000
set_option maxHeartbeats 0
/-! K8h: the text of the defs that are reached. -/
namespace K8
open PySem PySem.Spec PyProof.Rows L2
abbrev TW8 : List Str := ["+", "-", "*", "/", "~", "<", "<=", "="]
def topS (i : Nat) : Stmt := PySem.Challenge.pw_everypipe_k08_whole_sums.main.body.getD i (.Pass ⟨0, 0, 0, 0⟩)
abbrev s_is_integer := topS 8
abbrev N_is_integer : List Str := ["thing"]
abbrev P_is_integer : List Str := ["thing"]
theorem sc_is_integer : FnScope N_is_integer P_is_integer (defScope s_is_integer) := ⟨rfl, rfl, rfl, by decide +kernel, rfl, by decide +kernel, by decide +kernel⟩
abbrev s_is_number := topS 9
abbrev N_is_number : List Str := ["thing"]
abbrev P_is_number : List Str := ["thing"]
theorem sc_is_number : FnScope N_is_number P_is_number (defScope s_is_number) := ⟨rfl, rfl, rfl, by decide +kernel, rfl, by decide +kernel, by decide +kernel⟩
abbrev s_is_number_to := topS 10
abbrev N_is_number_to : List Str := ["thing", "most"]
abbrev P_is_number_to : List Str := ["thing", "most"]
theorem sc_is_number_to : FnScope N_is_number_to P_is_number_to (defScope s_is_number_to) := ⟨rfl, rfl, rfl, by decide +kernel, rfl, by decide +kernel, by decide +kernel⟩
abbrev s_is_listed := topS 11
abbrev N_is_listed : List Str := ["thing"]
abbrev P_is_listed : List Str := ["thing"]
theorem sc_is_listed : FnScope N_is_listed P_is_listed (defScope s_is_listed) := ⟨rfl, rfl, rfl, by decide +kernel, rfl, by decide +kernel, by decide +kernel⟩
abbrev s_is_listed_of := topS 12
abbrev N_is_listed_of : List Str := ["thing", "many"]
abbrev P_is_listed_of : List Str := ["thing", "many"]
theorem sc_is_listed_of : FnScope N_is_listed_of P_is_listed_of (defScope s_is_listed_of) := ⟨rfl, rfl, rfl, by decide +kernel, rfl, by decide +kernel, by decide +kernel⟩
abbrev s_word_of := topS 13
abbrev N_word_of : List Str := ["thing"]
abbrev P_word_of : List Str := ["thing"]
theorem sc_word_of : FnScope N_word_of P_word_of (defScope s_word_of) := ⟨rfl, rfl, rfl, by decide +kernel, rfl, by decide +kernel, by decide +kernel⟩
abbrev s_is_string_of := topS 14
abbrev N_is_string_of : List Str := ["thing", "signs", "sign"]
abbrev P_is_string_of : List Str := ["thing", "signs"]
theorem sc_is_string_of : FnScope N_is_string_of P_is_string_of (defScope s_is_string_of) := ⟨rfl, rfl, rfl, by decide +kernel, rfl, by decide +kernel, by decide +kernel⟩
abbrev s_is_text := topS 15
abbrev N_is_text : List Str := ["thing"]
abbrev P_is_text : List Str := ["thing"]
theorem sc_is_text : FnScope N_is_text P_is_text (defScope s_is_text) := ⟨rfl, rfl, rfl, by decide +kernel, rfl, by decide +kernel, by decide +kernel⟩
abbrev s_is_name := topS 16
abbrev N_is_name : List Str := ["thing"]
abbrev P_is_name : List Str := ["thing"]
theorem sc_is_name : FnScope N_is_name P_is_name (defScope s_is_name) := ⟨rfl, rfl, rfl, by decide +kernel, rfl, by decide +kernel, by decide +kernel⟩
abbrev s_sum_form := topS 26
abbrev N_sum_form : List Str := ["thing", "word", "right"]
abbrev P_sum_form : List Str := ["thing"]
theorem sc_sum_form : FnScope N_sum_form P_sum_form (defScope s_sum_form) := ⟨rfl, rfl, rfl, by decide +kernel, rfl, by decide +kernel, by decide +kernel⟩
abbrev s_form_in_word := topS 40
abbrev N_form_in_word : List Str := ["kind", "thing", "form"]
abbrev P_form_in_word : List Str := ["kind", "thing"]
theorem sc_form_in_word : FnScope N_form_in_word P_form_in_word (defScope s_form_in_word) := ⟨rfl, rfl, rfl, by decide +kernel, rfl, by decide +kernel, by decide +kernel⟩
abbrev s_is_form_in_word := topS 41
abbrev N_is_form_in_word : List Str := ["kind"]
abbrev P_is_form_in_word : List Str := ["kind"]
theorem sc_is_form_in_word : FnScope N_is_form_in_word P_is_form_in_word (defScope s_is_form_in_word) := ⟨rfl, rfl, rfl, by decide +kernel, rfl, by decide +kernel, by decide +kernel⟩
abbrev s_form_of := topS 69
abbrev N_form_of : List Str := ["kind", "thing"]
abbrev P_form_of : List Str := ["kind", "thing"]
theorem sc_form_of : FnScope N_form_of P_form_of (defScope s_form_of) := ⟨rfl, rfl, rfl, by decide +kernel, rfl, by decide +kernel, by decide +kernel⟩
abbrev s_is_left_out := topS 70
abbrev N_is_left_out : List Str := ["kind", "thing"]
abbrev P_is_left_out : List Str := ["kind", "thing"]
theorem sc_is_left_out : FnScope N_is_left_out P_is_left_out (defScope s_is_left_out) := ⟨rfl, rfl, rfl, by decide +kernel, rfl, by decide +kernel, by decide +kernel⟩
abbrev s_kind_inside := topS 71
abbrev N_kind_inside : List Str := ["kind"]
abbrev P_kind_inside : List Str := ["kind"]
theorem sc_kind_inside : FnScope N_kind_inside P_kind_inside (defScope s_kind_inside) := ⟨rfl, rfl, rfl, by decide +kernel, rfl, by decide +kernel, by decide +kernel⟩
abbrev s_fits := topS 72
abbrev N_fits : List Str := ["kind", "thing", "waiting", "form"]
abbrev P_fits : List Str := ["kind", "thing"]
theorem sc_fits : FnScope N_fits P_fits (defScope s_fits) := ⟨rfl, rfl, rfl, by decide +kernel, rfl, by decide +kernel, by decide +kernel⟩
abbrev s_is_values := topS 74
abbrev N_is_values : List Str := ["thing", "name", "text"]
abbrev P_is_values : List Str := ["thing"]
theorem sc_is_values : FnScope N_is_values P_is_values (defScope s_is_values) := ⟨rfl, rfl, rfl, by decide +kernel, rfl, by decide +kernel, by decide +kernel⟩
abbrev s_number_of := topS 75
abbrev N_number_of : List Str := ["text", "figures"]
abbrev P_number_of : List Str := ["text"]
theorem sc_number_of : FnScope N_number_of P_number_of (defScope s_number_of) := ⟨rfl, rfl, rfl, by decide +kernel, rfl, by decide +kernel, by decide +kernel⟩
abbrev s_toward_nought := topS 76
abbrev N_toward_nought : List Str := ["one", "other", "parts"]
abbrev P_toward_nought : List Str := ["one", "other"]
theorem sc_toward_nought : FnScope N_toward_nought P_toward_nought (defScope s_toward_nought) := ⟨rfl, rfl, rfl, by decide +kernel, rfl, by decide +kernel, by decide +kernel⟩
abbrev s_joined_numbers := topS 77
abbrev N_joined_numbers : List Str := ["sign", "one", "other"]
abbrev P_joined_numbers : List Str := ["sign", "one", "other"]
theorem sc_joined_numbers : FnScope N_joined_numbers P_joined_numbers (defScope s_joined_numbers) := ⟨rfl, rfl, rfl, by decide +kernel, rfl, by decide +kernel, by decide +kernel⟩
abbrev s_counted := topS 78
abbrev N_counted : List Str := ["total", "values", "waiting", "numbers", "part", "is_ready", "word", "number", "other", "inner"]
abbrev P_counted : List Str := ["total", "values"]
theorem sc_counted : FnScope N_counted P_counted (defScope s_counted) := ⟨rfl, rfl, rfl, by decide +kernel, rfl, by decide +kernel, by decide +kernel⟩
abbrev s_sum_value := topS 79
abbrev N_sum_value : List Str := ["total", "held"]
abbrev P_sum_value : List Str := ["total", "held"]
theorem sc_sum_value : FnScope N_sum_value P_sum_value (defScope s_sum_value) := ⟨rfl, rfl, rfl, by decide +kernel, rfl, by decide +kernel, by decide +kernel⟩
abbrev s__law_stream := topS 81
abbrev N__law_stream : List Str := ["script", "k", "cell", "mixed", "at", "one"]
abbrev P__law_stream : List Str := ["script", "k"]
theorem sc__law_stream : FnScope N__law_stream P__law_stream (defScope s__law_stream) := ⟨rfl, rfl, rfl, by decide +kernel, rfl, by decide +kernel, by decide +kernel⟩
abbrev s__law_draw := topS 82
abbrev N__law_draw : List Str := ["stream", "many", "digit", "spread"]
abbrev P__law_draw : List Str := ["stream", "many"]
theorem sc__law_draw : FnScope N__law_draw P__law_draw (defScope s__law_draw) := ⟨rfl, rfl, rfl, by decide +kernel, rfl, by decide +kernel, by decide +kernel⟩
abbrev s__law_pick := topS 83
abbrev N__law_pick : List Str := ["stream", "some"]
abbrev P__law_pick : List Str := ["stream", "some"]
theorem sc__law_pick : FnScope N__law_pick P__law_pick (defScope s__law_pick) := ⟨rfl, rfl, rfl, by decide +kernel, rfl, by decide +kernel, by decide +kernel⟩
abbrev s__law_mixed := topS 84
abbrev N__law_mixed : List Str := ["stream", "some", "rest", "found"]
abbrev P__law_mixed : List Str := ["stream", "some"]
theorem sc__law_mixed : FnScope N__law_mixed P__law_mixed (defScope s__law_mixed) := ⟨rfl, rfl, rfl, by decide +kernel, rfl, by decide +kernel, by decide +kernel⟩
abbrev s__law_loose := topS 85
abbrev N__law_loose : List Str := ["stream", "thing", "found", "each"]
abbrev P__law_loose : List Str := ["stream", "thing"]
theorem sc__law_loose : FnScope N__law_loose P__law_loose (defScope s__law_loose) := ⟨rfl, rfl, rfl, by decide +kernel, rfl, by decide +kernel, by decide +kernel⟩
abbrev s__law_same := topS 86
abbrev N__law_same : List Str := ["found", "wanted", "x", "y"]
abbrev P__law_same : List Str := ["found", "wanted"]
theorem sc__law_same : FnScope N__law_same P__law_same (defScope s__law_same) := ⟨rfl, rfl, rfl, by decide +kernel, rfl, by decide +kernel, by decide +kernel⟩
abbrev s__law_met := topS 87
abbrev N__law_met : List Str := ["ask", "e"]
abbrev P__law_met : List Str := ["ask"]
theorem sc__law_met : FnScope N__law_met P__law_met (defScope s__law_met) := ⟨rfl, rfl, rfl, by decide +kernel, rfl, by decide +kernel, by decide +kernel⟩
abbrev s__law_sum := topS 88
abbrev N__law_sum : List Str := ["stream", "deep", "most", "name", "number", "signs", "one"]
abbrev P__law_sum : List Str := ["stream", "deep", "most"]
theorem sc__law_sum : FnScope N__law_sum P__law_sum (defScope s__law_sum) := ⟨rfl, rfl, rfl, by decide +kernel, rfl, by decide +kernel, by decide +kernel⟩
abbrev s__law_held := topS 89
abbrev N__law_held : List Str := ["stream", "most", "found", "name", "number", "some", "odd"]
abbrev P__law_held : List Str := ["stream", "most"]
theorem sc__law_held : FnScope N__law_held P__law_held (defScope s__law_held) := ⟨rfl, rfl, rfl, by decide +kernel, rfl, by decide +kernel, by decide +kernel⟩
abbrev s__law_number := topS 90
abbrev N__law_number : List Str := ["text", "left", "found", "sign"]
abbrev P__law_number : List Str := ["text"]
theorem sc__law_number : FnScope N__law_number P__law_number (defScope s__law_number) := ⟨rfl, rfl, rfl, by decide +kernel, rfl, by decide +kernel, by decide +kernel⟩
abbrev s__law_worth := topS 91
abbrev N__law_worth : List Str := ["total", "held", "word", "number", "parts", "wrong", "one", "other", "part"]
abbrev P__law_worth : List Str := ["total", "held"]
theorem sc__law_worth : FnScope N__law_worth P__law_worth (defScope s__law_worth) := ⟨rfl, rfl, rfl, by decide +kernel, rfl, by decide +kernel, by decide +kernel⟩
abbrev s__law_parted := topS 92
abbrev N__law_parted : List Str := ["word", "one", "other", "often"]
abbrev P__law_parted : List Str := ["word", "one", "other"]
theorem sc__law_parted : FnScope N__law_parted P__law_parted (defScope s__law_parted) := ⟨rfl, rfl, rfl, by decide +kernel, rfl, by decide +kernel, by decide +kernel⟩
abbrev s__law_one_right := topS 93
abbrev N__law_one_right : List Str := ["stream", "total", "held", "handed", "due", "was"]
abbrev P__law_one_right : List Str := ["stream", "total", "held"]
theorem sc__law_one_right : FnScope N__law_one_right P__law_one_right (defScope s__law_one_right) := ⟨rfl, rfl, rfl, by decide +kernel, rfl, by decide +kernel, by decide +kernel⟩
abbrev s__law_refused_right := topS 94
abbrev N__law_refused_right : List Str := ["stream", "total", "odds", "odd", "some"]
abbrev P__law_refused_right : List Str := ["stream", "total"]
theorem sc__law_refused_right : FnScope N__law_refused_right P__law_refused_right (defScope s__law_refused_right) := ⟨rfl, rfl, rfl, by decide +kernel, rfl, by decide +kernel, by decide +kernel⟩
abbrev s_law := topS 95
abbrev N_law : List Str := ["script", "turn", "stream", "most", "held", "sums", "total", "one", "other", "parts", "word", "due", "k"]
abbrev P_law : List Str := ["script"]
theorem sc_law : FnScope N_law P_law (defScope s_law) := ⟨rfl, rfl, rfl, by decide +kernel, rfl, by decide +kernel, by decide +kernel⟩
end K8

/-! K9u: what is looked at behind the top. -/
namespace K8
open PySem PySem.Spec PyProof.Rows L2
def loose0 : List Str := ["PipeError", "BadSum", "BadValues", "SIGNS", "LETTERS", "FIGURES", "is_integer", "is_number", "is_number_to", "is_listed", "is_listed_of", "word_of", "is_string_of", "is_text", "is_name", "is_argument_number", "PLAIN", "KEPT", "TWO_SUMS", "GREATEST", "is_parameter", "is_name_or_figure", "is_plain", "sum_form", "text_piece_form", "parameter_piece_form", "inner_piece_form", "piece_form", "is_bare_held", "is_held_piece"]
def loose1 : List Str := ["can_be_beside", "bare_form", "word_form", "is_all_word", "free_form", "all_form", "FORMS_wordforms", "form_in_word", "is_form_in_word", "set_name", "LENGTHS", "KINDS_INSIDE", "WORD_WAYS", "each_form", "script_form", "list_form", "pair_form", "plain_beginning", "is_run", "command_form", "unrowed_form", "unchained_form", "unjoined_form", "row_form", "sets_form", "set_form", "words_form", "frees_form", "cases_form", "case_form"]
def loose2 : List Str := ["turns_form", "turn_form", "FORMS_commandforms", "form_of_command", "form_of", "is_left_out", "kind_inside", "fits", "is_values", "number_of", "toward_nought", "joined_numbers", "counted", "sum_value", "_law_stream", "_law_draw", "_law_pick", "_law_mixed", "_law_loose", "_law_same", "_law_met", "_law_sum", "_law_held", "_law_number", "_law_worth", "_law_parted", "_law_one_right", "_law_refused_right"]
def looseN : List Str := loose0 ++ loose1 ++ loose2
def d_is_integer : He.DefD := ⟨("is_integer", none), "is_integer", "is_integer", defArgs s_is_integer, defBody s_is_integer, defScope s_is_integer, [], []⟩
def d_is_number : He.DefD := ⟨("is_number", none), "is_number", "is_number", defArgs s_is_number, defBody s_is_number, defScope s_is_number, [], []⟩
def d_is_number_to : He.DefD := ⟨("is_number_to", none), "is_number_to", "is_number_to", defArgs s_is_number_to, defBody s_is_number_to, defScope s_is_number_to, [], []⟩
def d_is_listed : He.DefD := ⟨("is_listed", none), "is_listed", "is_listed", defArgs s_is_listed, defBody s_is_listed, defScope s_is_listed, [], []⟩
def d_word_of : He.DefD := ⟨("word_of", none), "word_of", "word_of", defArgs s_word_of, defBody s_word_of, defScope s_word_of, [], []⟩
def d_is_string_of : He.DefD := ⟨("is_string_of", none), "is_string_of", "is_string_of", defArgs s_is_string_of, defBody s_is_string_of, defScope s_is_string_of, [], []⟩
def d_is_text : He.DefD := ⟨("is_text", none), "is_text", "is_text", defArgs s_is_text, defBody s_is_text, defScope s_is_text, [], []⟩
def d_is_name : He.DefD := ⟨("is_name", none), "is_name", "is_name", defArgs s_is_name, defBody s_is_name, defScope s_is_name, [], []⟩
def d_sum_form : He.DefD := ⟨("sum_form", none), "sum_form", "sum_form", defArgs s_sum_form, defBody s_sum_form, defScope s_sum_form, [], []⟩
def d_form_in_word : He.DefD := ⟨("form_in_word", none), "form_in_word", "form_in_word", defArgs s_form_in_word, defBody s_form_in_word, defScope s_form_in_word, [], []⟩
def d_is_form_in_word : He.DefD := ⟨("is_form_in_word", none), "is_form_in_word", "is_form_in_word", defArgs s_is_form_in_word, defBody s_is_form_in_word, defScope s_is_form_in_word, [], []⟩
def d_form_of : He.DefD := ⟨("form_of", none), "form_of", "form_of", defArgs s_form_of, defBody s_form_of, defScope s_form_of, [], []⟩
def d_is_left_out : He.DefD := ⟨("is_left_out", none), "is_left_out", "is_left_out", defArgs s_is_left_out, defBody s_is_left_out, defScope s_is_left_out, [], []⟩
def d_kind_inside : He.DefD := ⟨("kind_inside", none), "kind_inside", "kind_inside", defArgs s_kind_inside, defBody s_kind_inside, defScope s_kind_inside, [], []⟩
def d_fits : He.DefD := ⟨("fits", none), "fits", "fits", defArgs s_fits, defBody s_fits, defScope s_fits, [], []⟩
def d_is_values : He.DefD := ⟨("is_values", none), "is_values", "is_values", defArgs s_is_values, defBody s_is_values, defScope s_is_values, [], []⟩
def d_number_of : He.DefD := ⟨("number_of", none), "number_of", "number_of", defArgs s_number_of, defBody s_number_of, defScope s_number_of, [], []⟩
def d_toward_nought : He.DefD := ⟨("toward_nought", none), "toward_nought", "toward_nought", defArgs s_toward_nought, defBody s_toward_nought, defScope s_toward_nought, [], []⟩
def d_joined_numbers : He.DefD := ⟨("joined_numbers", none), "joined_numbers", "joined_numbers", defArgs s_joined_numbers, defBody s_joined_numbers, defScope s_joined_numbers, [], []⟩
def d_counted : He.DefD := ⟨("counted", none), "counted", "counted", defArgs s_counted, defBody s_counted, defScope s_counted, [], []⟩
def d_sum_value : He.DefD := ⟨("sum_value", none), "sum_value", "sum_value", defArgs s_sum_value, defBody s_sum_value, defScope s_sum_value, [], []⟩
def d__law_stream : He.DefD := ⟨("_law_stream", none), "_law_stream", "_law_stream", defArgs s__law_stream, defBody s__law_stream, defScope s__law_stream, [], []⟩
def d__law_draw : He.DefD := ⟨("_law_draw", none), "_law_draw", "_law_draw", defArgs s__law_draw, defBody s__law_draw, defScope s__law_draw, [], []⟩
def d__law_pick : He.DefD := ⟨("_law_pick", none), "_law_pick", "_law_pick", defArgs s__law_pick, defBody s__law_pick, defScope s__law_pick, [], []⟩
def d__law_mixed : He.DefD := ⟨("_law_mixed", none), "_law_mixed", "_law_mixed", defArgs s__law_mixed, defBody s__law_mixed, defScope s__law_mixed, [], []⟩
def d__law_loose : He.DefD := ⟨("_law_loose", none), "_law_loose", "_law_loose", defArgs s__law_loose, defBody s__law_loose, defScope s__law_loose, [], []⟩
def d__law_same : He.DefD := ⟨("_law_same", none), "_law_same", "_law_same", defArgs s__law_same, defBody s__law_same, defScope s__law_same, [], []⟩
def d__law_met : He.DefD := ⟨("_law_met", none), "_law_met", "_law_met", defArgs s__law_met, defBody s__law_met, defScope s__law_met, [], []⟩
def d__law_sum : He.DefD := ⟨("_law_sum", none), "_law_sum", "_law_sum", defArgs s__law_sum, defBody s__law_sum, defScope s__law_sum, [], []⟩
def d__law_held : He.DefD := ⟨("_law_held", none), "_law_held", "_law_held", defArgs s__law_held, defBody s__law_held, defScope s__law_held, [], []⟩
def d__law_number : He.DefD := ⟨("_law_number", none), "_law_number", "_law_number", defArgs s__law_number, defBody s__law_number, defScope s__law_number, [], []⟩
def d__law_worth : He.DefD := ⟨("_law_worth", none), "_law_worth", "_law_worth", defArgs s__law_worth, defBody s__law_worth, defScope s__law_worth, [], []⟩
def d__law_parted : He.DefD := ⟨("_law_parted", none), "_law_parted", "_law_parted", defArgs s__law_parted, defBody s__law_parted, defScope s__law_parted, [], []⟩
def d__law_one_right : He.DefD := ⟨("_law_one_right", none), "_law_one_right", "_law_one_right", defArgs s__law_one_right, defBody s__law_one_right, defScope s__law_one_right, [], []⟩
def d__law_refused_right : He.DefD := ⟨("_law_refused_right", none), "_law_refused_right", "_law_refused_right", defArgs s__law_refused_right, defBody s__law_refused_right, defScope s__law_refused_right, [], []⟩
def d_law : He.DefD := ⟨("law", none), "law", "law", defArgs s_law, defBody s_law, defScope s_law, [], []⟩
abbrev s_PipeError_init : Stmt := (match topS 1 with | .ClassDef _ _ _ (st :: _) _ _ _ _ _ _ _ => st | s => s)
abbrev s_BadSum_init : Stmt := (match topS 2 with | .ClassDef _ _ _ (st :: _) _ _ _ _ _ _ _ => st | s => s)
abbrev s_BadValues_init : Stmt := (match topS 3 with | .ClassDef _ _ _ (st :: _) _ _ _ _ _ _ _ => st | s => s)
def d_i1 : He.DefD := ⟨("BadSum", some "__init__"), "__init__", "BadSum.__init__", defArgs s_BadSum_init, defBody s_BadSum_init, defScope s_BadSum_init, [], []⟩
def d_i2 : He.DefD := ⟨("BadValues", some "__init__"), "__init__", "BadValues.__init__", defArgs s_BadValues_init, defBody s_BadValues_init, defScope s_BadValues_init, [], []⟩
def faA : List He.Fa := [.glo "is_integer", .glo "is_number", .glo "is_number_to", .glo "is_listed", .glo "word_of", .glo "is_string_of", .glo "is_text", .glo "is_name", .glo "sum_form", .glo "form_in_word", .glo "is_form_in_word", .glo "form_of", .glo "is_left_out", .glo "kind_inside", .glo "fits", .glo "is_values", .glo "number_of", .glo "toward_nought", .glo "joined_numbers", .glo "counted", .glo "sum_value", .glo "_law_stream", .glo "_law_draw", .glo "_law_pick", .glo "_law_mixed", .glo "_law_loose", .glo "_law_same", .glo "_law_met", .glo "_law_sum", .glo "_law_held", .glo "_law_number", .glo "_law_worth", .glo "_law_parted", .glo "_law_one_right", .glo "_law_refused_right", .glo "law", .glo "TWO_SUMS", .glo "FORMS_wordforms", .glo "BadSum", .glo "BadValues"]
def faB : List He.Fa := [.free "isinstance", .free "int", .free "bool", .free "str", .free "list", .free "tuple", .free "dict", .free "len", .free "all", .free "any", .free "abs", .free "sum", .free "enumerate", .free "zip", .free "range", .free "repr", .free "sorted", .free "min", .free "max"]
def faC : List He.Fa := [.str "SIGNS" " !\"#$&'()*+,-./0123456789:;<=>?@ABCDEFGHIJKLMNOPQRSTUVWXYZ[\\]^_`abcdefghijklmnopqrstuvwxyz{|}~", .str "LETTERS" "abcdefghijklmnopqrstuvwxyz", .str "FIGURES" "0123456789", .int "GREATEST" 999999999, .noat "BadSum" "total", .noat "BadValues" "held", .exm "BadSum" "BadSum" true, .exm "BadValues" "BadSum" false, .exm "BadValues" "BadValues" true]
def faN : List He.Fa := faA ++ faB ++ faC
def fnA : List He.DefD := [d_is_integer, d_is_number, d_is_number_to, d_is_listed, d_word_of, d_is_string_of, d_is_text, d_is_name, d_sum_form, d_form_in_word, d_is_form_in_word, d_form_of, d_is_left_out, d_kind_inside, d_fits, d_is_values, d_number_of, d_toward_nought, d_joined_numbers, d_counted]
def fnB : List He.DefD := [d_sum_value, d__law_stream, d__law_draw, d__law_pick, d__law_mixed, d__law_loose, d__law_same, d__law_met, d__law_sum, d__law_held, d__law_number, d__law_worth, d__law_parted, d__law_one_right, d__law_refused_right, d_law, d_i1, d_i2]
def fnN : List He.DefD := fnA ++ fnB

abbrev R0 : PySem.W.OpenRow := PySem.W.OpenLaw.row PySem.Challenge.rw_everypipe_k08_whole_sums
/-- a class beneath ValueError, by its record -/
def oexK (K : PySem.W.Frag) (C : Addr) : Bool := match K.lookup C with
  | some ⟨.type t, _, .cls ⟨_, _, .ref C' :: bm, _, _, hd, _, _, _, _, del⟩, sl⟩ => decide (t = "type") && (decide (C' = C) && (PySem.HandSPX.refsVE bm && (hd && (!del && (match sl.toList with
    | [_, _, _, _, some (.builtin n), _] => decide (n = "ValueError.__new__")
    | _ => false)))))
  | _ => false
theorem oexK_ok {K : PySem.W.Frag} {C : Addr} (h : oexK K C = true) : ∃ nm q N bs bm sn sub ab col dd k0 k1 k2 k3 k5, K.lookup C = some (excClassObj nm q C N bs bm true sn sub ab col dd k0 k1 k2 k3 k5 "ValueError.__new__") ∧ PySem.HandSPX.refsVE bm = true := by
  unfold oexK at h
  split at h
  · rename_i t dd nm bs C' bm ns qn hd sn sub ab col del sl e
    simp only [Bool.and_eq_true, decide_eq_true_eq, Bool.not_eq_true'] at h
    obtain ⟨rfl, rfl, h3, rfl, rfl, h6⟩ := h
    split at h6
    · rename_i k0 k1 k2 k3 n k5 hs
      have h6 := of_decide_eq_true h6
      subst h6
      have hsl : sl = #[k0, k1, k2, k3, some (.builtin "ValueError.__new__"), k5] := by
        obtain ⟨l⟩ := sl
        have hs : l = _ := hs
        rw [hs]
      subst hsl
      exact ⟨_, _, _, _, _, _, _, _, _, _, _, _, _, _, _, e, h3⟩
    · cases h6
  · cases h
def fnAt (K : PySem.W.Frag) (x : Str) : Addr := He.ma K (He.ga K x) "__init__"
/-- an error of the program: its class, its one way to be made -/
def exC (K : PySem.W.Frag) (x : Str) : Bool := oexK K (He.ga K x) && (decide (PySem.W.findIn K (.ref (He.ga K x)) "__setattr__" = some (some (.builtin "object.__setattr__"))) && (decide (PySem.W.subIn K (.ref (He.ga K x)) (.type "BaseException") = some true) &&
  (decide (PySem.W.typeIn K (.ref (He.ga K x)) = some (.type "type")) && (PySem.W.keepIn K (.ref (He.ga K x)) && (decide (PySem.W.findIn K (.ref (He.ga K x)) "__init__" = some (some (.ref (fnAt K x)))) && (decide (PySem.W.typeIn K (.ref (fnAt K x)) = some (.type "function")) && xfB K (He.ga K x)))))))
def noLst (K : PySem.W.Frag) : Bool := K.all fun q => match q.2.cls with
  | .type c => !decide (c = "list")
  | _ => true
def exB (K : PySem.W.Frag) : Bool := exC K "BadSum" && (exC K "BadValues" && (He.tupB K "TWO_SUMS" (TW8.map He.Dv.str) && (He.valsB K (He.ga K "FORMS_wordforms") [("sum", .glo "sum_form")] && noLst K)))
def tsN : List He.Tab := [(fun K => He.ga K "FORMS_wordforms", ["sum", "piece", "bare", "word", "free", "all"])]
def tfN : List He.Defn := [("_law_refused_right", none)]
def sysB (g : Addr → Option Obj) : Bool := match g sysModules with
  | some ⟨_, _, .dict _ _, _⟩ => true
  | _ => false
theorem sysB_ok {g : Addr → Option Obj} (h : sysB g = true) : ∃ (o : Obj) (es : Array DictEntry) (ep : Nat), g sysModules = some o ∧ o.data = .dict es ep := by
  unfold sysB at h
  split at h
  · rename_i e
    exact ⟨_, _, _, e, rfl⟩
  · cases h
def hkZ : PySem.W.Hook where
  α := He.AlX × Bool
  obs := fun s => (He.obsX 4 faN fnN tsN tfN exB s.heap.get?, sysB s.heap.get?)
  val := fun w => (He.valX fnN tsN w, true)
  says := fun w h => (∃ K : PySem.W.Frag, K.In h ∧ He.SaysX faN fnN tsN tfN exB w h K) ∧ ∃ (o : Obj) (es : Array DictEntry) (ep : Nat), h.get? sysModules = some o ∧ o.data = .dict es ep
  of := fun _ _ e => ⟨⟨_, He.frT_in, He.saysX_of (congrArg Prod.fst e)⟩, sysB_ok (congrArg Prod.snd e)⟩
  keeps := fun _ _ _ ⟨⟨K, hK, c⟩, o, es, ep, e, d⟩ k => ⟨⟨K, PySem.W.Frag.In.keeps hK k, ⟨c.t, c.more, c.hd, c.out, fun p hp => k _ _ (c.empty p hp)⟩⟩, o, es, ep, k _ _ e, d⟩
def obZ (s : PySem.W.SharedT) : He.AlX × Bool := (He.obsX 4 faN fnN tsN tfN exB (HandSHeadRun.getT s), sysB (HandSHeadRun.getT s))
theorem obZ_eq (s : PySem.W.SharedT) : obZ s = hkZ.obs s.abs := by
  have e : HandSHeadRun.getT s = s.abs.heap.get? := funext (HandSHeadRun.getT_eq s)
  show (He.obsX 4 faN fnN tsN tfN exB (HandSHeadRun.getT s), sysB (HandSHeadRun.getT s)) = _
  rw [e]
  rfl
/-- three looks at one state -/
theorem three {α β γ δ : Type} {x : Option α} {f : α → β} {g : α → γ} {h : α → δ} {a : β} {b : γ} {c : δ} (e1 : x.map f = some a) (e2 : x.map g = some b) (e3 : x.map h = some c) : x.map (fun s => (f s, g s, h s)) = some (a, b, c) := by
  cases x with
  | none => cases e1
  | some s =>
    have e1 := Option.some.inj e1
    have e2 := Option.some.inj e2
    have e3 := Option.some.inj e3
    show some (f s, g s, h s) = _
    rw [e1, e2, e3]
noncomputable abbrev endZ (w : World) (os : OsState) : Option PySem.W.SharedT := HandSHeadRun.endF (HandSHeadRun.stepQ (HandSHeadRun.denQ HandSHeadRun.tabQ) R0.prog w) 20000 R0.prog w os
abbrev viZ : Program := PySem.W.view R0.prog [95]
end K8

namespace K8
open PySem PySem.Spec PyProof.Rows L2
theorem run_looks_false (w : World) (os : OsState) : (endZ (w.withFollow "special-get-raises" false) os).map (fun s => HandSHeadRun.looksF R0.prog (PySem.W.boot_heap (w.withFollow "special-get-raises" false).params) s.abs) = some true := by kernel_rfl
end K8

namespace K8
open PySem PySem.Spec PyProof.Rows L2
theorem run_looks_true (w : World) (os : OsState) : (endZ (w.withFollow "special-get-raises" true) os).map (fun s => HandSHeadRun.looksF R0.prog (PySem.W.boot_heap (w.withFollow "special-get-raises" true).params) s.abs) = some true := by kernel_rfl
end K8

namespace K8
open PySem PySem.Spec PyProof.Rows L2
theorem run_seen_false (w : World) (os : OsState) : (endZ (w.withFollow "special-get-raises" false) os).map (fun s => HandSHeadRun.seenQ viZ looseN (importedModules R0.prog.main.body) (fun s => PySem.W.xlAt viZ [] s && PySem.W.recOk R0.toRowW.records s) s.abs) = some (PySem.W.openGood viZ looseN) := by kernel_rfl
end K8

namespace K8
open PySem PySem.Spec PyProof.Rows L2
theorem run_seen_true (w : World) (os : OsState) : (endZ (w.withFollow "special-get-raises" true) os).map (fun s => HandSHeadRun.seenQ viZ looseN (importedModules R0.prog.main.body) (fun s => PySem.W.xlAt viZ [] s && PySem.W.recOk R0.toRowW.records s) s.abs) = some (PySem.W.openGood viZ looseN) := by kernel_rfl
end K8

namespace K8
open PySem PySem.Spec PyProof.Rows L2
theorem run_ob_false (w : World) (os : OsState) : (endZ (w.withFollow "special-get-raises" false) os).map (fun s => obZ s) = some (hkZ.val (w.withFollow "special-get-raises" false)) := by kernel_rfl
end K8

namespace K8
open PySem PySem.Spec PyProof.Rows L2
theorem run_ob_true (w : World) (os : OsState) : (endZ (w.withFollow "special-get-raises" true) os).map (fun s => obZ s) = some (hkZ.val (w.withFollow "special-get-raises" true)) := by kernel_rfl
end K8

/-! R_top: the top's run. -/
namespace K8
open PySem PySem.Spec PyProof.Rows L2
theorem runZ (w : World) : HandSHeadRun.RunEq R0 viZ hkZ obZ 20000 looseN w :=
  PySem.W.byRow2 "special-get-raises" (P := fun w => HandSHeadRun.RunEq R0 viZ hkZ obZ 20000 looseN w) (fun w os => three (run_looks_false w os) (run_seen_false w os) (run_ob_false w os)) (fun w os => three (run_looks_true w os) (run_seen_true w os) (run_ob_true w os)) w
theorem headZ (hw : R0.toRowW.promised) (call : PySem.W.WalkO viZ looseN (PySem.W.XL viZ []) hkZ.says R0.toRowW (HandSHeadRun.topDef R0.prog 95) [] fun f vs => PySem.call f vs) : R0.Holds :=
  HandSHeadRun.head_any (r := R0) (q := viZ) (H := hkZ) (ob := obZ) (M := 20000) (loose := looseN) (d := HandSHeadRun.topDef R0.prog 95) (kwd := []) obZ_eq
    (by kernel_rfl) (fun s => by kernel_rfl) runZ (by kernel_rfl) (by kernel_rfl) (by kernel_rfl) (by rfl) (by decide +kernel) (by decide +kernel) ⟨rfl, rfl, rfl, rfl, rfl, by decide +kernel⟩ hw call
theorem nameZ0 : (HandSHeadRun.topDef R0.prog 95).name = ("law" : PySem.Str) := by kernel_rfl
end K8

/-! Dw0: data at depth, frames with own objects, the judgements over all contexts of a kind. -/
namespace Dw
open PySem PySem.Spec PyProof.Rows L2

abbrev PD := PyData
def keyD : PD → Option Key
  | .int i => some (.inl i)
  | .str x => some (.inr x)
  | _ => none

/-! ### data over a heap -/
mutual
def Rep (K : PySem.W.Frag) (H : Hp) : PD → V → Prop
  | .none, v => v = .non
  | .bool b, v => v = .bl b
  | .int i, v => v = .int i
  | .str x, v => v = .str x
  | .list xs, v => ∃ a vs, v = .ref a ∧ Rd H a (.lst vs) ∧ RepL K H xs vs
  | .tuple xs, v => ∃ a vs, v = .ref a ∧ SqT K H a vs ∧ RepL K H xs vs
  | .dict kvs, v => ∃ a kv, v = .ref a ∧ Rd H a (.dK kv) ∧ RepD K H kvs kv
def RepL (K : PySem.W.Frag) (H : Hp) : List PD → List V → Prop
  | [], vs => vs = []
  | d :: ds, vs => ∃ v r, vs = v :: r ∧ Rep K H d v ∧ RepL K H ds r
def RepD (K : PySem.W.Frag) (H : Hp) : List (PD × PD) → List (Key × V) → Prop
  | [], vs => vs = []
  | p :: ds, vs => ∃ k v r, vs = (k, v) :: r ∧ RepP K H p k v ∧ RepD K H ds r
def RepP (K : PySem.W.Frag) (H : Hp) : PD × PD → Key → V → Prop
  | (k, d), k', v => keyD k = some k' ∧ Rep K H d v
end

theorem Same.rd {H H' : Hp} {a : Addr} {u : HO} (e : Same H H') (h : Rd H a u) : Rd H' a u := by
  rcases h with h | ⟨o, h⟩
  · exact .inl (e a _ h)
  · exact .inr ⟨o, e a _ h⟩
theorem seqR {K : PySem.W.Frag} {H H' : Hp} {a : Addr} {xs : List V} (e : Same H H') (h : Rd H a (.lst xs)) : SqL K H' a xs := .inl (Same.rd e h)
theorem Same.sqt {K : PySem.W.Frag} {H H' : Hp} {a : Addr} {xs : List V} (e : Same H H') (h : SqT K H a xs) : SqT K H' a xs := by
  rcases h with h | h
  · exact .inl (Same.rd e h)
  · exact .inr h

section
variable {K : PySem.W.Frag} {H H' : Hp}
mutual
theorem Rep.mono (e : Same H H') : ∀ {d : PD} {v : V}, Rep K H d v → Rep K H' d v
  | .none, _, h => h
  | .bool _, _, h => h
  | .int _, _, h => h
  | .str _, _, h => h
  | .list xs, _, ⟨a, vs, e1, e2, e3⟩ => ⟨a, vs, e1, Same.rd e e2, RepL.mono e e3⟩
  | .tuple xs, _, ⟨a, vs, e1, e2, e3⟩ => ⟨a, vs, e1, Same.sqt e e2, RepL.mono e e3⟩
  | .dict kvs, _, ⟨a, kv, e1, e2, e3⟩ => ⟨a, kv, e1, Same.rd e e2, RepD.mono e e3⟩
theorem RepL.mono (e : Same H H') : ∀ {ds : List PD} {vs : List V}, RepL K H ds vs → RepL K H' ds vs
  | [], _, h => h
  | _ :: _, _, ⟨v, r, e1, e2, e3⟩ => ⟨v, r, e1, Rep.mono e e2, RepL.mono e e3⟩
theorem RepD.mono (e : Same H H') : ∀ {ds : List (PD × PD)} {vs : List (Key × V)}, RepD K H ds vs → RepD K H' ds vs
  | [], _, h => h
  | (_, _) :: _, _, ⟨k, v, r, e1, ⟨e2, e4⟩, e3⟩ => ⟨k, v, r, e1, ⟨e2, Rep.mono e e4⟩, RepD.mono e e3⟩
end
theorem RepL.length : ∀ {ds : List PD} {vs : List V}, RepL K H ds vs → vs.length = ds.length
  | [], _, h => by rw [show _ = [] from h]; rfl
  | _ :: _, _, ⟨v, r, e1, _, e3⟩ => by rw [e1, List.length_cons, List.length_cons, RepL.length e3]
theorem RepL.get : ∀ {ds : List PD} {vs : List V} {i : Nat} {d : PD}, RepL K H ds vs → ds[i]? = some d → ∃ v, vs[i]? = some v ∧ Rep K H d v
  | [], _, _, _, _, e => by simp at e
  | _ :: _, _, 0, d, ⟨v, r, e1, e2, _⟩, e => by
    simp at e; subst e; subst e1; exact ⟨v, rfl, e2⟩
  | _ :: _, _, i + 1, d, ⟨v, r, e1, _, e3⟩, e => by
    subst e1
    obtain ⟨w, h1, h2⟩ := RepL.get (i := i) (d := d) e3 (by simpa using e)
    exact ⟨w, by simpa using h1, h2⟩
theorem RepL.getV : ∀ {ds : List PD} {vs : List V} {i : Nat} {v : V}, RepL K H ds vs → vs[i]? = some v → ∃ d, ds[i]? = some d ∧ Rep K H d v
  | [], _, _, _, h, e => by rw [show _ = [] from h] at e; simp at e
  | d :: _, _, 0, v, ⟨w, r, e1, e2, _⟩, e => by
    subst e1; simp at e; subst e; exact ⟨d, rfl, e2⟩
  | _ :: _, _, i + 1, v, ⟨w, r, e1, _, e3⟩, e => by
    subst e1
    obtain ⟨d, h1, h2⟩ := RepL.getV (i := i) (v := v) e3 (by simpa using e)
    exact ⟨d, by simpa using h1, h2⟩
theorem RepL.append : ∀ {ds es : List PD} {vs us : List V}, RepL K H ds vs → RepL K H es us → RepL K H (ds ++ es) (vs ++ us)
  | [], _, _, _, h, g => by rw [show _ = [] from h]; exact g
  | _ :: _, _, _, _, ⟨v, r, e1, e2, e3⟩, g => ⟨v, r ++ _, by rw [e1]; rfl, e2, RepL.append e3 g⟩
theorem RepL.one {d : PD} {v : V} (h : Rep K H d v) : RepL K H [d] [v] := ⟨v, [], rfl, h, rfl⟩
theorem RepL.take : ∀ {ds : List PD} {vs : List V} (n : Nat), RepL K H ds vs → RepL K H (ds.take n) (vs.take n)
  | _, _, 0, _ => by simp [RepL]
  | [], _, _ + 1, h => by rw [show _ = [] from h]; simp [RepL]
  | _ :: _, _, n + 1, ⟨v, r, e1, e2, e3⟩ => by subst e1; exact ⟨v, r.take n, rfl, e2, RepL.take n e3⟩
theorem RepL.drop : ∀ {ds : List PD} {vs : List V} (n : Nat), RepL K H ds vs → RepL K H (ds.drop n) (vs.drop n)
  | _, _, 0, h => by simpa using h
  | [], _, _ + 1, h => by rw [show _ = [] from h]; simp [RepL]
  | _ :: _, _, n + 1, ⟨v, r, e1, _, e3⟩ => by subst e1; exact RepL.drop n e3
theorem RepL.dropLast {ds : List PD} {vs : List V} (h : RepL K H ds vs) : RepL K H ds.dropLast vs.dropLast := by
  rw [List.dropLast_eq_take, List.dropLast_eq_take, h.length]
  exact h.take _
theorem RepL.set : ∀ {ds : List PD} {vs : List V} {d : PD} {v : V} (n : Nat), RepL K H ds vs → Rep K H d v → RepL K H (ds.set n d) (vs.set n v)
  | [], _, _, _, _, h, _ => by rw [show _ = [] from h]; simp [RepL]
  | _ :: _, _, d, v, 0, ⟨_, r, e1, _, e3⟩, g => by subst e1; exact ⟨v, r, rfl, g, e3⟩
  | _ :: _, _, d, v, n + 1, ⟨u, r, e1, e2, e3⟩, g => by subst e1; exact ⟨u, r.set n v, rfl, e2, RepL.set n e3 g⟩
theorem RepL.eraseIdx : ∀ {ds : List PD} {vs : List V} (n : Nat), RepL K H ds vs → RepL K H (ds.eraseIdx n) (vs.eraseIdx n)
  | [], _, _, h => by rw [show _ = [] from h]; simp [RepL]
  | _ :: _, _, 0, ⟨v, r, e1, e2, e3⟩ => by subst e1; exact e3
  | _ :: _, _, n + 1, ⟨v, r, e1, e2, e3⟩ => by subst e1; exact ⟨v, r.eraseIdx n, rfl, e2, RepL.eraseIdx n e3⟩
theorem RepL.reverse : ∀ {ds : List PD} {vs : List V}, RepL K H ds vs → RepL K H ds.reverse vs.reverse
  | [], _, h => by rw [show _ = [] from h]; rfl
  | _ :: _, _, ⟨v, r, e1, e2, e3⟩ => by
    subst e1
    rw [List.reverse_cons, List.reverse_cons]
    exact (RepL.reverse e3).append (RepL.one e2)
end

/-! ### own objects, slots -/
inductive OD where
  | lst (xs : List PD)
  | dct (kvs : List (PD × PD))
def OD.pd : OD → PD
  | .lst xs => .list xs
  | .dct kvs => .dict kvs
def OkO (K : PySem.W.Frag) (F : Hp) : OD → HO → Prop
  | .lst xs, u => ∃ vs, u = .lst vs ∧ RepL K F xs vs
  | .dct kvs, u => ∃ kv, u = .dK kv ∧ RepD K F kvs kv
theorem OkO.mono {K : PySem.W.Frag} {F F' : Hp} (e : Same F F') : ∀ {o : OD} {u : HO}, OkO K F o u → OkO K F' o u
  | .lst _, _, ⟨vs, e1, e2⟩ => ⟨vs, e1, e2.mono e⟩
  | .dct _, _, ⟨vs, e1, e2⟩ => ⟨vs, e1, e2.mono e⟩

inductive Sl where
  | no
  | sh (d : PD)
  | raw (v : V)
  | own (p : Addr) (o : OD)
def SlotOk (K : PySem.W.Frag) (F R H : Hp) : Option V → Sl → Prop
  | _, .no => True
  | some v, .sh d => Rep K F d v
  | some v, .raw w => v = w
  | some v, .own p o => v = .ref p ∧ F p = none ∧ R p = none ∧ ∃ u, H p = some u ∧ OkO K F o u
  | none, _ => False
def Sl.addr : Sl → Option Addr
  | .own p _ => some p
  | _ => none
def owns (env : List Sl) : List Addr := env.filterMap Sl.addr

/-- no table of code objects -/
def NoTb (u : HO) : Prop := ∀ ps, u ≠ .tbl ps
theorem OkO.kind {K : PySem.W.Frag} {F : Hp} : ∀ {o : OD} {u : HO}, OkO K F o u → NoTb u ∧ ∀ c q, u ≠ LamX.CodeO c q
  | .lst _, _, ⟨vs, e1, _⟩ => by
    subst e1
    exact ⟨fun ps z => (by cases z), fun c q z => (by unfold LamX.CodeO at z; cases z)⟩
  | .dct _, _, ⟨vs, e1, _⟩ => by
    subst e1
    exact ⟨fun ps z => (by cases z), fun c q z => (by unfold LamX.CodeO at z; cases z)⟩
structure EnvOk (K : PySem.W.Frag) (Tb : List (Addr × Str)) (F R H : Hp) (σ : L2.St) (env : List Sl) : Prop where
  exF : Same F H
  exR : Same R H
  dis : ∀ p o, F p = some o → R p = none
  len : σ.length = env.length
  slot : ∀ (i : Nat) (v : Option V) (s : Sl), σ[i]? = some v → env[i]? = some s → SlotOk K F R H v s
  nd : (owns env).Nodup
  tb : LamX.Tabs Tb H
  nt : ∀ b ps, H b = some (.tbl ps) → F b = none ∧ R b = none

/-- a result: data, a raw value, an object of one's own -/
abbrev RS := Sl
def ResOk (K : PySem.W.Frag) (F R H : Hp) (env : List Sl) (v : V) : RS → Prop
  | .no => False
  | .sh d => Rep K F d v
  | .raw w => v = w
  | .own p o => v = .ref p ∧ F p = none ∧ R p = none ∧ p ∉ owns env ∧ ∃ u, H p = some u ∧ OkO K F o u
def Sl.pd? : Sl → Option PD
  | .sh d => some d
  | .own _ o => some o.pd
  | _ => none

theorem owns_mem {env : List Sl} {p : Addr} : p ∈ owns env ↔ ∃ (i : Nat) (o : OD), env[i]? = some (Sl.own p o) := by
  unfold owns
  rw [List.mem_filterMap]
  constructor
  · rintro ⟨s, hs, e⟩
    obtain ⟨i, hi⟩ := List.mem_iff_getElem?.mp hs
    cases s with
    | own q o =>
      have : q = p := by simpa [Sl.addr] using e
      subst this
      exact ⟨i, o, hi⟩
    | no => simp [Sl.addr] at e
    | sh d => simp [Sl.addr] at e
    | raw v => simp [Sl.addr] at e
  · rintro ⟨i, o, hi⟩
    exact ⟨.own p o, List.mem_of_getElem? hi, rfl⟩
end Dw

/-! Dw1: contexts of a kind, readings chosen late, the judgements over data. -/
namespace Dw
open PySem PySem.Spec PyProof.Rows L2

/-- the fields of an error, as data -/
def RepF (K : PySem.W.Frag) (H : Hp) : List (Str × PD) → List (Str × V) → Prop
  | [], fs => fs = []
  | p :: ds, fs => ∃ v r, fs = (p.1, v) :: r ∧ Rep K H p.2 v ∧ RepF K H ds r
theorem RepF.mono {K : PySem.W.Frag} {H H' : Hp} (e : Same H H') : ∀ {ds : List (Str × PD)} {fs : List (Str × V)}, RepF K H ds fs → RepF K H' ds fs
  | [], _, h => h
  | _ :: _, _, ⟨v, r, e1, e2, e3⟩ => ⟨v, r, e1, e2.mono e, RepF.mono e e3⟩
/-- an error of the class at C with these fields is on its way -/
def ExcOk (K : PySem.W.Frag) (F H : Hp) (C : Addr) (ds : List (Str × PD)) (da : Addr) : Prop := ∃ fs, H da = some (.xd fs) ∧ RepF K F ds fs
/-- the program's ground: its text, its world, what the top has left, the tables of code objects -/
structure Pg where
  P : Program
  w : World
  K : PySem.W.Frag
  mg : Str → Option Value
  base : Heap
  Tb : List (Addr × Str)
  gd : Bool
structure Gm where
  N : List Str
  sc : Scope
  G : Pg
  code : Value
  qual : Str
  k : Nat
  W : WX
  Z : Addr → List (Str × PD) → List Sl → Prop
  asg : Str → Prop
abbrev Gm.K (Γ : Gm) := Γ.G.K
abbrev Gm.mg (Γ : Gm) := Γ.G.mg
abbrev Gm.P (Γ : Gm) := Γ.G.P
abbrev Gm.w (Γ : Gm) := Γ.G.w
abbrev Gm.base (Γ : Gm) := Γ.G.base
abbrev Gm.Tb (Γ : Gm) := Γ.G.Tb
structure Good (Γ : Gm) (X : Cx) : Prop where
  N : X.N = Γ.N
  sc : X.env.scope = Γ.sc
  K : X.K = Γ.K
  mg : X.mg = Γ.mg
  P : X.prog = Γ.P
  w : X.w = Γ.w
  base : X.base = Γ.base
  calm : X.calm = true
  gd : Γ.G.gd = true → X.A.guards = some []
  code : X.env.code = Γ.code
  qual : X.env.qual = Γ.qual
  room : Room Γ.k X.A
  fn : ∀ x, Γ.asg x → X.fn x = true ∨ Γ.sc.names.lookup x = some .local
  passes : PassesOwn (model X.prog X.w) X.A X.env X.xe
  takes : L2.Takes X Γ.W

def WE (Γ : Gm) (e : Expr) (σ : L2.St) (H : Hp) (Q : VK) : Prop := ∃ t : TE, (∀ X, Good Γ X → PE X e t) ∧ t σ H Q
def WT (Γ : Gm) (e : Expr) (σ : L2.St) (H : Hp) (Q : Bool → Hp → Prop) : Prop := ∃ t : TT, (∀ X, Good Γ X → PT X e t) ∧ t σ H Q
def WWh (Γ : Gm) (e : Expr) (σ : L2.St) (H : Hp) (Q : Bool → Hp → Prop) : Prop := ∃ t : TT, (∀ X, Good Γ X → PW X e t) ∧ t σ H Q
def WA (Γ : Gm) (es : List Expr) (σ : L2.St) (H : Hp) (Q : List V → Hp → Prop) : Prop := ∃ t : TA, (∀ X, Good Γ X → PA X es t) ∧ t σ H Q
def WS (Γ : Gm) (st : Stmt) (D : L2.Ends) (σ : L2.St) (H : Hp) : Prop := ∃ t : TS, (∀ X, Good Γ X → PS X st t) ∧ t D σ H
def WSs (Γ : Gm) (st : List Stmt) (D : L2.Ends) (σ : L2.St) (H : Hp) : Prop := ∃ t : TS, (∀ X, Good Γ X → PSs X st t) ∧ t D σ H
section
variable {Γ : Gm} {X : Cx}
theorem WE.pe {e : Expr} (g : Good Γ X) : PE X e (WE Γ e) := ⟨fun pins s σ H Q I ⟨t, p, q⟩ => (p X g).run pins s σ H Q I q⟩
theorem WT.pt {e : Expr} (g : Good Γ X) : PT X e (WT Γ e) := ⟨fun pins s σ H Q I ⟨t, p, q⟩ => (p X g).run pins s σ H Q I q⟩
theorem WWh.pw {e : Expr} (g : Good Γ X) : PW X e (WWh Γ e) := ⟨fun wh pins s σ H Q I ⟨t, p, q⟩ => (p X g).run wh pins s σ H Q I q⟩
theorem WA.pa {es : List Expr} (g : Good Γ X) : PA X es (WA Γ es) := ⟨fun pos pins s σ H Q I ⟨t, p, q⟩ => (p X g).run pos pins s σ H Q I q⟩
theorem WS.ps {st : Stmt} (g : Good Γ X) : PS X st (WS Γ st) := ⟨fun pins s σ H D I ⟨t, p, q⟩ => (p X g).run pins s σ H D I q⟩
theorem WSs.pss {st : List Stmt} (g : Good Γ X) : PSs X st (WSs Γ st) := ⟨fun pins s σ H D I ⟨t, p, q⟩ => (p X g).run pins s σ H D I q⟩

abbrev OpF (Γ : Gm) (f : Value → Value → Sem Value) (r : R2) : Prop := ∀ X, Good Γ X → OpR X f r
abbrev UnF (Γ : Gm) (f : Value → Sem Value) (r : V → Hp → VK → Prop) : Prop := ∀ X, Good Γ X → UnR X f r
abbrev CallF (Γ : Gm) (f : Value) (r : List V → Hp → VK → Prop) : Prop := ∀ X, Good Γ X → CallR X f r
abbrev MtF (Γ : Gm) (id : String) (r : V → List V → Hp → VK → Prop) : Prop := ∀ X, Good Γ X → MtR X id r
abbrev IxF (Γ : Gm) (r : R2) : Prop := ∀ X, Good Γ X → IxR X r
abbrev TruF (Γ : Gm) (r : V → Hp → (Bool → Hp → Prop) → Prop) : Prop := ∀ X, Good Γ X → TruR X r
def Op1 (Γ : Gm) (f : Value → Value → Sem Value) : R2 := fun x y H Q => ∃ r, OpF Γ f r ∧ r x y H Q
def Un1 (Γ : Gm) (f : Value → Sem Value) : V → Hp → VK → Prop := fun x H Q => ∃ r, UnF Γ f r ∧ r x H Q
def Call1 (Γ : Gm) (f : Value) : List V → Hp → VK → Prop := fun xs H Q => ∃ r, CallF Γ f r ∧ r xs H Q
def Mt1 (Γ : Gm) (id : String) : V → List V → Hp → VK → Prop := fun x xs H Q => ∃ r, MtF Γ id r ∧ r x xs H Q
def Ix1 (Γ : Gm) : R2 := fun x y H Q => ∃ r, IxF Γ r ∧ r x y H Q
def Tru1 (Γ : Gm) : V → Hp → (Bool → Hp → Prop) → Prop := fun x H Q => ∃ r, TruF Γ r ∧ r x H Q
theorem op1 (g : Good Γ X) {f : Value → Value → Sem Value} : OpR X f (Op1 Γ f) := fun pins s σ H x y v u Q I rx ry ⟨r, p, q⟩ => p X g pins s σ H x y v u Q I rx ry q
theorem un1 (g : Good Γ X) {f : Value → Sem Value} : UnR X f (Un1 Γ f) := fun pins s σ H x v Q I rx ⟨r, p, q⟩ => p X g pins s σ H x v Q I rx q
theorem call1 (g : Good Γ X) {f : Value} : CallR X f (Call1 Γ f) := fun pins s σ H xs us Q I rs ⟨r, p, q⟩ => p X g pins s σ H xs us Q I rs q
theorem mt1 (g : Good Γ X) {id : String} : MtR X id (Mt1 Γ id) := fun pins s σ H x xs v us Q I rx rs ⟨r, p, q⟩ => p X g pins s σ H x xs v us Q I rx rs q
theorem ix1 (g : Good Γ X) : IxR X (Ix1 Γ) := fun a b pins s σ H x y v u Q I rx ry ⟨r, p, q⟩ hs => p X g a b pins s σ H x y v u Q I rx ry q hs
theorem tru1 (g : Good Γ X) : TruR X (Tru1 Γ) := fun pins s σ H x v Q I rx ⟨r, p, q⟩ => p X g pins s σ H x v Q I rx q
end

/-- what the wish says of errors, over data -/
def WOk (Γ : Gm) (F R : Hp) : Prop := ∀ (C : Addr) (ds : List (Str × PD)) (env' : List Sl) (σ' : L2.St) (da : Addr) (F' H' : Hp), Γ.Z C ds env' → Same F F' → EnvOk Γ.K Γ.Tb F' R H' σ' env' → ExcOk Γ.K F' H' C ds da → F' da = none → R da = none → da ∉ owns env' → Γ.W (.ref C) (some da) σ' H'
theorem WOk.mono {Γ : Gm} {F F' R : Hp} (w : WOk Γ F R) (s : Same F F') : WOk Γ F' R := fun C ds env' σ' da G H' z e => w C ds env' σ' da G H' z (s.trans e)

/-! ### the judgements over data -/
/-- what is wanted of an expression's data, of any result, of a test, of arguments -/
structure EV (Γ : Gm) (e : Expr) (env : List Sl) (Q : PD → List Sl → Prop) : Prop where
  run : ∀ (F R H : Hp) (σ : L2.St) (P : VK), EnvOk Γ.K Γ.Tb F R H σ env → WOk Γ F R → (∀ (d : PD) (env' : List Sl) (v : V) (F' H' : Hp), Q d env' → Same F F' → EnvOk Γ.K Γ.Tb F' R H' σ env' → Rep Γ.K F' d v → P v H') → WE Γ e σ H P
structure EX (Γ : Gm) (e : Expr) (env : List Sl) (Q : RS → List Sl → Prop) : Prop where
  run : ∀ (F R H : Hp) (σ : L2.St) (P : VK), EnvOk Γ.K Γ.Tb F R H σ env → WOk Γ F R → (∀ (r : RS) (env' : List Sl) (v : V) (F' H' : Hp), Q r env' → Same F F' → EnvOk Γ.K Γ.Tb F' R H' σ env' → ResOk Γ.K F' R H' env' v r → P v H') → WE Γ e σ H P
structure ET (Γ : Gm) (e : Expr) (env : List Sl) (Q : Bool → List Sl → Prop) : Prop where
  run : ∀ (F R H : Hp) (σ : L2.St) (P : Bool → Hp → Prop), EnvOk Γ.K Γ.Tb F R H σ env → WOk Γ F R → (∀ (b : Bool) (env' : List Sl) (F' H' : Hp), Q b env' → Same F F' → EnvOk Γ.K Γ.Tb F' R H' σ env' → P b H') → WT Γ e σ H P
structure EW (Γ : Gm) (e : Expr) (env : List Sl) (Q : Bool → List Sl → Prop) : Prop where
  run : ∀ (F R H : Hp) (σ : L2.St) (P : Bool → Hp → Prop), EnvOk Γ.K Γ.Tb F R H σ env → WOk Γ F R → (∀ (b : Bool) (env' : List Sl) (F' H' : Hp), Q b env' → Same F F' → EnvOk Γ.K Γ.Tb F' R H' σ env' → P b H') → WWh Γ e σ H P
/-- a list of data -/
structure EVs (Γ : Gm) (es : List Expr) (env : List Sl) (Q : List PD → List Sl → Prop) : Prop where
  run : ∀ (F R H : Hp) (σ : L2.St) (P : List V → Hp → Prop), EnvOk Γ.K Γ.Tb F R H σ env → WOk Γ F R → (∀ (ds : List PD) (env' : List Sl) (vs : List V) (F' H' : Hp), Q ds env' → Same F F' → EnvOk Γ.K Γ.Tb F' R H' σ env' → RepL Γ.K F' ds vs → P vs H') → WA Γ es σ H P

/-- what is wanted behind statements -/
structure EndsD where
  nx : List Sl → Prop
  rt : RS → List Sl → Prop
  bk : List Sl → Prop := fun _ => False
  ct : List Sl → Prop := fun _ => False
def EndOk (K : PySem.W.Frag) (Tb : List (Addr × Str)) (F R : Hp) (D : EndsD) (E : L2.Ends) : Prop :=
  (∀ (env' : List Sl) (σ' : L2.St) (F' H' : Hp), D.nx env' → Same F F' → EnvOk K Tb F' R H' σ' env' → E.nx σ' H') ∧
  (∀ (env' : List Sl) (σ' : L2.St) (F' H' : Hp), D.bk env' → Same F F' → EnvOk K Tb F' R H' σ' env' → E.bk σ' H') ∧
  (∀ (env' : List Sl) (σ' : L2.St) (F' H' : Hp), D.ct env' → Same F F' → EnvOk K Tb F' R H' σ' env' → E.ct σ' H') ∧
  ∀ (r : RS) (env' : List Sl) (σ' : L2.St) (v : V) (F' H' : Hp), D.rt r env' → Same F F' → EnvOk K Tb F' R H' σ' env' → ResOk K F' R H' env' v r → E.rt v H'
structure SD (Γ : Gm) (st : Stmt) (env : List Sl) (D : EndsD) : Prop where
  run : ∀ (F R H : Hp) (σ : L2.St) (E : L2.Ends), EnvOk Γ.K Γ.Tb F R H σ env → WOk Γ F R → EndOk Γ.K Γ.Tb F R D E → WS Γ st E σ H
structure SDs (Γ : Gm) (st : List Stmt) (env : List Sl) (D : EndsD) : Prop where
  run : ∀ (F R H : Hp) (σ : L2.St) (E : L2.Ends), EnvOk Γ.K Γ.Tb F R H σ env → WOk Γ F R → EndOk Γ.K Γ.Tb F R D E → WSs Γ st E σ H

theorem EndOk.mono {K : PySem.W.Frag} {Tb : List (Addr × Str)} {F F' R : Hp} {D : EndsD} {E : L2.Ends} (h : EndOk K Tb F R D E) (e : Same F F') : EndOk K Tb F' R D E :=
  ⟨fun env' σ' G H' q s o => h.1 env' σ' G H' q (e.trans s) o, fun env' σ' G H' q s o => h.2.1 env' σ' G H' q (e.trans s) o, fun env' σ' G H' q s o => h.2.2.1 env' σ' G H' q (e.trans s) o,
    fun r env' σ' v G H' q s o z => h.2.2.2 r env' σ' v G H' q (e.trans s) o z⟩
theorem EndOk.next {K : PySem.W.Frag} {Tb : List (Addr × Str)} {F R : Hp} {D : EndsD} {E : L2.Ends} {nx : List Sl → Prop} {enx : L2.St → Hp → Prop} (h : EndOk K Tb F R D E)
    (hn : ∀ (env' : List Sl) (σ' : L2.St) (F' H' : Hp), nx env' → Same F F' → EnvOk K Tb F' R H' σ' env' → enx σ' H') : EndOk K Tb F R { D with nx := nx } { E with nx := enx } :=
  ⟨hn, h.2.1, h.2.2.1, h.2.2.2⟩
end Dw

/-! Dw2: how frames change. -/
namespace Dw
open PySem PySem.Spec PyProof.Rows L2
variable {Tb : List (Addr × Str)}
variable {K : PySem.W.Frag} {F F' R H H' : Hp} {σ : L2.St} {env : List Sl}

theorem owns_nil : owns [] = [] := rfl
theorem owns_set_sub {env : List Sl} {i : Nat} {s : Sl} (hs : s.addr = none) : (owns (env.set i s)).Sublist (owns env) := by
  induction env generalizing i with
  | nil => simp [owns]
  | cons t r ih =>
    cases i with
    | zero =>
      show (List.filterMap Sl.addr (s :: r)).Sublist (List.filterMap Sl.addr (t :: r))
      rw [List.filterMap_cons, hs, List.filterMap_cons]
      cases t.addr with
      | none => exact List.Sublist.refl _
      | some q => exact List.sublist_cons_self _ _
    | succ i =>
      show (List.filterMap Sl.addr (t :: r.set i s)).Sublist (List.filterMap Sl.addr (t :: r))
      rw [List.filterMap_cons, List.filterMap_cons]
      cases t.addr with
      | none => exact ih
      | some q => exact (ih).cons₂ q
theorem owns_set_own {env : List Sl} {i : Nat} {p : Addr} {o o' : OD} (h : env[i]? = some (Sl.own p o)) : owns (env.set i (Sl.own p o')) = owns env := by
  induction env generalizing i with
  | nil => simp at h
  | cons t r ih =>
    cases i with
    | zero =>
      have e : t = Sl.own p o := by simpa using h
      subst e; rfl
    | succ i =>
      have h' : r[i]? = some (Sl.own p o) := by simpa using h
      show List.filterMap Sl.addr (t :: r.set i _) = List.filterMap Sl.addr (t :: r)
      rw [List.filterMap_cons, List.filterMap_cons]
      have := ih h'
      unfold owns at this
      rw [this]
theorem owns_set_new {env : List Sl} {i : Nat} {p : Addr} {o : OD} (hn : (owns env).Nodup) (hp : p ∉ owns env) : (owns (env.set i (Sl.own p o))).Nodup := by
  induction env generalizing i with
  | nil => simp [owns]
  | cons t r ih =>
    have hr : (owns r).Nodup := by
      unfold owns at hn ⊢
      rw [List.filterMap_cons] at hn
      cases ht : t.addr with
      | none => rw [ht] at hn; exact hn
      | some q => rw [ht] at hn; exact (List.nodup_cons.mp hn).2
    have hpr : p ∉ owns r := fun z => hp (by
      unfold owns at z ⊢
      rw [List.filterMap_cons]
      cases t.addr with
      | none => exact z
      | some q => exact List.mem_cons_of_mem _ z)
    cases i with
    | zero =>
      show (List.filterMap Sl.addr (Sl.own p o :: r)).Nodup
      rw [List.filterMap_cons]
      exact List.nodup_cons.mpr ⟨hpr, hr⟩
    | succ i =>
      show (List.filterMap Sl.addr (t :: r.set i (Sl.own p o))).Nodup
      rw [List.filterMap_cons]
      have ih' := ih (i := i) hr hpr
      cases ht : t.addr with
      | none => exact ih'
      | some q =>
        refine List.nodup_cons.mpr ⟨fun z => ?_, ih'⟩
        have z' : q ∈ owns (r.set i (Sl.own p o)) := z
        obtain ⟨j, o2, hj⟩ := owns_mem.mp z'
        by_cases hij : i = j
        · subst hij
          have hlt : i < r.length := by
            have := List.getElem?_eq_some_iff.mp hj
            simpa using this.1
          rw [List.getElem?_set_self hlt] at hj
          have e : p = q := by
            have := Option.some.inj hj
            injection this
          subst e
          exact hp (by
            unfold owns
            rw [List.filterMap_cons, ht]
            exact List.mem_cons_self)
        · rw [List.getElem?_set_ne hij] at hj
          have z2 : q ∈ owns r := owns_mem.mpr ⟨j, o2, hj⟩
          have hn' : (q :: owns r).Nodup := by
            unfold owns at hn ⊢
            rw [List.filterMap_cons, ht] at hn
            exact hn
          exact (List.nodup_cons.mp hn').1 z2

theorem SlotOk.grow (hF : Same F F') : ∀ {v : Option V} {s : Sl}, SlotOk K F R H v s → (∀ p o, s = Sl.own p o → F' p = none ∧ H' p = H p) → SlotOk K F' R H' v s
  | _, .no, _, _ => trivial
  | some v, .sh d, h, _ => Rep.mono hF h
  | some v, .raw w, h, _ => h
  | some v, .own p o, ⟨h1, h2, h3, u, h4, h5⟩, hd => by
    obtain ⟨a, b⟩ := hd p o rfl
    exact ⟨h1, a, h3, u, by rw [b]; exact h4, h5.mono hF⟩
  | none, .sh _, h, _ => h.elim
  | none, .raw _, h, _ => h.elim
  | none, .own _ _, h, _ => h.elim

theorem EnvOk.get (E : EnvOk K Tb F R H σ env) {i : Nat} {s : Sl} (h : env[i]? = some s) : ∃ v, σ[i]? = some v ∧ SlotOk K F R H v s := by
  have hi : i < env.length := (List.getElem?_eq_some_iff.mp h).1
  have hj : i < σ.length := by rw [E.len]; exact hi
  exact ⟨σ[i], List.getElem?_eq_getElem hj, E.slot i _ s (List.getElem?_eq_getElem hj) h⟩
theorem EnvOk.getSh (E : EnvOk K Tb F R H σ env) {i : Nat} {d : PD} (h : env[i]? = some (.sh d)) : ∃ v, σ[i]? = some (some v) ∧ Rep K F d v := by
  obtain ⟨v, h1, h2⟩ := E.get h
  cases v with
  | none => exact h2.elim
  | some v => exact ⟨v, h1, h2⟩
theorem EnvOk.getRaw (E : EnvOk K Tb F R H σ env) {i : Nat} {w : V} (h : env[i]? = some (.raw w)) : σ[i]? = some (some w) := by
  obtain ⟨v, h1, h2⟩ := E.get h
  cases v with
  | none => exact h2.elim
  | some v => rw [h1, show v = w from h2]
theorem EnvOk.getOwn (E : EnvOk K Tb F R H σ env) {i : Nat} {p : Addr} {o : OD} (h : env[i]? = some (Sl.own p o)) : σ[i]? = some (some (.ref p)) ∧ F p = none ∧ R p = none ∧ ∃ u, H p = some u ∧ OkO K F o u := by
  obtain ⟨v, h1, h2⟩ := E.get h
  cases v with
  | none => exact h2.elim
  | some v =>
    obtain ⟨e, h3⟩ := h2
    exact ⟨by rw [h1, e], h3⟩
theorem EnvOk.own_fr (E : EnvOk K Tb F R H σ env) {p : Addr} (h : p ∈ owns env) : F p = none ∧ R p = none ∧ ∃ u, H p = some u := by
  obtain ⟨i, o, hi⟩ := owns_mem.mp h
  obtain ⟨_, a, b, u, c, _⟩ := E.getOwn hi
  exact ⟨a, b, u, c⟩
/-- the heap grows, the data's ground too -/
theorem EnvOk.grow (E : EnvOk K Tb F R H σ env) (hF : Same F F') (hH : Same H H') (hFH : Same F' H') (hd : ∀ p o, F' p = some o → R p = none ∧ p ∉ owns env) (hn : ∀ b ps, H' b = some (.tbl ps) → H b = some (.tbl ps) ∧ (F b = none → F' b = none)) : EnvOk K Tb F' R H' σ env where
  tb := E.tb.ext hH
  nt := fun b ps e => ⟨(hn b ps e).2 (E.nt b ps (hn b ps e).1).1, (E.nt b ps (hn b ps e).1).2⟩
  exF := hFH
  exR := E.exR.trans hH
  dis := fun p o h => (hd p o h).1
  len := E.len
  nd := E.nd
  slot := fun i v s h1 h2 => by
    have q := E.slot i v s h1 h2
    refine SlotOk.grow hF q (fun p o e => ?_)
    · subst e
      have hm : p ∈ owns env := owns_mem.mpr ⟨i, o, h2⟩
      obtain ⟨_, _, u, hu⟩ := E.own_fr hm
      refine ⟨?_, by rw [hH p u hu, hu]⟩
      cases hp : F' p with
      | none => rfl
      | some o' => exact absurd hm (hd p o' hp).2
theorem EnvOk.growH (E : EnvOk K Tb F R H σ env) (hH : Same H H') (hn : ∀ b ps, H' b = some (.tbl ps) → H b = some (.tbl ps)) : EnvOk K Tb F R H' σ env :=
  E.grow (Same.refl F) hH (E.exF.trans hH) (fun p o h => ⟨E.dis p o h, fun z => by
    rw [(E.own_fr z).1] at h
    cases h⟩) fun b ps e => ⟨hn b ps e, id⟩
theorem tb_upd {p : Addr} {u : HO} (hu : NoTb u) : ∀ b ps, upd H p u b = some (.tbl ps) → H b = some (.tbl ps) := fun b ps e => by
  by_cases hb : b = p
  · subst hb; rw [upd_same] at e; exact absurd (Option.some.inj e) (hu ps)
  · rw [upd_ne hb] at e; exact e
theorem noTb_lst {xs : List V} : NoTb (.lst xs) := fun ps z => by cases z
theorem noTb_tup {xs : List V} : NoTb (.tup xs) := fun ps z => by cases z
theorem noTb_dK {xs : List (Key × V)} : NoTb (.dK xs) := fun ps z => by cases z
theorem EnvOk.growU (E : EnvOk K Tb F R H σ env) {p : Addr} {u : HO} (h : H p = none) (hu : NoTb u) : EnvOk K Tb F R (upd H p u) σ env := E.growH (fun b x e => by
  rw [upd_ne (ne_of_none e h)]
  exact e) (tb_upd hu)
theorem EnvOk.fresh (E : EnvOk K Tb F R H σ env) {p : Addr} (h : H p = none) : F p = none ∧ R p = none ∧ p ∉ owns env := by
  refine ⟨?_, ?_, fun z => ?_⟩
  · cases e : F p with
    | none => rfl
    | some o => rw [E.exF p o e] at h; cases h
  · cases e : R p with
    | none => rfl
    | some o => rw [E.exR p o e] at h; cases h
  · obtain ⟨_, _, u, hu⟩ := E.own_fr z
    rw [hu] at h; cases h
theorem same_upd {p : Addr} {o : HO} (h : H p = none) : Same H (upd H p o) := fun b x e => by
  rw [upd_ne (ne_of_none e h)]
  exact e
/-- a new object, data from now on -/
theorem EnvOk.newF (E : EnvOk K Tb F R H σ env) {p : Addr} (h : H p = none) (u : HO) (hu : NoTb u := by first | exact noTb_lst | exact noTb_tup | exact noTb_dK) : EnvOk K Tb (upd F p u) R (upd H p u) σ env ∧ Same F (upd F p u) := by
  obtain ⟨f1, f2, f3⟩ := E.fresh h
  refine ⟨E.grow (same_upd f1) (same_upd h) (fun b o e => ?_) (fun b o e => ?_) (fun b ps e => ⟨tb_upd hu b ps e, fun e2 => ?_⟩), same_upd f1⟩
  · by_cases hb : b = p
    · subst hb; rw [upd_same] at e ⊢; exact e
    · rw [upd_ne hb] at e ⊢; exact E.exF b o e
  · by_cases hb : b = p
    · subst hb; exact ⟨f2, f3⟩
    · rw [upd_ne hb] at e
      refine ⟨E.dis b o e, fun z => ?_⟩
      rw [(E.own_fr z).1] at e; cases e
  · rw [upd_ne (fun z => by subst z; rw [upd_same] at e; exact hu ps (Option.some.inj e))]
    exact e2
theorem own_uniq {l : List Sl} : ∀ {a b : Nat} {q : Addr} {o1 o2 : OD}, l[a]? = some (Sl.own q o1) → l[b]? = some (Sl.own q o2) → (owns l).Nodup → a = b := by
  induction l with
  | nil => intro a b q o1 o2 x _ _; simp at x
  | cons t r ih =>
    intro a b q o1 o2 x y nd
    have cons_own : ∀ {o : OD}, t = Sl.own q o → ∀ (c : Nat) (o3 : OD), r[c]? = some (Sl.own q o3) → False := by
      intro o e c o3 hc
      subst e
      have : (q :: owns r).Nodup := nd
      exact (List.nodup_cons.mp this).1 (owns_mem.mpr ⟨c, o3, hc⟩)
    cases a with
    | zero =>
      cases b with
      | zero => rfl
      | succ b => exact (cons_own (by simpa using x) b o2 (by simpa using y)).elim
    | succ a =>
      cases b with
      | zero => exact (cons_own (by simpa using y) a o1 (by simpa using x)).elim
      | succ b =>
        refine congrArg (· + 1) (ih (by simpa using x) (by simpa using y) ?_)
        unfold owns at nd ⊢
        rw [List.filterMap_cons] at nd
        cases ht : t.addr with
        | none => rw [ht] at nd; exact nd
        | some w => rw [ht] at nd; exact (List.nodup_cons.mp nd).2
/-- an object of one's own becomes data -/
theorem EnvOk.freeze (E : EnvOk K Tb F R H σ env) {i : Nat} {p : Addr} {o : OD} (h : env[i]? = some (Sl.own p o)) :
    ∃ u, H p = some u ∧ EnvOk K Tb (upd F p u) R H σ (env.set i (.sh o.pd)) ∧ Same F (upd F p u) ∧ Rep K (upd F p u) o.pd (.ref p) ∧ σ[i]? = some (some (.ref p)) := by
  obtain ⟨h1, h2, h3, u, h4, h5⟩ := E.getOwn h
  have sF : Same F (upd F p u) := same_upd h2
  have rp : Rep K (upd F p u) o.pd (.ref p) := by
    have h6 := h5.mono sF
    cases o with
    | lst xs =>
      obtain ⟨vs, rfl, h7⟩ := h6
      exact ⟨p, vs, rfl, .inl upd_same, h7⟩
    | dct kvs =>
      obtain ⟨vs, rfl, h7⟩ := h6
      exact ⟨p, vs, rfl, .inl upd_same, h7⟩
  refine ⟨u, h4, ⟨fun b w e => ?_, E.exR, fun b w e => ?_, by rw [List.length_set]; exact E.len, fun j v s e1 e2 => ?_, (owns_set_sub rfl).nodup E.nd, E.tb, fun b ps e => ⟨?_, (E.nt b ps e).2⟩⟩, sF, rp, h1⟩
  · by_cases hb : b = p
    · subst hb; rw [upd_same] at e; rw [h4, ← e]
    · rw [upd_ne hb] at e; exact E.exF b w e
  · by_cases hb : b = p
    · subst hb; exact h3
    · rw [upd_ne hb] at e; exact E.dis b w e
  · by_cases hj : i = j
    · subst hj
      have hi : i < env.length := (List.getElem?_eq_some_iff.mp h).1
      rw [List.getElem?_set_self hi] at e2
      cases e2
      rw [h1] at e1
      cases e1
      exact rp
    · rw [List.getElem?_set_ne hj] at e2
      have q := E.slot j v s e1 e2
      refine SlotOk.grow sF q (fun q2 o' e => ?_)
      · subst e
        refine ⟨?_, rfl⟩
        have hqp : q2 ≠ p := fun z => by
          subst z
          exact hj (own_uniq h e2 E.nd)
        rw [upd_ne hqp]
        exact (E.own_fr (owns_mem.mpr ⟨j, _, e2⟩)).1
  · rw [upd_ne (fun z => by subst z; rw [h4] at e; exact h5.kind.1 ps (Option.some.inj e))]
    exact (E.nt b ps e).1
/-- a slot is assigned data -/
theorem EnvOk.setSh (E : EnvOk K Tb F R H σ env) (i : Nat) {v : V} {d : PD} (r : Rep K F d v) : EnvOk K Tb F R H (σ.set i (some v)) (env.set i (.sh d)) where
  tb := E.tb
  nt := E.nt
  exF := E.exF
  exR := E.exR
  dis := E.dis
  len := by rw [List.length_set, List.length_set]; exact E.len
  nd := (owns_set_sub rfl).nodup E.nd
  slot := fun j w s e1 e2 => by
    by_cases hj : i = j
    · subst hj
      have hi : i < env.length := by
        have := (List.getElem?_eq_some_iff.mp e2).1
        simpa using this
      rw [List.getElem?_set_self hi] at e2
      rw [List.getElem?_set_self (by rw [E.len]; exact hi)] at e1
      cases e1; cases e2
      exact r
    · rw [List.getElem?_set_ne hj] at e1 e2
      exact E.slot j w s e1 e2
theorem EnvOk.setRaw (E : EnvOk K Tb F R H σ env) (i : Nat) {v : V} : EnvOk K Tb F R H (σ.set i (some v)) (env.set i (.raw v)) where
  tb := E.tb
  nt := E.nt
  exF := E.exF
  exR := E.exR
  dis := E.dis
  len := by rw [List.length_set, List.length_set]; exact E.len
  nd := (owns_set_sub rfl).nodup E.nd
  slot := fun j w s e1 e2 => by
    by_cases hj : i = j
    · subst hj
      have hi : i < env.length := by
        have := (List.getElem?_eq_some_iff.mp e2).1
        simpa using this
      rw [List.getElem?_set_self hi] at e2
      rw [List.getElem?_set_self (by rw [E.len]; exact hi)] at e1
      cases e1; cases e2
      exact rfl
    · rw [List.getElem?_set_ne hj] at e1 e2
      exact E.slot j w s e1 e2
theorem EnvOk.setNo (E : EnvOk K Tb F R H σ env) (i : Nat) : EnvOk K Tb F R H σ (env.set i .no) where
  tb := E.tb
  nt := E.nt
  exF := E.exF
  exR := E.exR
  dis := E.dis
  len := by rw [List.length_set]; exact E.len
  nd := (owns_set_sub rfl).nodup E.nd
  slot := fun j w s e1 e2 => by
    by_cases hj : i = j
    · subst hj
      have hi : i < env.length := by
        have := (List.getElem?_eq_some_iff.mp e2).1
        simpa using this
      rw [List.getElem?_set_self hi] at e2
      cases e2
      cases w <;> exact trivial
    · rw [List.getElem?_set_ne hj] at e2
      exact E.slot j w s e1 e2
theorem EnvOk.setOwn (E : EnvOk K Tb F R H σ env) (i : Nat) {p : Addr} {o : OD} {u : HO} (f1 : F p = none) (f2 : R p = none) (f3 : p ∉ owns env) (hu : H p = some u) (ho : OkO K F o u) :
    EnvOk K Tb F R H (σ.set i (some (.ref p))) (env.set i (Sl.own p o)) where
  tb := E.tb
  nt := E.nt
  exF := E.exF
  exR := E.exR
  dis := E.dis
  len := by rw [List.length_set, List.length_set]; exact E.len
  nd := owns_set_new E.nd f3
  slot := fun j w s e1 e2 => by
    by_cases hj : i = j
    · subst hj
      have hi : i < env.length := by
        have := (List.getElem?_eq_some_iff.mp e2).1
        simpa using this
      rw [List.getElem?_set_self hi] at e2
      rw [List.getElem?_set_self (by rw [E.len]; exact hi)] at e1
      cases e1; cases e2
      exact ⟨rfl, f1, f2, u, hu, ho⟩
    · rw [List.getElem?_set_ne hj] at e1 e2
      exact E.slot j w s e1 e2
/-- an own object is changed -/
theorem EnvOk.mut (E : EnvOk K Tb F R H σ env) {i : Nat} {p : Addr} {o o' : OD} {u' : HO} (h : env[i]? = some (Sl.own p o)) (ho : OkO K F o' u') : EnvOk K Tb F R (upd H p u') σ (env.set i (Sl.own p o')) := by
  obtain ⟨h1, h2, h3, u, h4, h5⟩ := E.getOwn h
  have k1 := ho.kind
  have k0 := h5.kind
  refine ⟨fun b w e => ?_, fun b w e => ?_, E.dis, by rw [List.length_set]; exact E.len, fun j w s e1 e2 => ?_, by rw [owns_set_own h]; exact E.nd, fun t ht => ?_, fun b ps e => E.nt b ps (tb_upd k1.1 b ps e)⟩
  · rw [upd_ne (fun z => by subst z; rw [h2] at e; cases e)]
    exact E.exF b w e
  · rw [upd_ne (fun z => by subst z; rw [h3] at e; cases e)]
    exact E.exR b w e
  · by_cases hj : i = j
    · subst hj
      have hi : i < env.length := (List.getElem?_eq_some_iff.mp h).1
      rw [List.getElem?_set_self hi] at e2
      rw [h1] at e1
      cases e1; cases e2
      exact ⟨rfl, h2, h3, u', upd_same, ho⟩
    · rw [List.getElem?_set_ne hj] at e2
      refine SlotOk.grow (Same.refl F) (E.slot j w s e1 e2) (fun q o3 e => ?_)
      · subst e
        have hq : q ≠ p := fun z => by
          subst z
          exact hj (own_uniq h e2 E.nd)
        exact ⟨(E.own_fr (owns_mem.mpr ⟨j, _, e2⟩)).1, upd_ne hq⟩
  · obtain ⟨ps, t1, t2, t3⟩ := E.tb t ht
    refine ⟨ps, by rw [upd_ne (fun z => by rw [z, h4] at t1; exact k0.1 ps (Option.some.inj t1))]; exact t1, t2, fun ps2 cv hc => ?_⟩
    obtain ⟨c, z1, z2⟩ := t3 ps2 cv hc
    exact ⟨c, z1, by rw [upd_ne (fun z => by rw [z, h4] at z2; exact k0.2 _ _ (Option.some.inj z2))]; exact z2⟩
end Dw

/-! Dw3: expressions. -/
namespace Dw
open PySem PySem.Spec PyProof.Rows L2
variable {Tb : List (Addr × Str)}
variable {Γ : Gm} {env : List Sl} {Q : PD → List Sl → Prop} {QX : RS → List Sl → Prop} {QB : Bool → List Sl → Prop} {a b c e : Expr} {es : List Expr} {pos : Pos}

theorem sz5 {n : Nat} (h : n ≤ 100000) : n ≤ sizeLine := Nat.le_trans h (by decide)

/-! ### weakening -/
theorem EV.imp {Q' : PD → List Sl → Prop} (h : EV Γ e env Q) (hq : ∀ d e', Q d e' → Q' d e') : EV Γ e env Q' := .mk fun F R H σ P E w k => h.run F R H σ P E w fun d env' v F' H' q => k d env' v F' H' (hq _ _ q)
theorem EX.imp {Q' : RS → List Sl → Prop} (h : EX Γ e env QX) (hq : ∀ d e', QX d e' → Q' d e') : EX Γ e env Q' := .mk fun F R H σ P E w k => h.run F R H σ P E w fun d env' v F' H' q => k d env' v F' H' (hq _ _ q)
theorem ET.imp {Q' : Bool → List Sl → Prop} (h : ET Γ e env QB) (hq : ∀ d e', QB d e' → Q' d e') : ET Γ e env Q' := .mk fun F R H σ P E w k => h.run F R H σ P E w fun d env' F' H' q => k d env' F' H' (hq _ _ q)

/-! ### data as a result, a result as data -/
theorem ex_ev (h : EV Γ e env fun d e' => QX (.sh d) e') : EX Γ e env QX := .mk fun F R H σ P E w k => h.run F R H σ P E w fun d env' v F' H' q s o r => k (.sh d) env' v F' H' q s o r
theorem EnvOk.freezeRes {K : PySem.W.Frag} {F R H : Hp} {σ : L2.St} {p : Addr} {o : OD} {u : HO} (E : EnvOk K Tb F R H σ env) (f1 : F p = none) (f2 : R p = none) (f3 : p ∉ owns env) (hu : H p = some u) (ho : OkO K F o u) :
    EnvOk K Tb (upd F p u) R H σ env ∧ Same F (upd F p u) ∧ Rep K (upd F p u) o.pd (.ref p) := by
  have sF : Same F (upd F p u) := same_upd f1
  refine ⟨E.grow sF (Same.refl H) (fun b w e => ?_) (fun b w e => ?_) (fun b ps e => ⟨e, fun e2 => by
    rw [upd_ne (fun z => by subst z; rw [hu] at e; exact ho.kind.1 ps (Option.some.inj e))]
    exact e2⟩), sF, ?_⟩
  · by_cases hb : b = p
    · subst hb; rw [upd_same] at e; rw [hu, ← e]
    · rw [upd_ne hb] at e; exact E.exF b w e
  · by_cases hb : b = p
    · subst hb; exact ⟨f2, f3⟩
    · rw [upd_ne hb] at e
      refine ⟨E.dis b w e, fun z => ?_⟩
      rw [(E.own_fr z).1] at e; cases e
  · have h6 := ho.mono sF
    cases o with
    | lst xs =>
      obtain ⟨vs, rfl, h7⟩ := h6
      exact ⟨p, vs, rfl, .inl upd_same, h7⟩
    | dct kvs =>
      obtain ⟨vs, rfl, h7⟩ := h6
      exact ⟨p, vs, rfl, .inl upd_same, h7⟩
theorem ev_ex (h : EX Γ e env fun r e' => ∃ d, r.pd? = some d ∧ Q d e') : EV Γ e env Q := .mk fun F R H σ P E w k => h.run F R H σ P E w fun r env' v F' H' q s o z => by
  obtain ⟨d, hd, q⟩ := q
  cases r with
  | no => exact z.elim
  | raw w => simp [Sl.pd?] at hd
  | sh d' =>
    have e : d' = d := by simpa [Sl.pd?] using hd
    subst e
    exact k _ env' v F' H' q s o z
  | own p ob =>
    have e : ob.pd = d := by simpa [Sl.pd?] using hd
    subst e
    obtain ⟨rfl, f1, f2, f3, u, hu, ho⟩ := z
    obtain ⟨o2, s2, r2⟩ := o.freezeRes f1 f2 f3 hu ho
    exact k _ env' _ _ H' q (s.trans s2) o2 r2

/-! ### constants and names -/
theorem ev_none {j} (q : Q .none env) : EV Γ (.Constant .none j pos) env Q := .mk fun F R H σ P E w k => ⟨_, fun X g => pe_non, k _ env _ F H q (Same.refl F) E rfl⟩
theorem ev_bool {j x} (q : Q (.bool x) env) : EV Γ (.Constant (.bool x) j pos) env Q := .mk fun F R H σ P E w k => ⟨_, fun X g => pe_bl, k _ env _ F H q (Same.refl F) E rfl⟩
theorem ev_int {j x} (q : Q (.int x) env) : EV Γ (.Constant (.int x) j pos) env Q := .mk fun F R H σ P E w k => ⟨_, fun X g => pe_int, k _ env _ F H q (Same.refl F) E rfl⟩
theorem ev_str {j x} (q : Q (.str x) env) : EV Γ (.Constant (.str x) j pos) env Q := .mk fun F R H σ P E w k => ⟨_, fun X g => pe_str, k _ env _ F H q (Same.refl F) E rfl⟩
theorem ev_name {i : Nat} {x : Str} {d : PD} (h : env[i]? = some (.sh d)) (q : Q d env) (hN : Γ.N[i]? = some x) (hv : Vis Γ.sc x) (hd : (x == ("__debug__" : Str)) = false := by decide +kernel) (hcd : (x == ("__classdict__" : Str)) = false := by decide +kernel) :
    EV Γ (.Name x pos) env Q := .mk fun F R H σ P E w k => by
  obtain ⟨v, h1, h2⟩ := E.getSh h
  exact ⟨tVar i, fun X g => pe_var (by rw [g.N]; exact hN) (by rw [g.sc]; exact hv) hd hcd, v, h1, k d env v F H q (Same.refl F) E h2⟩
/-- an object of one's own, read as data from now on -/
theorem ev_nameF {i : Nat} {x : Str} {p : Addr} {o : OD} (h : env[i]? = some (Sl.own p o)) (q : Q o.pd (env.set i (.sh o.pd))) (hN : Γ.N[i]? = some x) (hv : Vis Γ.sc x) (hd : (x == ("__debug__" : Str)) = false := by decide +kernel) (hcd : (x == ("__classdict__" : Str)) = false := by decide +kernel) :
    EV Γ (.Name x pos) env Q := .mk fun F R H σ P E w k => by
  obtain ⟨u, _, h2, h3, h4, h5⟩ := E.freeze h
  exact ⟨tVar i, fun X g => pe_var (by rw [g.N]; exact hN) (by rw [g.sc]; exact hv) hd hcd, _, h5, k _ _ _ _ H q h3 h2 h4⟩
/-- an object of one's own is given away -/
theorem ex_nameO {i : Nat} {x : Str} {p : Addr} {o : OD} (h : env[i]? = some (Sl.own p o)) (q : QX (Sl.own p o) (env.set i .no)) (hN : Γ.N[i]? = some x) (hv : Vis Γ.sc x) (hd : (x == ("__debug__" : Str)) = false := by decide +kernel) (hcd : (x == ("__classdict__" : Str)) = false := by decide +kernel) :
    EX Γ (.Name x pos) env QX := .mk fun F R H σ P E w k => by
  obtain ⟨h1, h2, h3, u, h4, h5⟩ := E.getOwn h
  refine ⟨tVar i, fun X g => pe_var (by rw [g.N]; exact hN) (by rw [g.sc]; exact hv) hd hcd, _, h1, k _ _ _ _ H q (Same.refl F) (E.setNo i) ⟨rfl, h2, h3, fun z => ?_, u, h4, h5⟩⟩
  obtain ⟨j, o2, hj⟩ := owns_mem.mp z
  by_cases hij : i = j
  · subst hij
    have hi : i < env.length := (List.getElem?_eq_some_iff.mp h).1
    rw [List.getElem?_set_self hi] at hj
    cases hj
  · rw [List.getElem?_set_ne hij] at hj
    exact hij (own_uniq h hj E.nd)
theorem ex_nameR {i : Nat} {x : Str} {rv : V} (h : env[i]? = some (.raw rv)) (q : QX (.raw rv) env) (hN : Γ.N[i]? = some x) (hv : Vis Γ.sc x) (hd : (x == ("__debug__" : Str)) = false := by decide +kernel) (hcd : (x == ("__classdict__" : Str)) = false := by decide +kernel) :
    EX Γ (.Name x pos) env QX := .mk fun F R H σ P E w k => ⟨tVar i, fun X g => pe_var (by rw [g.N]; exact hN) (by rw [g.sc]; exact hv) hd hcd, rv, E.getRaw h, k _ env rv F H q (Same.refl F) E rfl⟩
/-- a constant of the module -/
theorem ev_glob {x : Str} {v : V} {u : Value} {d : PD} (q : Q d env) (hg : Γ.sc.names.lookup x = some .globalImplicit) (hm : Γ.mg x = some u) (r : RelV v u) (hr : Rep Γ.K (fun _ => none) d v) (hd : (x == ("__debug__" : Str)) = false := by decide +kernel) :
    EV Γ (.Name x pos) env Q := .mk fun F R H σ P E w k => ⟨tC v, fun X g => pe_glob (by unfold Gl Env.kindOf; rw [g.sc]; exact hg) (by rw [g.mg]; exact hm) r hd, k d env v F H q (Same.refl F) E (hr.mono fun _ _ e => by simp at e)⟩

/-! ### operators -/
/-- an operation on data, its results -/
def OpD (Γ : Gm) (f : Value → Value → Sem Value) (da db : PD) (Qr : RS → Prop) : Prop :=
  ∀ (F R H : Hp) (σ : L2.St) (env : List Sl) (x y : V) (P : VK), EnvOk Γ.K Γ.Tb F R H σ env → Rep Γ.K F da x → Rep Γ.K F db y → (∀ r v F' H', Qr r → Same F F' → EnvOk Γ.K Γ.Tb F' R H' σ env → ResOk Γ.K F' R H' env v r → P v H') → Op1 Γ f x y H P
structure BinD (Γ : Gm) (op : Operator) (da db : PD) (Qr : RS → Prop) : Prop where
  run : OpD Γ (binaryOp op) da db Qr
structure CmpD (Γ : Gm) (op : CmpOp) (da db : PD) (Qr : RS → Prop) : Prop where
  run : OpD Γ (compareOp op) da db Qr
structure IxD (Γ : Gm) (da db : PD) (d : PD) : Prop where
  run : ∀ (F R H : Hp) (σ : L2.St) (env : List Sl) (x y : V) (P : VK), EnvOk Γ.K Γ.Tb F R H σ env → Rep Γ.K F da x → Rep Γ.K F db y → (∀ v, Rep Γ.K F d v → P v H) → Ix1 Γ x y H P
structure UnD (Γ : Gm) (f : Value → Sem Value) (da : PD) (d : PD) : Prop where
  run : ∀ (F R H : Hp) (σ : L2.St) (env : List Sl) (x : V) (P : VK), EnvOk Γ.K Γ.Tb F R H σ env → Rep Γ.K F da x → (∀ v, Rep Γ.K F d v → P v H) → Un1 Γ f x H P
structure CallD (Γ : Gm) (f : Value) (ds : List PD) (Qr : RS → Prop) : Prop where
  run : ∀ (F R H : Hp) (σ : L2.St) (env : List Sl) (vs : List V) (P : VK), EnvOk Γ.K Γ.Tb F R H σ env → RepL Γ.K F ds vs → (∀ r v F' H', Qr r → Same F F' → EnvOk Γ.K Γ.Tb F' R H' σ env → ResOk Γ.K F' R H' env v r → P v H') → Call1 Γ f vs H P
structure MtD (Γ : Gm) (T id : String) (d : PD) (ds : List PD) (Qr : RS → Prop) : Prop where
  run : ∀ (F R H : Hp) (σ : L2.St) (env : List Sl) (v : V) (vs : List V) (P : VK), EnvOk Γ.K Γ.Tb F R H σ env → Rep Γ.K F d v → RepL Γ.K F ds vs → (∀ r v F' H', Qr r → Same F F' → EnvOk Γ.K Γ.Tb F' R H' σ env → ResOk Γ.K F' R H' env v r → P v H') → Mt1 Γ id v vs H P

theorem ex_bin {op : Operator} (h : EV Γ a env fun da e1 => EV Γ b e1 fun db e2 => ∃ Qr, BinD Γ op da db Qr ∧ ∀ r, Qr r → QX r e2) : EX Γ (.BinOp a op b pos) env QX := .mk fun F R H σ P E w k =>
  ⟨tOp (Op1 Γ (binaryOp op)) (WE Γ a) (WE Γ b), fun X g => pe_op (op1 g) (WE.pe g) (WE.pe g), h.run F R H σ _ E w fun da e1 x F1 H1 h1 s1 E1 r1 => h1.run F1 R H1 σ _ E1 (w.mono s1) fun db e2 y F2 H2 h2 s2 E2 r2 => by
    obtain ⟨Qr, ho, hq⟩ := h2
    exact ho.run F2 R H2 σ e2 x y P E2 (r1.mono s2) r2 fun r v F' H' qr s' E' z => k r e2 v F' H' (hq r qr) ((s1.trans s2).trans s') E' z⟩
theorem ex_cmp {op : CmpOp} (h : EV Γ a env fun da e1 => EV Γ b e1 fun db e2 => ∃ Qr, CmpD Γ op da db Qr ∧ ∀ r, Qr r → QX r e2) (hm : behindInMarks op b = false := by first | exact nobehind _ (by decide) (by decide) | rfl) : EX Γ (.Compare a [op] [b] pos) env QX := .mk fun F R H σ P E w k =>
  ⟨tOp (Op1 Γ (compareOp op)) (WE Γ a) (WE Γ b), fun X g => pe_cmpR (op1 g) (WE.pe g) (WE.pe g) hm, h.run F R H σ _ E w fun da e1 x F1 H1 h1 s1 E1 r1 => h1.run F1 R H1 σ _ E1 (w.mono s1) fun db e2 y F2 H2 h2 s2 E2 r2 => by
    obtain ⟨Qr, ho, hq⟩ := h2
    exact ho.run F2 R H2 σ e2 x y P E2 (r1.mono s2) r2 fun r v F' H' qr s' E' z => k r e2 v F' H' (hq r qr) ((s1.trans s2).trans s') E' z⟩
theorem et_cmp {op : CmpOp} (h : EV Γ a env fun da e1 => EV Γ b e1 fun db e2 => ∃ t, CmpD Γ op da db (· = .sh (.bool t)) ∧ QB t e2) (hm : behindInMarks op b = false := by first | exact nobehind _ (by decide) (by decide) | rfl) : ET Γ (.Compare a [op] [b] pos) env QB := .mk fun F R H σ P E w k =>
  ⟨tTest (tOp (Op1 Γ (compareOp op)) (WE Γ a) (WE Γ b)), fun X g => pt_cmpR (op1 g) (WE.pe g) (WE.pe g) hm, h.run F R H σ _ E w fun da e1 x F1 H1 h1 s1 E1 r1 => h1.run F1 R H1 σ _ E1 (w.mono s1) fun db e2 y F2 H2 h2 s2 E2 r2 => by
    obtain ⟨t, ho, hq⟩ := h2
    exact ho.run F2 R H2 σ e2 x y _ E2 (r1.mono s2) r2 fun r v F' H' qr s' E' z => by
      subst qr
      exact ⟨t, z, k t e2 F' H' hq ((s1.trans s2).trans s') E'⟩⟩
theorem ex_un {op : UnaryOp} (h : EV Γ a env fun da e1 => ∃ d, UnD Γ (unaryOp op) da d ∧ QX (.sh d) e1) : EX Γ (.UnaryOp op a pos) env QX := .mk fun F R H σ P E w k =>
  ⟨tUn (Un1 Γ (unaryOp op)) (WE Γ a), fun X g => pe_un (un1 g) (WE.pe g), h.run F R H σ _ E w fun da e1 x F1 H1 h1 s1 E1 r1 => by
    obtain ⟨d, hu, q⟩ := h1
    exact hu.run F1 R H1 σ e1 x P E1 r1 fun v r => k (.sh d) e1 v F1 H1 q s1 E1 r⟩
theorem ev_ix (h : EV Γ a env fun da e1 => EV Γ b e1 fun db e2 => ∃ d, IxD Γ da db d ∧ Q d e2) (hs : PlainIx b := by exact fun _ _ => rfl) : EV Γ (.Subscript a b pos) env Q := .mk fun F R H σ P E w k =>
  ⟨tOp (Ix1 Γ) (WE Γ a) (WE Γ b), fun X g => pe_ix (ix1 g) (WE.pe g) (WE.pe g) hs, h.run F R H σ _ E w fun da e1 x F1 H1 h1 s1 E1 r1 => h1.run F1 R H1 σ _ E1 (w.mono s1) fun db e2 y F2 H2 h2 s2 E2 r2 => by
    obtain ⟨d, ho, hq⟩ := h2
    exact ho.run F2 R H2 σ e2 x y P E2 (r1.mono s2) r2 fun v r => k d e2 v F2 H2 hq (s1.trans s2) E2 r⟩

/-! ### tests -/
abbrev PlainTest (e : Expr) : Prop := ∀ (env : Env) (whole : Sem Value), isTrue e env whole = (do let v ← whole; standAt e.pos; holding [v] (truthy v))
theorem et_val (h : EV Γ e env fun d e' => ∃ t, d = .bool t ∧ QB t e') (he : PlainTest e := by intro _ _; rfl) : ET Γ e env QB := .mk fun F R H σ P E w k =>
  ⟨tB (WE Γ e), fun X g => pt_val (WE.pe g) (he _), h.run F R H σ _ E w fun d e1 x F1 H1 h1 s1 E1 r1 => by
    obtain ⟨t, rfl, q⟩ := h1
    exact ⟨t, r1, k t e1 F1 H1 q s1 E1⟩⟩
theorem et_not (h : ET Γ a env fun t e' => QB (!t) e') : ET Γ (.UnaryOp .Not a pos) env QB := .mk fun F R H σ P E w k =>
  ⟨tNot (WT Γ a), fun X g => pt_not (WT.pt g), h.run F R H σ _ E w fun t e1 F1 H1 h1 s1 E1 => k _ e1 F1 H1 h1 s1 E1⟩
theorem et_w (h : EW Γ e env QB) : ET Γ e env QB := .mk fun F R H σ P E w k => ⟨WWh Γ e, fun X g => (WWh.pw g).pt, h.run F R H σ P E w k⟩
theorem ew_and1 (h : ET Γ a env QB) : EW Γ (.BoolOp .And [a] pos) env QB := .mk fun F R H σ P E w k => ⟨WT Γ a, fun X g => pw_and1 (WT.pt g), h.run F R H σ P E w k⟩
theorem ew_or1 (h : ET Γ a env QB) : EW Γ (.BoolOp .Or [a] pos) env QB := .mk fun F R H σ P E w k => ⟨WT Γ a, fun X g => pw_or1 (WT.pt g), h.run F R H σ P E w k⟩
theorem ew_and (h : ET Γ a env fun t e1 => if t = true then EW Γ (.BoolOp .And (b :: es) pos) e1 QB else QB false e1) : EW Γ (.BoolOp .And (a :: b :: es) pos) env QB := .mk fun F R H σ P E w k =>
  ⟨tAnd (WT Γ a) (WWh Γ (.BoolOp .And (b :: es) pos)), fun X g => pw_and (WT.pt g) (WWh.pw g), h.run F R H σ _ E w fun t e1 F1 H1 h1 s1 E1 => by
    cases t with
    | true => exact h1.run F1 R H1 σ P E1 (w.mono s1) fun t2 e2 F2 H2 h2 s2 E2 => k t2 e2 F2 H2 h2 (s1.trans s2) E2
    | false => exact k false e1 F1 H1 h1 s1 E1⟩
theorem ew_or (h : ET Γ a env fun t e1 => if t = true then QB true e1 else EW Γ (.BoolOp .Or (b :: es) pos) e1 QB) : EW Γ (.BoolOp .Or (a :: b :: es) pos) env QB := .mk fun F R H σ P E w k =>
  ⟨tOr (WT Γ a) (WWh Γ (.BoolOp .Or (b :: es) pos)), fun X g => pw_or (WT.pt g) (WWh.pw g), h.run F R H σ _ E w fun t e1 F1 H1 h1 s1 E1 => by
    cases t with
    | false => exact h1.run F1 R H1 σ P E1 (w.mono s1) fun t2 e2 F2 H2 h2 s2 E2 => k t2 e2 F2 H2 h2 (s1.trans s2) E2
    | true => exact k true e1 F1 H1 h1 s1 E1⟩
/-! ### and, or, not of bools as values; the conditional expression -/
theorem ev_one {op} (h : EV Γ a env Q) : EV Γ (.BoolOp op [a] pos) env Q := .mk fun F R H σ P E w k => ⟨WE Γ a, fun X g => pe_one (WE.pe g), h.run F R H σ P E w k⟩
theorem ev_and (h : EV Γ a env fun d e1 => ∃ t, d = .bool t ∧ if t = true then EV Γ (.BoolOp .And (b :: es) pos) e1 Q else Q (.bool false) e1) : EV Γ (.BoolOp .And (a :: b :: es) pos) env Q := .mk fun F R H σ P E w k =>
  ⟨tAndV (WE Γ a) (WE Γ (.BoolOp .And (b :: es) pos)), fun X g => pe_and (WE.pe g) (WE.pe g), h.run F R H σ _ E w fun d e1 x F1 H1 h1 s1 E1 r1 => by
    obtain ⟨t, rfl, h1⟩ := h1
    refine ⟨t, r1, ?_⟩
    cases t with
    | true => exact h1.run F1 R H1 σ P E1 (w.mono s1) fun d2 e2 v F2 H2 h2 s2 E2 r2 => k d2 e2 v F2 H2 h2 (s1.trans s2) E2 r2
    | false => exact k _ e1 _ F1 H1 h1 s1 E1 rfl⟩
theorem ev_or (h : EV Γ a env fun d e1 => ∃ t, d = .bool t ∧ if t = true then Q (.bool true) e1 else EV Γ (.BoolOp .Or (b :: es) pos) e1 Q) : EV Γ (.BoolOp .Or (a :: b :: es) pos) env Q := .mk fun F R H σ P E w k =>
  ⟨tOrV (WE Γ a) (WE Γ (.BoolOp .Or (b :: es) pos)), fun X g => pe_or (WE.pe g) (WE.pe g), h.run F R H σ _ E w fun d e1 x F1 H1 h1 s1 E1 r1 => by
    obtain ⟨t, rfl, h1⟩ := h1
    refine ⟨t, r1, ?_⟩
    cases t with
    | false => exact h1.run F1 R H1 σ P E1 (w.mono s1) fun d2 e2 v F2 H2 h2 s2 E2 r2 => k d2 e2 v F2 H2 h2 (s1.trans s2) E2 r2
    | true => exact k _ e1 _ F1 H1 h1 s1 E1 rfl⟩
theorem ev_not (h : EV Γ a env fun d e1 => ∃ t, d = .bool t ∧ Q (.bool (!t)) e1) : EV Γ (.UnaryOp .Not a pos) env Q := .mk fun F R H σ P E w k =>
  ⟨tNotV (WE Γ a), fun X g => pe_not (WE.pe g), h.run F R H σ _ E w fun d e1 x F1 H1 h1 s1 E1 r1 => by
    obtain ⟨t, rfl, q⟩ := h1
    exact ⟨t, r1, k _ e1 _ F1 H1 q s1 E1 rfl⟩⟩
theorem ex_ifExp (h : ET Γ c env fun t e1 => if t = true then EX Γ a e1 QX else EX Γ b e1 QX) : EX Γ (.IfExp c a b pos) env QX := .mk fun F R H σ P E w k =>
  ⟨tIf (WT Γ c) (WE Γ a) (WE Γ b), fun X g => pe_ifExp (WT.pt g) (WE.pe g) (WE.pe g), h.run F R H σ _ E w fun t e1 F1 H1 h1 s1 E1 => by
    cases t with
    | true => exact h1.run F1 R H1 σ P E1 (w.mono s1) fun r e2 v F2 H2 h2 s2 E2 z => k r e2 v F2 H2 h2 (s1.trans s2) E2 z
    | false => exact h1.run F1 R H1 σ P E1 (w.mono s1) fun r e2 v F2 H2 h2 s2 E2 z => k r e2 v F2 H2 h2 (s1.trans s2) E2 z⟩

/-! ### displays, arguments -/
theorem evs_nil {Qs : List PD → List Sl → Prop} (q : Qs [] env) : EVs Γ [] env Qs := .mk fun F R H σ P E w k => ⟨tNil, fun X g => pa_nil, k [] env [] F H q (Same.refl F) E rfl⟩
abbrev NoStar (e : Expr) (es : List Expr) : Prop := ∀ env : Env, starEach (e :: es) env = (false, eval e env) :: starEach es env
theorem evs_cons {Qs : List PD → List Sl → Prop} (h : EV Γ e env fun d e1 => EVs Γ es e1 fun ds e2 => Qs (d :: ds) e2) (hs : NoStar e es := by intro _; rfl) : EVs Γ (e :: es) env Qs := .mk fun F R H σ P E w k =>
  ⟨tCons (WE Γ e) (WA Γ es), fun X g => pa_cons (WE.pe g) (WA.pa g) (hs _), h.run F R H σ _ E w fun d e1 x F1 H1 h1 s1 E1 r1 => h1.run F1 R H1 σ _ E1 (w.mono s1) fun ds e2 vs F2 H2 h2 s2 E2 r2 =>
    k (d :: ds) e2 (x :: vs) F2 H2 h2 (s1.trans s2) E2 ⟨x, vs, rfl, r1.mono s2, r2⟩⟩
theorem ev_tup {x1} (h : EVs Γ es env fun ds e1 => ds.length ≤ 1000 ∧ Q (.tuple ds) e1) : EV Γ (.Tuple es x1 pos) env Q := .mk fun F R H σ P E w k =>
  ⟨tTup (WA Γ es), fun X g => pe_tup (WA.pa g), h.run F R H σ _ E w fun ds e1 vs F1 H1 h1 s1 E1 r1 => ⟨sz5 (by rw [r1.length]; omega), fun p hp => by
    obtain ⟨E2, s2⟩ := E1.newF hp (.tup vs)
    exact k _ e1 _ _ _ h1.2 (s1.trans s2) E2 ⟨p, vs, rfl, .inl (.inl upd_same), r1.mono s2⟩⟩⟩
theorem ex_lst (h : EVs Γ es env fun ds e1 => ds.length ≤ 1000 ∧ ∀ p, p ∉ owns e1 → QX (Sl.own p (.lst ds)) e1) : EX Γ (.List es pos) env QX := .mk fun F R H σ P E w k =>
  ⟨tLst (WA Γ es), fun X g => pe_lst (WA.pa g), h.run F R H σ _ E w fun ds e1 vs F1 H1 h1 s1 E1 r1 => ⟨sz5 (by rw [r1.length]; omega), fun p hp => by
    obtain ⟨f1, f2, f3⟩ := E1.fresh hp
    exact k _ e1 _ F1 _ (h1.2 p f3) s1 (E1.growU hp noTb_lst) ⟨rfl, f1, f2, f3, _, upd_same, vs, rfl, r1⟩⟩⟩

/-! ### built-in functions, types, methods -/
abbrev NoStarAny (es : List Expr) (pos : Pos) : Prop := ∀ env : Env, (backTo pos (starEach es env)).any (·.1) = false
theorem ex_callB {x : Str} {id : String} {p : Pos} (h : EVs Γ (e :: es) env fun ds e1 => ∃ Qr, CallD Γ (.builtin id) ds Qr ∧ ∀ r, Qr r → (∀ p o, r = Sl.own p o → p ∉ owns e1) → QX r e1)
    (hg : Γ.sc.names.lookup x = some .globalImplicit) (hm : Γ.mg x = none) (hv : bootBuiltins x = some (.builtin id)) (hn : x ≠ "__name__" := by decide +kernel) (hdb : (x == ("__debug__" : Str)) = false := by decide +kernel)
    (he : NoStar e es := by intro _; rfl) (hpl : NoStarAny es pos := by intro _; rfl) : EX Γ (.Call (.Name x p) (e :: es) [] pos) env QX := .mk fun F R H σ P E w k =>
  ⟨tCB (Call1 Γ (.builtin id)) (WA Γ (e :: es)), fun X g => pe_callB (call1 g) (by unfold Gl Env.kindOf; rw [g.sc]; exact hg) (by rw [g.mg]; exact hm) hv (WA.pa g) hn hdb (he _) (hpl _), h.run F R H σ _ E w fun ds e1 vs F1 H1 h1 s1 E1 r1 => by
    obtain ⟨Qr, hc, hq⟩ := h1
    exact hc.run F1 R H1 σ e1 vs P E1 r1 fun r v F2 H2 qr s2 E2 z => k r e1 v F2 H2 (hq r qr fun p o e => by subst e; exact z.2.2.2.1) (s1.trans s2) E2 z⟩
theorem ex_callTy {x : Str} {T : String} {p : Pos} (h : EVs Γ (e :: es) env fun ds e1 => ∃ Qr, CallD Γ (.type T) ds Qr ∧ ∀ r, Qr r → (∀ p o, r = Sl.own p o → p ∉ owns e1) → QX r e1)
    (hg : Γ.sc.names.lookup x = some .globalImplicit) (hm : Γ.mg x = none) (hv : bootBuiltins x = some (.type T)) (hn : x ≠ "__name__" := by decide +kernel) (hdb : (x == ("__debug__" : Str)) = false := by decide +kernel)
    (he : NoStar e es := by intro _; rfl) (hpl : NoStarAny es pos := by intro _; rfl) : EX Γ (.Call (.Name x p) (e :: es) [] pos) env QX := .mk fun F R H σ P E w k =>
  ⟨tCB (Call1 Γ (.type T)) (WA Γ (e :: es)), fun X g => pe_callTy (call1 g) (by unfold Gl Env.kindOf; rw [g.sc]; exact hg) (by rw [g.mg]; exact hm) hv (WA.pa g) hn hdb (he _) (hpl _), h.run F R H σ _ E w fun ds e1 vs F1 H1 h1 s1 E1 r1 => by
    obtain ⟨Qr, hc, hq⟩ := h1
    exact hc.run F1 R H1 σ e1 vs P E1 r1 fun r v F2 H2 qr s2 E2 z => k r e1 v F2 H2 (hq r qr fun p o e => by subst e; exact z.2.2.2.1) (s1.trans s2) E2 z⟩
end Dw

/-! Dw4: what a def promises of data; calls; statements. -/
namespace Dw
open PySem PySem.Spec PyProof.Rows L2
variable {Tb : List (Addr × Str)}

abbrev ED := Addr → List (Str × PD) → List Sl → Prop
abbrev TD := List Sl → (RS → List Sl → Prop) → ED → Prop
def SpD (K : PySem.W.Frag) (Tb : List (Addr × Str)) (T : TD) : Sp := fun vs H Q E => ∃ (F R : Hp) (as : List Sl) (Qd : RS → List Sl → Prop) (Ed : ED), EnvOk K Tb F R H (vs.map some) as ∧ T as Qd Ed ∧
  (∀ (r : RS) (as' : List Sl) (v : V) (F' H' : Hp), Qd r as' → Same F F' → EnvOk K Tb F' R H' (vs.map some) as' → ResOk K F' R H' as' v r → Q v H') ∧
  ∀ (C : Addr) (ds : List (Str × PD)) (as' : List Sl) (da : Addr) (F' H' : Hp), Ed C ds as' → Same F F' → EnvOk K Tb F' R H' (vs.map some) as' → ExcOk K F' H' C ds da → F' da = none → R da = none → da ∉ owns as' → E (.ref C) (some da) H'

/-! ### arguments -/
inductive Arg where
  | sh (d : PD)
  | raw (v : V)
  | lend (i : Nat) (p : Addr) (o : OD)
def Arg.sl : Arg → Sl
  | .sh d => .sh d
  | .raw v => .raw v
  | .lend _ p o => Sl.own p o
def ArgOk (K : PySem.W.Frag) (F : Hp) (env : List Sl) (v : V) : Arg → Prop
  | .sh d => Rep K F d v
  | .raw w => v = w
  | .lend i p o => v = .ref p ∧ env[i]? = some (Sl.own p o)
def ArgsOk (K : PySem.W.Frag) (F : Hp) (env : List Sl) : List V → List Arg → Prop
  | vs, [] => vs = []
  | vs, a :: as => ∃ v r, vs = v :: r ∧ ArgOk K F env v a ∧ ArgsOk K F env r as
def lends : List Arg → List Nat
  | [] => []
  | .lend i _ _ :: as => i :: lends as
  | _ :: as => lends as
structure EAs (Γ : Gm) (es : List Expr) (env : List Sl) (Q : List Arg → List Sl → Prop) : Prop where
  run : ∀ (F R H : Hp) (σ : L2.St) (P : List V → Hp → Prop), EnvOk Γ.K Γ.Tb F R H σ env → WOk Γ F R → (∀ (as : List Arg) (env' : List Sl) (vs : List V) (F' H' : Hp), Q as env' → Same F F' → EnvOk Γ.K Γ.Tb F' R H' σ env' → ArgsOk Γ.K F' env' vs as → P vs H') → WA Γ es σ H P
/-- the lent objects come back -/
def putBack : List Sl → List Arg → List Sl → List Sl
  | env, .lend i _ _ :: as, s :: ss => putBack (env.set i s) as ss
  | env, _ :: as, _ :: ss => putBack env as ss
  | env, _, _ => env

section
variable {Γ : Gm} {env : List Sl} {Q : List Arg → List Sl → Prop} {e : Expr} {es : List Expr}
theorem eas_nil (q : Q [] env) : EAs Γ [] env Q := .mk fun F R H σ P E w k => ⟨tNil, fun X g => pa_nil, k [] env [] F H q (Same.refl F) E rfl⟩
theorem eas_sh (h : EV Γ e env fun d e1 => EAs Γ es e1 fun ds e2 => Q (.sh d :: ds) e2) (hs : NoStar e es := by intro _; rfl) : EAs Γ (e :: es) env Q := .mk fun F R H σ P E w k =>
  ⟨tCons (WE Γ e) (WA Γ es), fun X g => pa_cons (WE.pe g) (WA.pa g) (hs _), h.run F R H σ _ E w fun d e1 x F1 H1 h1 s1 E1 r1 => h1.run F1 R H1 σ _ E1 (w.mono s1) fun ds e2 vs F2 H2 h2 s2 E2 r2 =>
    k (.sh d :: ds) e2 (x :: vs) F2 H2 h2 (s1.trans s2) E2 ⟨x, vs, rfl, r1.mono s2, r2⟩⟩
theorem eas_lend {i : Nat} {x : Str} {p : Addr} {o : OD} {pos : Pos} (h : env[i]? = some (Sl.own p o)) (hq : EAs Γ es env fun ds e2 => e2[i]? = some (Sl.own p o) ∧ Q (.lend i p o :: ds) e2) (hN : Γ.N[i]? = some x) (hv : Vis Γ.sc x)
    (hd : (x == ("__debug__" : Str)) = false := by decide +kernel) (hcd : (x == ("__classdict__" : Str)) = false := by decide +kernel) (hs : NoStar (.Name x pos) es := by intro _; rfl) : EAs Γ (.Name x pos :: es) env Q := .mk fun F R H σ P E w k => by
  obtain ⟨h1, h2, h3, u, h4, h5⟩ := E.getOwn h
  exact ⟨tCons (tVar i) (WA Γ es), fun X g => pa_cons (pe_var (by rw [g.N]; exact hN) (by rw [g.sc]; exact hv) hd hcd) (WA.pa g) (hs _), _, h1, hq.run F R H σ _ E w fun ds e2 vs F2 H2 q2 s2 E2 r2 =>
    k _ e2 _ F2 H2 q2.2 s2 E2 ⟨_, vs, rfl, ⟨rfl, q2.1⟩, r2⟩⟩
theorem eas_raw {i : Nat} {x : Str} {rv : V} {pos : Pos} (h : env[i]? = some (.raw rv)) (hq : EAs Γ es env fun ds e2 => Q (.raw rv :: ds) e2) (hN : Γ.N[i]? = some x) (hv : Vis Γ.sc x)
    (hd : (x == ("__debug__" : Str)) = false := by decide +kernel) (hcd : (x == ("__classdict__" : Str)) = false := by decide +kernel) (hs : NoStar (.Name x pos) es := by intro _; rfl) : EAs Γ (.Name x pos :: es) env Q := .mk fun F R H σ P E w k =>
  ⟨tCons (tVar i) (WA Γ es), fun X g => pa_cons (pe_var (by rw [g.N]; exact hN) (by rw [g.sc]; exact hv) hd hcd) (WA.pa g) (hs _), rv, E.getRaw h, hq.run F R H σ _ E w fun ds e2 vs F2 H2 q2 s2 E2 r2 =>
    k _ e2 _ F2 H2 q2 s2 E2 ⟨_, vs, rfl, rfl, r2⟩⟩
end

theorem ArgsOk.length {K : PySem.W.Frag} {F : Hp} {env : List Sl} : ∀ {vs : List V} {as : List Arg}, ArgsOk K F env vs as → vs.length = as.length
  | _, [], h => by rw [show _ = [] from h]; rfl
  | _, _ :: _, ⟨v, r, e, _, h⟩ => by rw [e, List.length_cons, List.length_cons, ArgsOk.length h]
theorem ArgsOk.get {K : PySem.W.Frag} {F : Hp} {env : List Sl} : ∀ {vs : List V} {as : List Arg} {i : Nat} {v : V} {a : Arg}, ArgsOk K F env vs as → vs[i]? = some v → as[i]? = some a → ArgOk K F env v a
  | _, [], _, _, _, _, _, e => by simp at e
  | _, _ :: _, 0, _, _, ⟨v, r, e, h1, _⟩, e1, e2 => by subst e; simp at e1 e2; subst e1; subst e2; exact h1
  | _, _ :: _, i + 1, _, _, ⟨v, r, e, _, h⟩, e1, e2 => by subst e; exact ArgsOk.get h (by simpa using e1) (by simpa using e2)
theorem lends_mem : ∀ {as : List Arg} {i : Nat}, i ∈ lends as ↔ ∃ (j : Nat) (p : Addr) (o : OD), as[j]? = some (Arg.lend i p o)
  | [], i => by simp [lends]
  | .sh d :: as, i => by
    rw [show lends (.sh d :: as) = lends as from rfl, lends_mem (as := as)]
    constructor
    · rintro ⟨j, p, o, h⟩; exact ⟨j + 1, p, o, by simpa using h⟩
    · rintro ⟨j, p, o, h⟩
      cases j with
      | zero => simp at h
      | succ j => exact ⟨j, p, o, by simpa using h⟩
  | .raw d :: as, i => by
    rw [show lends (.raw d :: as) = lends as from rfl, lends_mem (as := as)]
    constructor
    · rintro ⟨j, p, o, h⟩; exact ⟨j + 1, p, o, by simpa using h⟩
    · rintro ⟨j, p, o, h⟩
      cases j with
      | zero => simp at h
      | succ j => exact ⟨j, p, o, by simpa using h⟩
  | .lend k q u :: as, i => by
    rw [show lends (.lend k q u :: as) = k :: lends as from rfl, List.mem_cons, lends_mem (as := as)]
    constructor
    · rintro (rfl | ⟨j, p, o, h⟩)
      · exact ⟨0, q, u, rfl⟩
      · exact ⟨j + 1, p, o, by simpa using h⟩
    · rintro ⟨j, p, o, h⟩
      cases j with
      | zero => simp at h; exact .inl h.1.symm
      | succ j => exact .inr ⟨j, p, o, by simpa using h⟩
/-- the callee's frame: what is lent is its own, what else is one's own is round about -/
def isTb : Option HO → Bool
  | some (.tbl _) => true
  | _ => false
theorem isTb_of {o : Option HO} (h : isTb o = true) : ∃ ps, o = some (.tbl ps) := by
  unfold isTb at h
  split at h
  · exact ⟨_, rfl⟩
  · cases h
theorem notTb_of {u : HO} (h : NoTb u) : isTb (some u) = false := by
  unfold isTb
  split
  · rename_i ps e
    exact absurd (Option.some.inj e) (h ps)
  · rfl
def calleeR (F H : Hp) (ps : List Addr) : Hp := fun b => if F b = none ∧ b ∉ ps ∧ isTb (H b) = false then H b else none
def lentAt (as : List Arg) : List Addr := owns (as.map Arg.sl)
section
variable {K : PySem.W.Frag} {F R H F' H' : Hp} {σ : L2.St} {env : List Sl} {vs : List V} {as : List Arg} {as' : List Sl}
theorem lent_mem {p : Addr} : p ∈ lentAt as ↔ ∃ (j i : Nat) (o : OD), as[j]? = some (Arg.lend i p o) := by
  unfold lentAt
  rw [owns_mem]
  constructor
  · rintro ⟨j, o, h⟩
    rw [List.getElem?_map] at h
    cases ha : as[j]? with
    | none => rw [ha] at h; simp at h
    | some a =>
      rw [ha] at h
      cases a with
      | sh d => simp [Arg.sl] at h
      | raw d => simp [Arg.sl] at h
      | lend i q u =>
        have e : q = p ∧ u = o := by simpa [Arg.sl] using h
        exact ⟨j, i, u, by rw [ha, e.1]⟩
  · rintro ⟨j, i, o, h⟩
    exact ⟨j, o, by rw [List.getElem?_map, h]; rfl⟩
theorem lent_nodup (E : EnvOk K Tb F R H σ env) : ∀ {vs : List V} {as : List Arg}, ArgsOk K F env vs as → (lends as).Nodup → (lentAt as).Nodup
  | _, [], _, _ => by simp [lentAt, owns]
  | _, .sh d :: as, ⟨_, r, _, _, h⟩, nd => by
    show (owns (Arg.sl (.sh d) :: as.map Arg.sl)).Nodup
    exact lent_nodup E h nd
  | _, .raw d :: as, ⟨_, r, _, _, h⟩, nd => lent_nodup E (as := as) h nd
  | _, .lend i p o :: as, ⟨_, r, _, ⟨_, hp⟩, h⟩, nd => by
    have nd' : (i :: lends as).Nodup := nd
    show (p :: lentAt as).Nodup
    refine List.nodup_cons.mpr ⟨fun z => ?_, lent_nodup E h (List.nodup_cons.mp nd').2⟩
    obtain ⟨j, i2, o2, hj⟩ := lent_mem.mp z
    have hj' : j < r.length := by
      rw [h.length]
      exact (List.getElem?_eq_some_iff.mp hj).1
    obtain ⟨_, h2⟩ := h.get (List.getElem?_eq_getElem hj') hj
    have e := own_uniq hp h2 E.nd
    subst e
    exact (List.nodup_cons.mp nd').1 (lends_mem.mpr ⟨j, p, o2, hj⟩)
theorem EnvOk.ntR (E : EnvOk K Tb F R H σ env) {b : Addr} {o : HO} (e : R b = some o) : isTb (H b) = false := by
  rw [E.exR b o e]
  refine notTb_of fun ps z => ?_
  subst z
  rw [(E.nt b ps (E.exR b _ e)).2] at e
  cases e
theorem EnvOk.callee (E : EnvOk K Tb F R H σ env) (h : ArgsOk K F env vs as) (nd : (lends as).Nodup) : EnvOk K Tb F (calleeR F H (lentAt as)) H (vs.map some) (as.map Arg.sl) where
  tb := E.tb
  nt := fun b ps e => ⟨(E.nt b ps e).1, by
    unfold calleeR
    rw [if_neg (fun z => by rw [e] at z; exact absurd z.2.2 (by simp [isTb]))]⟩
  exF := E.exF
  exR := fun b o e => by
    unfold calleeR at e
    split at e
    · exact e
    · cases e
  dis := fun b o e => by
    unfold calleeR
    rw [if_neg (fun z => by rw [z.1] at e; cases e)]
  len := by rw [List.length_map, List.length_map, h.length]
  nd := lent_nodup E h nd
  slot := fun i v s e1 e2 => by
    rw [List.getElem?_map] at e1 e2
    cases hv : vs[i]? with
    | none => rw [hv] at e1; simp at e1
    | some w =>
      cases ha : as[i]? with
      | none => rw [ha] at e2; simp at e2
      | some a =>
        rw [hv] at e1; rw [ha] at e2
        have e1' : v = some w := by simpa using e1.symm
        have e2' : s = a.sl := by simpa using e2.symm
        subst e1'; subst e2'
        have q := h.get hv ha
        cases a with
        | sh d => exact q
        | raw d => exact q
        | lend j p o =>
          obtain ⟨rfl, hp⟩ := q
          obtain ⟨_, f1, f2, u, f3, f4⟩ := E.getOwn hp
          refine ⟨rfl, f1, ?_, u, f3, f4⟩
          unfold calleeR
          rw [if_neg (fun z => z.2.1 (lent_mem.mpr ⟨i, j, o, ha⟩))]
/-- behind the call -/
theorem putBack_len : ∀ {as : List Arg} {env : List Sl} {ss : List Sl}, (putBack env as ss).length = env.length
  | [], env, ss => by cases ss <;> rfl
  | .lend i p o :: as, env, [] => rfl
  | .lend i p o :: as, env, s :: ss => by
    show (putBack (env.set i s) as ss).length = _
    rw [putBack_len, List.length_set]
  | .sh d :: as, env, [] => rfl
  | .sh d :: as, env, s :: ss => putBack_len (as := as)
  | .raw d :: as, env, [] => rfl
  | .raw d :: as, env, s :: ss => putBack_len (as := as)
/-- what comes back stands where it was lent from, under its address -/
def Back : List Arg → List Sl → Prop
  | [], ss => ss = []
  | a :: as, ss => ∃ s r, ss = s :: r ∧ (∀ (i : Nat) (p : Addr) (o : OD), a = Arg.lend i p o → ∃ o' : OD, s = Sl.own p o') ∧ Back as r
theorem EnvOk.returned (E : EnvOk K Tb F R H σ env) (h : ArgsOk K F env vs as) (nd : (lends as).Nodup) (sF : Same F F') (E' : EnvOk K Tb F' (calleeR F H (lentAt as)) H' (vs.map some) as') (hb : Back as as') :
    EnvOk K Tb F' R H' σ (putBack env as as') := by
  -- the frame without the lent objects first
  have keepR : Same R H' := fun b o e => by
    have h1 : F b = none := by
      cases hF : F b with
      | none => rfl
      | some u => rw [E.dis b u hF] at e; cases e
    have h2 : b ∉ lentAt as := fun z => by
      obtain ⟨j, i, o2, hj⟩ := lent_mem.mp z
      have hj' : j < vs.length := by
        rw [h.length]
        exact (List.getElem?_eq_some_iff.mp hj).1
      obtain ⟨_, hp⟩ := h.get (List.getElem?_eq_getElem hj') hj
      rw [(E.getOwn hp).2.2.1] at e
      cases e
    refine E'.exR b o ?_
    unfold calleeR
    rw [if_pos ⟨h1, h2, E.ntR e⟩]
    exact E.exR b o e
  have disR : ∀ b o, F' b = some o → R b = none := fun b o e => by
    cases hR : R b with
    | none => rfl
    | some u =>
      have h1 := E'.dis b o e
      unfold calleeR at h1
      have hFb : F b = none := by
        cases hF : F b with
        | none => rfl
        | some w => rw [E.dis b w hF] at hR; cases hR
      have hlb : b ∉ lentAt as := fun z => by
        obtain ⟨j, i, o2, hj⟩ := lent_mem.mp z
        have hj' : j < vs.length := by
          rw [h.length]
          exact (List.getElem?_eq_some_iff.mp hj).1
        obtain ⟨_, hp⟩ := h.get (List.getElem?_eq_getElem hj') hj
        rw [(E.getOwn hp).2.2.1] at hR
        cases hR
      rw [if_pos ⟨hFb, hlb, E.ntR hR⟩, E.exR b u hR] at h1
      cases h1
  have other : ∀ {i : Nat} {p : Addr} {o : OD}, env[i]? = some (Sl.own p o) → p ∉ lentAt as → F' p = none ∧ H' p = H p := fun {i p o} hp hn => by
    obtain ⟨_, f1, f2, u, f3, f4⟩ := E.getOwn hp
    have hc : calleeR F H (lentAt as) p = some u := by
      unfold calleeR
      rw [if_pos ⟨f1, hn, by rw [f3]; exact notTb_of f4.kind.1⟩]
      exact f3
    refine ⟨?_, by rw [E'.exR p u hc, f3]⟩
    cases hF : F' p with
    | none => rfl
    | some w => rw [E'.dis p w hF] at hc; cases hc
  -- induction over what comes back: slots not lent stay
  have key : ∀ (bs : List Arg) (us : List V) (ss : List Sl) (env0 : List Sl), ArgsOk K F env us bs → Back bs ss → (∀ (j : Nat) (a : Arg) (v : V) (s : Sl), bs[j]? = some a → us[j]? = some v → ss[j]? = some s → SlotOk K F' R H' (some v) s) → (lends bs).Nodup →
      env0.length = env.length → (∀ i : Nat, i ∈ lends bs → env0[i]? = env[i]?) → (owns env0).Nodup → (∀ (i : Nat) (v : Option V) (s : Sl), σ[i]? = some v → env0[i]? = some s → i ∉ lends bs → SlotOk K F' R H' v s) →
      (owns (putBack env0 bs ss)).Nodup ∧ ∀ (i : Nat) (v : Option V) (s : Sl), σ[i]? = some v → (putBack env0 bs ss)[i]? = some s → SlotOk K F' R H' v s := by
    intro bs
    induction bs with
    | nil =>
      intro us ss env0 _ hb _ _ _ _ n1 n2
      cases hb
      exact ⟨n1, fun i v s e1 e2 => n2 i v s e1 e2 (by simp [lends])⟩
    | cons a bs ih =>
      intro us ss env0 ha hb hs nd' hl he n1 n2
      obtain ⟨v0, r, rfl, ha0, har⟩ := ha
      obtain ⟨s0, rs, rfl, hb0, hbr⟩ := hb
      have hs' : ∀ (j : Nat) (a : Arg) (v : V) (s : Sl), bs[j]? = some a → r[j]? = some v → rs[j]? = some s → SlotOk K F' R H' (some v) s := fun j a v s e1 e2 e3 => hs (j + 1) a v s (by simpa using e1) (by simpa using e2) (by simpa using e3)
      cases a with
      | sh d => exact ih r rs env0 har hbr hs' nd' hl he n1 n2
      | raw d => exact ih r rs env0 har hbr hs' nd' hl he n1 n2
      | lend i p o =>
        obtain ⟨o', rfl⟩ := hb0 i p o rfl
        have nd2 : (i :: lends bs).Nodup := nd'
        obtain ⟨hv0, hp⟩ := ha0
        have hp0 : env0[i]? = some (Sl.own p o) := by rw [he i List.mem_cons_self]; exact hp
        refine ih r rs (env0.set i (Sl.own p o')) har hbr hs' (List.nodup_cons.mp nd2).2 (by rw [List.length_set]; exact hl) (fun j hj => ?_) (by rw [owns_set_own hp0]; exact n1) (fun j v s e1 e2 hj => ?_)
        · have hij : i ≠ j := fun z => by subst z; exact (List.nodup_cons.mp nd2).1 hj
          rw [List.getElem?_set_ne hij]
          exact he j (List.mem_cons_of_mem _ hj)
        · by_cases hij : i = j
          · subst hij
            have hi : i < env0.length := (List.getElem?_eq_some_iff.mp hp0).1
            rw [List.getElem?_set_self hi] at e2
            cases e2
            have hσ := (E.getOwn hp).1
            rw [hσ] at e1
            cases e1
            have q := hs 0 _ v0 _ rfl rfl rfl
            rw [hv0] at q
            exact q
          · rw [List.getElem?_set_ne hij] at e2
            exact n2 j v s e1 e2 (fun z => by
              rcases List.mem_cons.mp z with z | z
              · exact hij z.symm
              · exact hj z)
  have slots' : ∀ (j : Nat) (a : Arg) (v : V) (s : Sl), as[j]? = some a → vs[j]? = some v → as'[j]? = some s → SlotOk K F' R H' (some v) s := fun j a v s e1 e2 e3 => by
    have q := E'.slot j (some v) s (by rw [List.getElem?_map, e2]; rfl) e3
    cases s with
    | no => trivial
    | sh d => exact q
    | raw w => exact q
    | own p o =>
      obtain ⟨z1, z2, z3, u, z4, z5⟩ := q
      refine ⟨z1, z2, ?_, u, z4, z5⟩
      cases hR : R p with
      | none => rfl
      | some w =>
        -- p is lent or new: R has neither
        have hc : calleeR F H (lentAt as) p = none := z3
        unfold calleeR at hc
        have hFb : F p = none := by
          cases hF : F p with
          | none => rfl
          | some w2 => rw [E.dis p w2 hF] at hR; cases hR
        by_cases hl : p ∈ lentAt as
        · obtain ⟨j2, i2, o2, hj2⟩ := lent_mem.mp hl
          have hj' : j2 < vs.length := by
            rw [h.length]
            exact (List.getElem?_eq_some_iff.mp hj2).1
          obtain ⟨_, hp⟩ := h.get (List.getElem?_eq_getElem hj') hj2
          rw [(E.getOwn hp).2.2.1] at hR
          cases hR
        · rw [if_pos ⟨hFb, hl, E.ntR hR⟩, E.exR p w hR] at hc
          cases hc
  obtain ⟨k1, k2⟩ := key as vs as' env h hb slots' nd rfl (fun _ _ => rfl) E.nd (fun i v s e1 e2 hi => by
    refine SlotOk.grow sF (E.slot i v s e1 e2) fun p o e => ?_
    subst e
    refine other e2 fun z => ?_
    obtain ⟨j, i2, o2, hj⟩ := lent_mem.mp z
    have hj' : j < vs.length := by
      rw [h.length]
      exact (List.getElem?_eq_some_iff.mp hj).1
    obtain ⟨_, hp⟩ := h.get (List.getElem?_eq_getElem hj') hj
    have := own_uniq e2 hp E.nd
    subst this
    exact hi (lends_mem.mpr ⟨j, p, o2, hj⟩))
  exact ⟨E'.exF, keepR, disR, by rw [putBack_len]; exact E.len, k2, k1, E'.tb, fun b ps e => ⟨(E'.nt b ps e).1, by
    cases hR : R b with
    | none => rfl
    | some w =>
      rw [keepR b w hR] at e
      rw [Option.some.inj e] at hR
      rw [(E.nt b ps (E.exR b _ hR)).2] at hR
      cases hR⟩⟩
end
end Dw

/-! Dw5: calls of defs, a def's body, statements. -/
namespace Dw
open PySem PySem.Spec PyProof.Rows L2
variable {Tb : List (Addr × Str)}
variable {Γ : Gm} {env : List Sl} {QX : RS → List Sl → Prop} {D : EndsD} {a b c e : Expr} {es : List Expr} {st : Stmt} {sts : List Stmt} {pos : Pos}

theorem owns_putBack : ∀ {as : List Arg} {ss : List Sl} {env : List Sl} {p : Addr}, p ∈ owns (putBack env as ss) → p ∈ owns env ∨ p ∈ owns ss
  | [], ss, env, p, h => by
    cases ss <;> exact .inl h
  | .lend i q o :: as, [], env, p, h => .inl h
  | .sh d :: as, [], env, p, h => .inl h
  | .raw d :: as, [], env, p, h => .inl h
  | .sh d :: as, s :: ss, env, p, h => by
    rcases owns_putBack (as := as) (ss := ss) h with h | h
    · exact .inl h
    · refine .inr ?_
      obtain ⟨i, o, hi⟩ := owns_mem.mp h
      exact owns_mem.mpr ⟨i + 1, o, by simpa using hi⟩
  | .raw d :: as, s :: ss, env, p, h => by
    rcases owns_putBack (as := as) (ss := ss) h with h | h
    · exact .inl h
    · refine .inr ?_
      obtain ⟨i, o, hi⟩ := owns_mem.mp h
      exact owns_mem.mpr ⟨i + 1, o, by simpa using hi⟩
  | .lend i q o :: as, s :: ss, env, p, h => by
    rcases owns_putBack (as := as) (ss := ss) (env := env.set i s) h with h | h
    · obtain ⟨j, o2, hj⟩ := owns_mem.mp h
      by_cases hij : i = j
      · subst hij
        have hi : i < env.length := by
          have := (List.getElem?_eq_some_iff.mp hj).1
          simpa using this
        rw [List.getElem?_set_self hi] at hj
        cases hj
        exact .inr (owns_mem.mpr ⟨0, o2, rfl⟩)
      · rw [List.getElem?_set_ne hij] at hj
        exact .inl (owns_mem.mpr ⟨j, o2, hj⟩)
    · refine .inr ?_
      obtain ⟨i, o, hi⟩ := owns_mem.mp h
      exact owns_mem.mpr ⟨i + 1, o, by simpa using hi⟩

/-- the callee's fresh object is not the caller's -/
theorem fresh_back {K : PySem.W.Frag} {F R H : Hp} {σ : L2.St} {as : List Arg} {as' : List Sl} {vs : List V} {p : Addr} (E : EnvOk K Tb F R H σ env) (h : ArgsOk K F env vs as)
    (hc : calleeR F H (lentAt as) p = none) (hp : p ∉ owns as') (hl : ∀ q, q ∈ lentAt as → q ∈ owns as') : R p = none ∧ p ∉ owns (putBack env as as') := by
  have nl : p ∉ lentAt as := fun z => hp (hl p z)
  have key : ∀ o, H p = some o → isTb (H p) = false → F p = none → False := fun o h1 h3 h2 => by
    unfold calleeR at hc
    rw [if_pos ⟨h2, nl, h3⟩, h1] at hc
    cases hc
  refine ⟨?_, fun z => ?_⟩
  · cases hR : R p with
    | none => rfl
    | some o =>
      refine (key o (E.exR p o hR) (E.ntR hR) ?_).elim
      cases hF : F p with
      | none => rfl
      | some u => rw [E.dis p u hF] at hR; cases hR
  · rcases owns_putBack z with z | z
    · obtain ⟨i, ob, hi⟩ := owns_mem.mp z
      obtain ⟨_, f1, _, u, f2, f3⟩ := E.getOwn hi
      exact key u f2 (by rw [f2]; exact notTb_of f3.kind.1) f1
    · exact hp z
theorem back_lent : ∀ {as : List Arg} {ss : List Sl} {vs : List V} {K : PySem.W.Frag} {F R H : Hp}, EnvOk K Tb F R H (vs.map some) ss → (∀ (i : Nat) (v : V) (a : Arg), vs[i]? = some v → as[i]? = some a → ∀ j q o, a = Arg.lend j q o → v = .ref q) → Back as ss → vs.length = as.length → ∀ q, q ∈ lentAt as → q ∈ owns ss := by
  intro as ss vs K F R H E hv hb hl q hq
  obtain ⟨j, i, o, hj⟩ := lent_mem.mp hq
  have : ∀ {as : List Arg} {ss : List Sl} {j : Nat} {i : Nat} {q : Addr} {o : OD}, Back as ss → as[j]? = some (Arg.lend i q o) → ∃ p o', ss[j]? = some (Sl.own p o') := by
    intro as
    induction as with
    | nil => intro ss j i q o _ e; simp at e
    | cons a as ih =>
      intro ss j i q o hb e
      obtain ⟨s, r, rfl, h0, h1⟩ := hb
      cases j with
      | zero =>
        have e' : a = Arg.lend i q o := by simpa using e
        obtain ⟨o', ho⟩ := h0 i q o e'
        exact ⟨q, o', by rw [ho]; rfl⟩
      | succ j =>
        obtain ⟨p, o', h⟩ := ih h1 (by simpa using e)
        exact ⟨p, o', by simpa using h⟩
  obtain ⟨p, o', hs⟩ := this hb hj
  have hjv : j < vs.length := by rw [hl]; exact (List.getElem?_eq_some_iff.mp hj).1
  have e1 := hv j vs[j] _ (List.getElem?_eq_getElem hjv) hj i q o rfl
  obtain ⟨h1, _⟩ := E.getOwn hs
  rw [List.getElem?_map, List.getElem?_eq_getElem hjv] at h1
  have e2 : vs[j] = V.ref p := by simpa using h1
  rw [e1] at e2
  have e3 : q = p := by injection e2
  rw [e3]
  exact owns_mem.mpr ⟨j, o', hs⟩

/-- a def of the program keeps its promise wherever nothing is being shown -/
structure FnG (G : Pg) (k : Nat) (f : Addr) (fd : FuncData) (ps : List Str) (sp : Sp) : Prop where
  len : ∀ vs H Q E, sp vs H Q E → vs.length = ps.length
  run : ∀ (A : Around) (outer : List Env) (s : Shared) (H : Hp) (args : Args) (us : List Value) (vs : List V) (Q : VK) (E : XK), Room k A → (G.gd = true → A.guards = some []) → Env0 G.P G.w G.K G.mg G.base A outer s H → BindsTo s fd args (ps.zip us) → Vals vs us → sp vs H Q E →
    codeAny (model G.P G.w) A (.call (.ref f) args) (CR (L2.CX G.P G.w) outer G.P G.w H s Q E) s
theorem FnG.mono {G : Pg} {j k : Nat} {f : Addr} {fd : FuncData} {ps : List Str} {sp : Sp} (F : FnG G j f fd ps sp) (h : j ≤ k) : FnG G k f fd ps sp := ⟨F.len, fun A outer s H args us vs Q E hr => F.run A outer s H args us vs Q E (hr.mono h)⟩
theorem FnG.imp {G : Pg} {k : Nat} {f : Addr} {fd : FuncData} {ps : List Str} {sp sp' : Sp} (F : FnG G k f fd ps sp) (h : ∀ vs H Q E, sp' vs H Q E → sp vs H Q E) : FnG G k f fd ps sp' :=
  ⟨fun vs H Q E q => F.len vs H Q E (h _ _ _ _ q), fun A outer s H args us vs Q E hr hg he hb hv hs => F.run A outer s H args us vs Q E hr hg he hb hv (h _ _ _ _ hs)⟩
section
variable {X : Cx} {k : Nat} {f : Addr} {fd : FuncData} {ps : List Str} {sp : Sp} {E : L2.St → XK} {x : Str} {p : Pos} {t : TA} {G : Pg}
structure At (G : Pg) (X : Cx) : Prop where
  P : X.prog = G.P
  w : X.w = G.w
  K : X.K = G.K
  mg : X.mg = G.mg
  base : X.base = G.base
  gd : G.gd = true → X.A.guards = some []
theorem Good.at (g : Good Γ X) : At Γ.G X := ⟨g.P, g.w, g.K, g.mg, g.base, g.gd⟩
theorem run_fnG {pins : List (Addr × Obj)} {σ : L2.St} {H : Hp} {s : Shared} {Q : VK} {us : List Value} {vs : List V} (c : At G X) (F : FnG G k f fd ps sp) (hr : Room k X.A) (hb : Binds X.K fd ps []) (hx : PassesAt (L2.CX X.prog X.w) X σ (E σ))
    (I : Inv X pins σ H s) (r : Vals vs us) (h : sp vs H Q (E σ)) : wpAny (model X.prog X.w) X.A (call (.ref f) us) (EP X pins σ Q) X.xe s := by
  have hl : us.length = ps.length := by rw [← r.length]; exact F.len _ _ _ _ h
  have b := hb s us I.kIn (by rw [List.append_nil]; exact hl)
  rw [List.append_nil] at b
  have e0 := I.env0
  rw [c.P, c.w, c.K, c.mg, c.base] at e0
  have q0 := F.run X.A X.stack s H ⟨us, []⟩ us vs Q (E σ) hr c.gd e0 b r h
  rw [← c.P, ← c.w] at q0
  refine wpAny_call (codeAny_mono q0 fun r s' hq => ?_)
  cases r with
  | error e => exact hx pins H s e s' I hq
  | ok fl =>
    cases fl with
    | ret u => exact I.after hq
    | next => exact False.elim hq
    | brk => exact False.elim hq
    | cont => exact False.elim hq
theorem pe_callG (c : At G X) (F : FnG G k f fd ps sp) (hr : Room k X.A) (hg : Gl X x) (hm : X.mg x = some (.ref f)) (hk : PySem.W.keepIn X.K (.ref f) = true) (hb : Binds X.K fd ps []) (hx : ∀ σ, PassesAt (L2.CX X.prog X.w) X σ (E σ))
    (ha : PA X (e :: es) t) (hdb : (x == ("__debug__" : Str)) = false := by decide +kernel) (he : starEach (e :: es) X.env = (false, eval e X.env) :: starEach es X.env := by rfl) (hpl : (backTo pos (starEach es X.env)).any (·.1) = false := by rfl) :
    PE X (.Call (.Name x p) (e :: es) [] pos) (tCallS sp E t) := by
  refine ⟨fun pins s σ H Q I h => ?_⟩
  refine wpAny_Call_Name_kw (ld_glob I hg hm ?_ hdb)
  refine PySem.W.callWith_K (h₀ := X.base) I.ok.mod.kin hk (thn (ha.run pos pins s σ H _ I h) fun us s1 ⟨vs, H1, I1, r, q⟩ => ⟨I1.kIn, ?_⟩) he hpl
  exact run_fnG c F hr hb (hx σ) I1 r q
theorem pe_callG0 (c : At G X) (F : FnG G k f fd ps sp) (hr : Room k X.A) (hg : Gl X x) (hm : X.mg x = some (.ref f)) (hk : PySem.W.keepIn X.K (.ref f) = true) (hb : Binds X.K fd ps []) (hx : ∀ σ, PassesAt (L2.CX X.prog X.w) X σ (E σ))
    (hdb : (x == ("__debug__" : Str)) = false := by decide +kernel) : PE X (.Call (.Name x p) [] [] pos) (tCallS sp E tNil) := by
  refine ⟨fun pins s σ H Q I h => ?_⟩
  refine wpAny_Call_Name_kw (ld_glob I hg hm ?_ hdb)
  exact PySem.W.callWith_K0 I.kIn hk (run_fnG (us := []) c F hr hb (hx σ) I .nil h)
end
/-- f(e, ..), f a def of the module -/
theorem ex_call {x : Str} {f : Addr} {fd : FuncData} {ps : List Str} {j : Nat} {T : TD} {p : Pos} (G : FnG Γ.G j f fd ps (SpD Γ.K Γ.Tb T)) (hj : j ≤ Γ.k)
    (h : EAs Γ (e :: es) env fun as e1 => (lends as).Nodup ∧ T (as.map Arg.sl) (fun r as' => Back as as' ∧ QX r (putBack e1 as as')) (fun C ds as' => Back as as' ∧ Γ.Z C ds (putBack e1 as as')))
    (hg : Γ.sc.names.lookup x = some .globalImplicit) (hm : Γ.mg x = some (.ref f)) (hk : PySem.W.keepIn Γ.K (.ref f) = true) (hb : Binds Γ.K fd ps []) (hdb : (x == ("__debug__" : Str)) = false := by decide +kernel)
    (he : NoStar e es := by intro _; rfl) (hpl : NoStarAny es pos := by intro _; rfl) : EX Γ (.Call (.Name x p) (e :: es) [] pos) env QX := .mk fun F R H σ P E w k =>
  ⟨tCallS (SpD Γ.K Γ.Tb T) (fun σ cls d H => Γ.W cls d σ H) (WA Γ (e :: es)), fun X g => by
    exact pe_callG (k := j) (f := f) (fd := fd) (ps := ps) g.at G (g.room.mono hj) (by unfold Gl Env.kindOf; rw [g.sc]; exact hg) (by rw [g.mg]; exact hm) (by rw [g.K]; exact hk) (by rw [g.K]; exact hb) (fun σ => passAt g.takes σ) (WA.pa g) hdb (he _) (hpl _),
  h.run F R H σ _ E w fun as e1 vs F1 H1 q1 s1 E1 a1 => by
    obtain ⟨nd, hT⟩ := q1
    have hv : ∀ (i : Nat) (v : V) (a : Arg), vs[i]? = some v → as[i]? = some a → ∀ j q o, a = Arg.lend j q o → v = .ref q := fun i v a e1 e2 j q o e3 => by
      subst e3
      exact (a1.get e1 e2).1
    refine ⟨F1, calleeR F1 H1 (lentAt as), as.map Arg.sl, _, _, E1.callee a1 nd, hT, fun r as' v F2 H2 q2 s2 E2 z2 => ?_, fun C ds as' da F2 H2 q2 s2 E2 x2 fa ra na => ?_⟩
    · have E3 := E1.returned a1 nd s2 E2 q2.1
      refine k r _ v F2 H2 q2.2 (s1.trans s2) E3 ?_
      cases r with
      | no => exact z2.elim
      | sh d => exact z2
      | raw w => exact z2
      | own p o =>
        obtain ⟨z1, z3, z4, z5, z6⟩ := z2
        obtain ⟨f1, f2⟩ := fresh_back E1 a1 z4 z5 (back_lent E2 hv q2.1 a1.length)
        exact ⟨z1, z3, f1, f2, z6⟩
    · have E3 := E1.returned a1 nd s2 E2 q2.1
      obtain ⟨f1, f2⟩ := fresh_back E1 a1 ra na (back_lent E2 hv q2.1 a1.length)
      exact w C ds _ σ da F2 H2 q2.2 (s1.trans s2) E3 x2 fa f1 f2⟩

/-! ### statements -/
theorem sds_nil (q : D.nx env) : SDs Γ [] env D := .mk fun F R H σ E o w k => ⟨tNext, fun X g => pss_nil, k.1 env σ F H q (Same.refl F) o⟩
theorem sds_cons (h : SD Γ st env { D with nx := fun e1 => SDs Γ sts e1 D }) : SDs Γ (st :: sts) env D := .mk fun F R H σ E o w k =>
  ⟨tSeq (WS Γ st) (WSs Γ sts), fun X g => pss_cons (WS.ps g) (WSs.pss g), h.run F R H σ _ o w (k.next fun env' σ' F' H' q s o' => q.run F' R H' σ' E o' (w.mono s) (k.mono s))⟩
theorem sd_pass (q : D.nx env) : SD Γ (.Pass pos) env D := .mk fun F R H σ E o w k => ⟨tNext, fun X g => ps_pass, k.1 env σ F H q (Same.refl F) o⟩
theorem sd_break (q : D.bk env) : SD Γ (.Break pos) env D := .mk fun F R H σ E o w k => ⟨tBreak, fun X g => ps_break, k.2.1 env σ F H q (Same.refl F) o⟩
theorem sd_continue (q : D.ct env) : SD Γ (.Continue pos) env D := .mk fun F R H σ E o w k => ⟨tCont, fun X g => ps_continue, k.2.2.1 env σ F H q (Same.refl F) o⟩
theorem sd_ret (h : EX Γ e env D.rt) : SD Γ (.Return (some e) pos) env D := .mk fun F R H σ E o w k =>
  ⟨tRet (WE Γ e), fun X g => ps_ret (WE.pe g), h.run F R H σ _ o w fun r e1 v F1 H1 q s1 o1 z => k.2.2.2 r e1 σ v F1 H1 q s1 o1 z⟩
theorem sd_retN (q : D.rt (.sh .none) env) : SD Γ (.Return none pos) env D := .mk fun F R H σ E o w k => ⟨tRetN, fun X g => ps_retN, k.2.2.2 _ env σ _ F H q (Same.refl F) o rfl⟩
theorem sd_expr (h : EX Γ e env fun _ e1 => D.nx e1) (hs : ∀ env : Env, swapsWith e none pos.line env = pure false := by intro _; rfl) : SD Γ (.Expr e pos) env D := .mk fun F R H σ E o w k =>
  ⟨tDrop (WE Γ e), fun X g => ps_expr (WE.pe g) (hs _), h.run F R H σ _ o w fun r e1 v F1 H1 q s1 o1 z => k.1 e1 σ F1 H1 q s1 o1⟩
theorem sd_if {A B : List Stmt} (h : ET Γ c env fun t e1 => if t = true then SDs Γ A e1 D else SDs Γ B e1 D) : SD Γ (.If c A B pos) env D := .mk fun F R H σ E o w k =>
  ⟨tIfS (WT Γ c) (WSs Γ A) (WSs Γ B), fun X g => ps_if (WT.pt g) (WSs.pss g) (WSs.pss g), h.run F R H σ _ o w fun t e1 F1 H1 q s1 o1 => by
    cases t with
    | true => exact q.run F1 R H1 σ E o1 (w.mono s1) (k.mono s1)
    | false => exact q.run F1 R H1 σ E o1 (w.mono s1) (k.mono s1)⟩
/-- a slot gets a result -/
def putR (env : List Sl) (i : Nat) (r : RS) : List Sl := env.set i r
theorem EnvOk.put {K : PySem.W.Frag} {F R H : Hp} {σ : L2.St} (E : EnvOk K Tb F R H σ env) (i : Nat) {v : V} {r : RS} (z : ResOk K F R H env v r) : EnvOk K Tb F R H (σ.set i (some v)) (env.set i r) := by
  cases r with
  | no => exact z.elim
  | sh d => exact E.setSh i z
  | raw w => rw [show v = w from z]; exact E.setRaw i
  | own p o =>
    obtain ⟨rfl, f1, f2, f3, u, hu, ho⟩ := z
    exact E.setOwn i f1 f2 f3 hu ho
theorem sd_set {i : Nat} {x : Str} {pos' : Pos} (h : EX Γ e env fun r e1 => D.nx (e1.set i r)) (hi : Γ.N[i]? = some x) (hN : Γ.N.Nodup) (hx : Loc Γ.sc x) (hA : Γ.asg x)
    (hs : ∀ env : Env, swapsWith e (some (.Name x pos')) pos.line env = pure false := by intro _; rfl) : SD Γ (.Assign [.Name x pos'] e pos) env D := .mk fun F R H σ E o w k =>
  ⟨tAsg (WE Γ e) (gName i), fun X g => ps_set (by rw [g.N]; exact hN) (by rw [g.N]; exact hi) (by rw [g.sc]; exact hx) (WE.pe g) (hs _) (by
      have := g.fn x hA
      rw [g.sc]
      exact this), h.run F R H σ _ o w fun r e1 v F1 H1 q s1 o1 z => k.1 _ _ F1 H1 q s1 (o1.put i z)⟩

/-! ### a def's body -/
def padN (N ps : List Str) : List Sl := List.replicate (N.length - ps.length) .no
theorem EnvOk.start {K : PySem.W.Frag} {F R H : Hp} {vs : List V} {as : List Sl} (E : EnvOk K Tb F R H (vs.map some) as) (N : List Str) (n : Nat) (hn : N.length - vs.length = n) : EnvOk K Tb F R H (L2.start N vs) (as ++ List.replicate n .no) where
  tb := E.tb
  nt := E.nt
  exF := E.exF
  exR := E.exR
  dis := E.dis
  len := by
    unfold L2.start
    rw [List.length_append, List.length_append, List.length_replicate, List.length_replicate, E.len, hn]
  nd := by
    have : owns (as ++ List.replicate n .no) = owns as := by
      unfold owns
      rw [List.filterMap_append]
      have : List.filterMap Sl.addr (List.replicate n Sl.no) = [] := by
        induction n with
        | zero => rfl
        | succ n ih => 
          rw [List.replicate_succ, List.filterMap_cons]
          clear ih
          have : ∀ m, List.filterMap Sl.addr (List.replicate m Sl.no) = [] := by
            intro m
            induction m with
            | zero => rfl
            | succ m ih => rw [List.replicate_succ, List.filterMap_cons]; exact ih
          exact this n
      rw [this, List.append_nil]
    rw [this]
    exact E.nd
  slot := fun i v s e1 e2 => by
    unfold L2.start at e1
    have hl : (vs.map some).length = as.length := E.len
    by_cases hi : i < as.length
    · rw [List.getElem?_append_left hi] at e2
      rw [List.getElem?_append_left (by rw [hl]; exact hi)] at e1
      exact E.slot i v s e1 e2
    · rw [List.getElem?_append_right (by omega)] at e2
      have : s = .no := by
        rw [List.getElem?_replicate] at e2
        split at e2
        · exact (Option.some.inj e2).symm
        · cases e2
      subst this
      cases v <;> exact trivial
/-- what the parameters are at the end: what was lent comes back from its slot -/
def Left : List Sl → List Sl → List Sl → Prop
  | [], _, as' => as' = []
  | a :: as, env, as' => ∃ s rs, as' = s :: rs ∧ (match a with
      | .own p _ => ∃ o' er, env = Sl.own p o' :: er ∧ s = Sl.own p o'
      | _ => s = a) ∧ Left as env.tail rs
theorem Left.get : ∀ {as env as' : List Sl}, Left as env as' → ∀ (i : Nat) (s : Sl), as'[i]? = some s → (∃ p o o', as[i]? = some (Sl.own p o) ∧ env[i]? = some (Sl.own p o') ∧ s = Sl.own p o') ∨ (as[i]? = some s ∧ s.addr = none)
  | [], _, _, h, i, s, e => by rw [show _ = [] from h] at e; simp at e
  | a :: as, env, _, ⟨s0, rs, e0, h0, h1⟩, i, s, e => by
    subst e0
    cases i with
    | zero =>
      have e' : s0 = s := by simpa using e
      subst e'
      cases a with
      | own p o =>
        obtain ⟨o', er, h2, h3⟩ := h0
        exact .inl ⟨p, o, o', rfl, by rw [h2]; rfl, h3⟩
      | no => exact .inr ⟨by rw [show s0 = .no from h0]; rfl, by rw [show s0 = .no from h0]; rfl⟩
      | sh d => exact .inr ⟨by rw [show s0 = .sh d from h0]; rfl, by rw [show s0 = .sh d from h0]; rfl⟩
      | raw d => exact .inr ⟨by rw [show s0 = .raw d from h0]; rfl, by rw [show s0 = .raw d from h0]; rfl⟩
    | succ i =>
      rcases Left.get h1 i s (by simpa using e) with ⟨p, o, o', e1, e2, e3⟩ | ⟨e1, e2⟩
      · refine .inl ⟨p, o, o', by simpa using e1, ?_, e3⟩
        cases env with
        | nil => simp at e2
        | cons t r => simpa using e2
      · exact .inr ⟨by simpa using e1, e2⟩
theorem Left.len : ∀ {as env as' : List Sl}, Left as env as' → as'.length = as.length
  | [], _, _, h => by rw [show _ = [] from h]
  | _ :: _, _, _, ⟨s, rs, e, _, h⟩ => by rw [e, List.length_cons, List.length_cons, Left.len h]
theorem Left.owns : ∀ {as env as' : List Sl}, Left as env as' → owns as' = owns as
  | [], _, _, h => by rw [show _ = [] from h]
  | a :: as, env, _, ⟨s, rs, e, h0, h⟩ => by
    subst e
    have ih := Left.owns h
    unfold Dw.owns at ih ⊢
    rw [List.filterMap_cons, List.filterMap_cons, ih]
    have : s.addr = a.addr := by
      cases a with
      | own p o => obtain ⟨o', er, _, h3⟩ := h0; rw [h3]; rfl
      | no => rw [show s = .no from h0]
      | sh d => rw [show s = .sh d from h0]
      | raw d => rw [show s = .raw d from h0]
    rw [this]
theorem EnvOk.left {K : PySem.W.Frag} {F F' R H H' : Hp} {σ σ' : L2.St} {as env' as' : List Sl} (E : EnvOk K Tb F R H σ as) (sF : Same F F') (E' : EnvOk K Tb F' R H' σ' env') (h : Left as env' as') : EnvOk K Tb F' R H' σ as' where
  tb := E'.tb
  nt := E'.nt
  exF := E'.exF
  exR := E'.exR
  dis := E'.dis
  len := by rw [h.len]; exact E.len
  nd := by rw [h.owns]; exact E.nd
  slot := fun i v s e1 e2 => by
    rcases h.get i s e2 with ⟨p, o, o', h1, h2, rfl⟩ | ⟨h1, h2⟩
    · obtain ⟨_, z1, z2, u, z3, z4⟩ := E'.getOwn h2
      have := (E.getOwn h1).1
      rw [e1] at this
      cases this
      exact ⟨rfl, z1, z2, u, z3, z4⟩
    · refine SlotOk.grow sF (E.slot i v s e1 h1) fun p o e => ?_
      subst e
      simp [Sl.addr] at h2
/-- THE RULE for a def -/
theorem Fun.okG {G : Pg} {x qual : Str} {st : Stmt} {f : Addr} {fd : FuncData} {N ps : List Str} {k : Nat} {sp : Sp} (F : Fun G.K x qual st f fd) (S : FnScope N ps (defScope st)) (len : ∀ vs H Q E, sp vs H Q E → vs.length = ps.length)
    (hbody : ∀ (cdv : Value) (A : Around) (outer : List Env) (s : Shared) (H : Hp) (vs : List V) (Q : VK) (E : XK), fd.code = cdv → Room k (A.deeper (envOfC qual (defScope st) s.heap.objs.size f cdv)) → (G.gd = true → A.guards = some []) → sp vs H Q E →
      ∃ t, PSs (cxOf (L2.CX G.P G.w) G.P G.w G.K G.mg G.base N qual (defScope st) f cdv A outer s H E) (defBody st) t ∧ t { nx := fun _ H' => Q .non H', rt := Q } (L2.start N vs) H) : FnG G (k + 1) f fd ps sp := by
  obtain ⟨oc, od, kV, doc, pm, an, cdv, ct, osl, rfl, lk, hcd⟩ := F.ex
  refine ⟨len, fun A outer s H args us vs Q E hr hgd e0 hb r hsp => ?_⟩
  have hl := len _ _ _ _ hsp
  have KX : G.K.In s.heap := e0.mod.kin.keeps fun b o e => (e0.bs b o e).1
  have lim : s.heap.NoLimit := e0.mod.nolimit.keeps fun b o e => (e0.bs b o e).1
  have hkind : ∀ y ∈ ps.zip us, (defScope st).names.lookup y.1 = some .local ∨ ((defScope st).names.lookup y.1 = some .cell ∧ ((cellsFrom (s.heap.objs.size + 1) (defScope st).names []).lookup y.1).isSome = true) := fun ⟨n, v⟩ hy => by
    rcases S.par n (List.of_mem_zip hy).1 with q | q
    · exact .inl q
    · exact .inr ⟨q, PySem.W.cellsFrom_some _ _ _ (.inl q)⟩
  refine codeAny_call_function hr.depth (KX _ _ lk) rfl S.co S.gen rfl (PySem.W.codeRec_of KX hcd) (hb _ _ _ _ ?_)
  refine wpAny_newFunctionEnv_cells S.kind hkind fun env he s1 x => ?_
  subst he
  refine ⟨lim.keeps x.toInCall.keep, codeAny_func ?_⟩
  obtain ⟨t, ht, hq⟩ := hbody cdv A outer s H vs Q E rfl (hr.deeper _) hgd hsp
  have I : Inv (cxOf (L2.CX G.P G.w) G.P G.w G.K G.mg G.base N qual (defScope st) f cdv A outer s H E) [] (L2.start N vs) H s1 := inv_start S hr.hd e0 hl r x
  refine wpAny_mono (ht.run [] s1 (L2.start N vs) H _ I hq) (fun fl s' hs => ?_) fun e s' hs => hs
  have fin : ∀ {σ' : L2.St} {H' : Hp} {v : V} {u : Value}, Inv (cxOf (L2.CX G.P G.w) G.P G.w G.K G.mg G.base N qual (defScope st) f cdv A outer s H E) [] σ' H' s' → RelV v u → Q v H' → CE outer G.P G.w H s Q u s' :=
    fun {σ' H' v u} J rv q => ⟨v, H', J.os, J.bare, J.base, J.hok, rv, q⟩
  cases fl with
  | ret u =>
    obtain ⟨v, σ', H', J, rv, q⟩ := hs
    exact fin J rv q
  | next =>
    obtain ⟨σ', H', J, q⟩ := hs
    exact fin (v := V.non) (u := Value.none) J rfl q
  | brk =>
    obtain ⟨_, _, _, q⟩ := hs
    exact False.elim q
  | cont =>
    obtain ⟨_, _, _, q⟩ := hs
    exact False.elim q
theorem fn_ok {G : Pg} {x qual : Str} {stm : Stmt} {f : Addr} {fd : FuncData} {N ps : List Str} {k : Nat} {T : TD} (F : Fun G.K x qual stm f fd) (S : FnScope N ps (defScope stm))
    (len : ∀ as Qd Ed, T as Qd Ed → as.length = ps.length)
    (body : ∀ (W : WX) (as : List Sl) (Qd : RS → List Sl → Prop) (Ed : ED), T as Qd Ed → SDs ⟨N, defScope stm, G, fd.code, qual ++ ".<locals>.", k, W, fun C ds env' => ∃ as', Left as env' as' ∧ Ed C ds as', Loc (defScope stm)⟩ (defBody stm) (as ++ padN N ps)
      { nx := fun env' => ∃ as', Left as env' as' ∧ Qd (.sh .none) as', rt := fun r env' => ∃ as', Left as env' as' ∧ Qd r as' }) : FnG G (k + 1) f fd ps (SpD G.K G.Tb T) := by
  refine Fun.okG F S (fun vs H Q E h => ?_) (fun cdv A outer s H vs Q E hcd hr hgd h => ?_)
  · obtain ⟨F0, R, as, Qd, Ed, hE, hT, _⟩ := h
    have := hE.len
    rw [List.length_map] at this
    rw [this]
    exact len as Qd Ed hT
  · obtain ⟨F0, R, as, Qd, Ed, hE, hT, q1, q2⟩ := h
    have hl : vs.length = ps.length := by
      have := hE.len
      rw [List.length_map] at this
      rw [this]
      exact len as Qd Ed hT
    have b := (body (fun cls d _ H => E cls d H) as Qd Ed hT).run F0 R H (L2.start N vs) { nx := fun _ H' => Q .non H', rt := Q } (hE.start N _ (by rw [hl])) (fun C ds env' σ' da F' H' z s o x f1 f2 f3 => by
        obtain ⟨as', z1, z2⟩ := z
        exact q2 C ds as' da F' H' z2 s (hE.left s o z1) x f1 f2 (fun y => f3 (by
          obtain ⟨i, ob, hi⟩ := owns_mem.mp y
          rcases z1.get i _ hi with ⟨p, o1, o2, h1, h2, h3⟩ | ⟨_, h2⟩
          · cases h3
            exact owns_mem.mpr ⟨i, ob, h2⟩
          · simp [Sl.addr] at h2)))
      ⟨fun env' σ' F' H' z s o => by
        obtain ⟨as', z1, z2⟩ := z
        exact q1 _ as' _ F' H' z2 s (hE.left s o z1) rfl, fun _ _ _ _ z => z.elim, fun _ _ _ _ z => z.elim, fun r env' σ' v F' H' z s o ro => by
        obtain ⟨as', z1, z2⟩ := z
        refine q1 r as' v F' H' z2 s (hE.left s o z1) ?_
        cases r with
        | no => exact ro.elim
        | sh d => exact ro
        | raw d => exact ro
        | own p ob =>
          obtain ⟨y1, y2, y3, y4, y5⟩ := ro
          refine ⟨y1, y2, y3, fun y => y4 ?_, y5⟩
          obtain ⟨i, ob, hi⟩ := owns_mem.mp y
          rcases z1.get i _ hi with ⟨p, o1, o2, h1, h2, h3⟩ | ⟨_, h2⟩
          · cases h3
            exact owns_mem.mpr ⟨i, ob, h2⟩
          · simp [Sl.addr] at h2⟩
    obtain ⟨t, ht, hq⟩ := b
    refine ⟨t, ht _ ⟨rfl, rfl, rfl, rfl, rfl, rfl, rfl, rfl, hgd, hcd.symm, rfl, hr, fun y _ => .inl rfl, ?_, ?_⟩, hq⟩
    · exact passes_of rfl
    · exact takes_of rfl rfl rfl rfl
end Dw

/-! Dw6: targets, what is walked, loops, comprehensions. -/
namespace Dw
open PySem PySem.Spec PyProof.Rows L2
variable {Tb : List (Addr × Str)}
variable {Γ : Gm} {env : List Sl} {QX : RS → List Sl → Prop} {D : EndsD} {a b c e elt tg iter : Expr} {es : List Expr} {st : Stmt} {sts body : List Stmt} {pos : Pos}

def WG (Γ : Gm) (tg : Expr) (v : V) (σ : L2.St) (H : Hp) (Q : L2.St → Hp → Prop) : Prop := ∃ g : TG, (∀ X, Good Γ X → PG X tg g) ∧ g v σ H Q
def WGs (Γ : Gm) (tg : List Expr) (v : List V) (σ : L2.St) (H : Hp) (Q : L2.St → Hp → Prop) : Prop := ∃ g : TGs, (∀ X, Good Γ X → PGs X tg g) ∧ g v σ H Q
def WI (Γ : Gm) (tg iter : Expr) (σ : L2.St) (H : Hp) (R : It → Hp → Prop) : Prop := ∃ t : TI, (∀ X, Good Γ X → PI X tg iter t) ∧ t σ H R
theorem WG.pg {X : Cx} (g : Good Γ X) : PG X tg (WG Γ tg) := ⟨fun pins s σ H v u Q I r ⟨t, p, q⟩ => (p X g).run pins s σ H v u Q I r q⟩
theorem WGs.pgs {X : Cx} (g : Good Γ X) : PGs X es (WGs Γ es) := ⟨fun pins s σ H v u Q I r ⟨t, p, q⟩ => (p X g).run pins s σ H v u Q I r q⟩
theorem WI.pi {X : Cx} (g : Good Γ X) : PI X tg iter (WI Γ tg iter) := ⟨fun pins s σ H R I ⟨t, p, q⟩ => (p X g).run pins s σ H R I q⟩

/-- σ' is σ but for the slots js -/
def But (js : List Nat) (σ σ' : L2.St) : Prop := ∀ vs : List Nat, (∀ j ∈ js, j ∈ vs) → wipe σ' vs = wipe σ vs
theorem But.refl (js : List Nat) (σ : L2.St) : But js σ σ := fun _ _ => rfl
theorem wipe_set {σ : L2.St} {i : Nat} {v : Option V} : ∀ {vs : List Nat}, i ∈ vs → wipe (σ.set i v) vs = wipe σ vs
  | [], h => by cases h
  | j :: vs, h => by
    show (wipe (σ.set i v) vs).set j none = (wipe σ vs).set j none
    by_cases hi : i ∈ vs
    · rw [wipe_set hi]
    · have hij : i = j := by
        rcases List.mem_cons.mp h with h | h
        · exact h
        · exact absurd h hi
      subst hij
      have key : ∀ {vs : List Nat}, i ∉ vs → ∀ τ : L2.St, wipe (τ.set i v) vs = (wipe τ vs).set i v := by
        intro vs
        induction vs with
        | nil => intro _ τ; rfl
        | cons k ks ih =>
          intro hk τ
          show (wipe (τ.set i v) ks).set k none = ((wipe τ ks).set k none).set i v
          rw [ih (fun z => hk (List.mem_cons_of_mem _ z)), List.set_comm]
          intro z
          exact hk (by rw [← z]; exact List.mem_cons_self)
      rw [key hi, List.set_set]
theorem But.set {js : List Nat} {σ σ' : L2.St} (h : But js σ σ') {i : Nat} {v : Option V} (hi : i ∈ js) : But js σ (σ'.set i v) := fun vs hv => by
  rw [wipe_set (hv i hi)]
  exact h vs hv

/-- a target takes data -/
structure TG1 (Γ : Gm) (tg : Expr) (js : List Nat) (env : List Sl) (d : PD) (Q : List Sl → Prop) : Prop where
  run : ∀ (F R H : Hp) (σ : L2.St) (x : V) (P : L2.St → Hp → Prop), EnvOk Γ.K Γ.Tb F R H σ env → Rep Γ.K F d x → (∀ σ' env', Q env' → But js σ σ' → EnvOk Γ.K Γ.Tb F R H σ' env' → P σ' H) → WG Γ tg x σ H P
structure TGs1 (Γ : Gm) (tgs : List Expr) (js : List Nat) (env : List Sl) (ds : List PD) (Q : List Sl → Prop) : Prop where
  run : ∀ (F R H : Hp) (σ : L2.St) (xs : List V) (P : L2.St → Hp → Prop), EnvOk Γ.K Γ.Tb F R H σ env → RepL Γ.K F ds xs → (∀ σ' env', Q env' → But js σ σ' → EnvOk Γ.K Γ.Tb F R H σ' env' → P σ' H) → WGs Γ tgs xs σ H P
theorem tg_name {i : Nat} {x : Str} {js : List Nat} {d : PD} {Q : List Sl → Prop} (q : Q (env.set i (.sh d))) (hj : i ∈ js) (hi : Γ.N[i]? = some x) (hN : Γ.N.Nodup) (hx : Loc Γ.sc x) (hA : Γ.asg x) : TG1 Γ (.Name x pos) js env d Q := .mk fun F R H σ v P E r k =>
  ⟨gName i, fun X g => pg_name (by rw [g.N]; exact hN) (by rw [g.N]; exact hi) (by rw [g.sc]; exact hx) (by
      have := g.fn x hA
      rw [g.sc]
      exact this), k _ _ q ((But.refl js σ).set hj) (E.setSh i r)⟩
theorem tgs_nil {js : List Nat} {Q : List Sl → Prop} (q : Q env) : TGs1 Γ [] js env [] Q := .mk fun F R H σ xs P E r k => ⟨gNil, fun X g => pgs_nil, r, k σ env q (But.refl js σ) E⟩
theorem But.trans {js : List Nat} {σ σ1 σ2 : L2.St} (h : But js σ σ1) (h' : But js σ1 σ2) : But js σ σ2 := fun vs hv => (h' vs hv).trans (h vs hv)
theorem tgs_cons {js : List Nat} {d : PD} {ds : List PD} {Q : List Sl → Prop} (h : TG1 Γ e js env d fun e1 => TGs1 Γ es js e1 ds Q) (hs : ∀ env : Env, ((assignEach (e :: es) env).map (·.2)) = assign e env :: (assignEach es env).map (·.2) := by intro _; rfl) : TGs1 Γ (e :: es) js env (d :: ds) Q := .mk fun F R H σ xs P E r k => by
  obtain ⟨x, rest, rfl, r1, r2⟩ := r
  exact ⟨gCons (WG Γ e) (WGs Γ es), fun X g => pgs_cons (WG.pg g) (WGs.pgs g) (hs _), x, rest, rfl, h.run F R H σ x _ E r1 fun σ1 e1 q1 b1 E1 => q1.run F R H σ1 rest P E1 r2 fun σ2 e2 q2 b2 E2 => k σ2 e2 q2 (b1.trans b2) E2⟩
theorem tg_tup {js : List Nat} {ds : List PD} {Q : List Sl → Prop} {kk : Nat} (h : TGs1 Γ es js env ds Q) (hl : ds.length = es.length) (hw : ∀ X, Good Γ X → ∀ g : TGs, PGs X es g → PG X (.Tuple es kk pos) (gTup X.K es.length g)) : TG1 Γ (.Tuple es kk pos) js env (.tuple ds) Q := .mk fun F R H σ x P E r k => by
  obtain ⟨t, vs, rfl, r1, r2⟩ := r
  exact ⟨gTup Γ.K es.length (WGs Γ es), fun X g => by rw [← g.K]; exact hw X g _ (WGs.pgs g), t, vs, rfl, (Same.sqt E.exF r1), by rw [r2.length, hl], h.run F R H σ vs P E r2 k⟩

/-! ### what is walked -/
def Walks (K : PySem.W.Frag) (Tb : List (Addr × Str)) (F : Hp) (J : It) (ds : List PD) : Prop := ∀ (F2 R2 H2 : Hp) (σ2 : L2.St) (env2 : List Sl), EnvOk K Tb F2 R2 H2 σ2 env2 → Same F F2 → ∀ i : Nat, (ds.length ≤ i → J.stop i H2) ∧
  ∀ d, ds[i]? = some d → J.go i H2 ∧ ∀ (x : V) (H3 : Hp), J.yld i H2 x H3 → ∃ F3, Same F2 F3 ∧ EnvOk K Tb F3 R2 H3 σ2 env2 ∧ Rep K F3 d x
structure IT (Γ : Gm) (tg iter : Expr) (env : List Sl) (Q : List PD → List Sl → Prop) : Prop where
  run : ∀ (F R H : Hp) (σ : L2.St) (P : It → Hp → Prop), EnvOk Γ.K Γ.Tb F R H σ env → WOk Γ F R → (∀ ds env' J F' H', Q ds env' → Same F F' → EnvOk Γ.K Γ.Tb F' R H' σ env' → Walks Γ.K Γ.Tb F' J ds → P J H') → WI Γ tg iter σ H P
theorem Walks.mono {K : PySem.W.Frag} {F F' : Hp} {J : It} {ds : List PD} (h : Walks K Tb F J ds) (s : Same F F') : Walks K Tb F' J ds := fun F2 R2 H2 σ2 env2 E s2 => h F2 R2 H2 σ2 env2 E (s.trans s2)
theorem walks_list {K : PySem.W.Frag} {F : Hp} {p : Addr} {vs : List V} {ds : List PD} (h : Rd F p (.lst vs)) (r : RepL K F ds vs) : Walks K Tb F (Itl K p) ds := fun F2 R2 H2 σ2 env2 E s i => by
  have h2 : SqL K H2 p vs := seqR (s.trans E.exF) h
  refine ⟨fun hi => ⟨vs, h2, by rw [r.length]; exact hi⟩, fun d hd => ?_⟩
  obtain ⟨v, hv, rv⟩ := r.get hd
  refine ⟨⟨vs, v, h2, hv⟩, fun x H3 y => ?_⟩
  obtain ⟨rfl, hy⟩ := y
  have := hy vs h2
  rw [hv] at this
  cases this
  exact ⟨F2, Same.refl F2, E, rv.mono s⟩
theorem walks_tup {K : PySem.W.Frag} {F : Hp} {p : Addr} {vs : List V} {ds : List PD} (h : SqT K F p vs) (r : RepL K F ds vs) : Walks K Tb F (Itt K p) ds := fun F2 R2 H2 σ2 env2 E s i => by
  have h2 : SqT K H2 p vs := Same.sqt (s.trans E.exF) h
  refine ⟨fun hi => ⟨vs, h2, by rw [r.length]; exact hi⟩, fun d hd => ?_⟩
  obtain ⟨v, hv, rv⟩ := r.get hd
  refine ⟨⟨vs, v, h2, hv⟩, fun x H3 y => ?_⟩
  obtain ⟨rfl, hy⟩ := y
  have := hy vs h2
  rw [hv] at this
  cases this
  exact ⟨F2, Same.refl F2, E, rv.mono s⟩
theorem it_list {Q : List PD → List Sl → Prop} (h : EV Γ iter env fun d e1 => ∃ ds, d = .list ds ∧ Q ds e1) : IT Γ tg iter env Q := .mk fun F R H σ P E w k =>
  ⟨iList Γ.K (WE Γ iter), fun X g => by rw [← g.K]; exact pi_list (WE.pe g), h.run F R H σ _ E w fun d e1 v F1 H1 q s1 E1 r => by
    obtain ⟨ds, rfl, q⟩ := q
    obtain ⟨p, vs, rfl, h1, h2⟩ := r
    exact ⟨p, rfl, ⟨vs, seqR E1.exF h1⟩, k ds e1 _ F1 H1 q s1 E1 (walks_list h1 h2)⟩⟩
theorem it_tup {Q : List PD → List Sl → Prop} (h : EV Γ iter env fun d e1 => ∃ ds, d = .tuple ds ∧ Q ds e1) : IT Γ tg iter env Q := .mk fun F R H σ P E w k =>
  ⟨iTup Γ.K (WE Γ iter), fun X g => by rw [← g.K]; exact pi_tup (WE.pe g), h.run F R H σ _ E w fun d e1 v F1 H1 q s1 E1 r => by
    obtain ⟨ds, rfl, q⟩ := q
    obtain ⟨p, vs, rfl, h1, h2⟩ := r
    exact ⟨p, rfl, ⟨vs, Same.sqt E1.exF h1⟩, k ds e1 _ F1 H1 q s1 E1 (walks_tup h1 h2)⟩⟩
/-- a list or a tuple, whichever comes -/
theorem it_any {Q : List PD → List Sl → Prop} (h : EV Γ iter env fun d e1 => (∃ ds, d = .list ds ∧ Q ds e1) ∨ ∃ ds, d = .tuple ds ∧ Q ds e1) (hw : ∀ X, Good Γ X → ∀ tl : TE, PE X iter tl → PI X tg iter (fun σ H R => tl σ H fun x H1 => ∃ a, x = .ref a ∧ (((∃ xs, SqL X.K H1 a xs) ∧ R (Itl X.K a) H1) ∨ ((∃ xs, SqT X.K H1 a xs) ∧ R (Itt X.K a) H1)))) :
    IT Γ tg iter env Q := .mk fun F R H σ P E w k =>
  ⟨fun σ H R => WE Γ iter σ H fun x H1 => ∃ a, x = .ref a ∧ (((∃ xs, SqL Γ.K H1 a xs) ∧ R (Itl Γ.K a) H1) ∨ ((∃ xs, SqT Γ.K H1 a xs) ∧ R (Itt Γ.K a) H1)), fun X g => by rw [← g.K]; exact hw X g _ (WE.pe g), h.run F R H σ _ E w fun d e1 v F1 H1 q s1 E1 r => by
    rcases q with ⟨ds, rfl, q⟩ | ⟨ds, rfl, q⟩
    · obtain ⟨p, vs, rfl, h1, h2⟩ := r
      exact ⟨p, rfl, .inl ⟨⟨vs, seqR E1.exF h1⟩, k ds e1 _ F1 H1 q s1 E1 (walks_list h1 h2)⟩⟩
    · obtain ⟨p, vs, rfl, h1, h2⟩ := r
      exact ⟨p, rfl, .inr ⟨⟨vs, Same.sqt E1.exF h1⟩, k ds e1 _ F1 H1 q s1 E1 (walks_tup h1 h2)⟩⟩⟩

/-! ### loops -/
theorem sd_for (I : Nat → List Sl → Prop) (js : List Nat) (h : IT Γ tg iter env fun ds e1 => I 0 e1 ∧ ∀ i e, I i e → (i = ds.length → D.nx e) ∧ ∀ d, ds[i]? = some d → TG1 Γ tg js e d fun e2 => SDs Γ body e2 { D with nx := I (i + 1), ct := I (i + 1), bk := D.nx })
    (hf : ∀ (env : Env) x, foldedSetIterable iter env x = pure x := by intro _ _; rfl) : SD Γ (.For tg iter body [] pos) env D := .mk fun F R H σ E o w k =>
  ⟨tFor (WI Γ tg iter) (WG Γ tg) (WSs Γ body), fun X g => ps_for g.passes g.calm (WI.pi g) (WG.pg g) (WSs.pss g) (hs := hf _), h.run F R H σ _ o w fun ds e1 J F1 H1 q s1 o1 wk => by
    obtain ⟨q0, qs⟩ := q
    refine ⟨fun i m σ2 H2 => m = ds.length - i ∧ i ≤ ds.length ∧ ∃ F2 e2, Same F1 F2 ∧ EnvOk Γ.K Γ.Tb F2 R H2 σ2 e2 ∧ I i e2, ⟨ds.length, by omega, Nat.zero_le _, F1, e1, Same.refl F1, o1, q0⟩, ?_⟩
    rintro i m σ2 H2 ⟨rfl, hi, F2, e2, s2, o2, qi⟩
    obtain ⟨wstop, wgo⟩ := wk F2 R H2 σ2 e2 o2 s2 i
    obtain ⟨qe, qt⟩ := qs i e2 qi
    by_cases hlt : i < ds.length
    · refine .inr ?_
      obtain ⟨g1, g2⟩ := wgo ds[i] (List.getElem?_eq_getElem hlt)
      refine ⟨g1, fun σ' H' => ∃ F3 e3, Same F2 F3 ∧ EnvOk Γ.K Γ.Tb F3 R H' σ' e3 ∧ I (i + 1) e3, fun σ' H' ⟨F3, e3, s3, o3, q3⟩ => ⟨ds.length - (i + 1), by omega, rfl, hlt, F3, e3, s2.trans s3, o3, q3⟩, fun x H3 y => ?_⟩
      obtain ⟨F3, s3, o3, r3⟩ := g2 x H3 y
      refine (qt ds[i] (List.getElem?_eq_getElem hlt)).run F3 R H3 σ2 x _ o3 r3 fun σ4 e4 q4 _ o4 => ?_
      have sB : Same F F3 := (s1.trans s2).trans s3
      refine q4.run F3 R H3 σ4 _ o4 (w.mono sB) ⟨fun env' σ' F' H' z s o => ⟨F', env', s3.trans s, o, z⟩, fun env' σ' F' H' z s o => k.1 env' σ' F' H' z (sB.trans s) o, fun env' σ' F' H' z s o => ⟨F', env', s3.trans s, o, z⟩, fun r env' σ' v F' H' z s o ro => k.2.2.2 r env' σ' v F' H' z (sB.trans s) o ro⟩
    · have he : i = ds.length := by omega
      exact .inl ⟨wstop (by omega), k.1 e2 σ2 F2 H2 (qe he) (s1.trans s2) o2⟩⟩
theorem sd_while (I : Nat → List Sl → Prop) (h0 : ∃ m, I m env) (hs : ∀ m e, I m e → ET Γ c e fun t e1 => if t = true then SDs Γ body e1 { D with nx := fun e => ∃ m', m' < m ∧ I m' e, ct := fun e => ∃ m', m' < m ∧ I m' e, bk := D.nx } else D.nx e1) :
    SD Γ (.While c body [] pos) env D := .mk fun F R H σ E o w k =>
  ⟨tWhile (WT Γ c) (WSs Γ body), fun X g => ps_while g.passes (WT.pt g) (WSs.pss g), by
    obtain ⟨m0, q0⟩ := h0
    refine ⟨fun m σ2 H2 => ∃ F2 e2, Same F F2 ∧ EnvOk Γ.K Γ.Tb F2 R H2 σ2 e2 ∧ I m e2, ⟨m0, F, env, Same.refl F, o, q0⟩, ?_⟩
    rintro m σ2 H2 ⟨F2, e2, s2, o2, qi⟩
    refine (hs m e2 qi).run F2 R H2 σ2 _ o2 (w.mono s2) fun t e3 F3 H3 q3 s3 o3 => ?_
    have sB : Same F F3 := s2.trans s3
    cases t with
    | true =>
      refine ⟨fun σ' H' => ∃ F4 e4, Same F3 F4 ∧ EnvOk Γ.K Γ.Tb F4 R H' σ' e4 ∧ ∃ m', m' < m ∧ I m' e4, fun σ' H' ⟨F4, e4, s4, o4, m', hm, q4⟩ => ⟨m', hm, F4, e4, sB.trans s4, o4, q4⟩, ?_⟩
      exact q3.run F3 R H3 σ2 _ o3 (w.mono sB) ⟨fun env' σ' F' H' z s o => ⟨F', env', s, o, z⟩, fun env' σ' F' H' z s o => k.1 env' σ' F' H' z (sB.trans s) o, fun env' σ' F' H' z s o => ⟨F', env', s, o, z⟩, fun r env' σ' v F' H' z s o ro => k.2.2.2 r env' σ' v F' H' z (sB.trans s) o ro⟩
    | false => exact k.1 e3 σ2 F3 H3 q3 sB o3⟩
end Dw

/-! Dw7: comprehensions. -/
namespace Dw
open PySem PySem.Spec PyProof.Rows L2
variable {Tb : List (Addr × Str)}
variable {Γ : Gm} {env : List Sl} {QX : RS → List Sl → Prop} {QB : Bool → List Sl → Prop} {a b c e elt tg iter : Expr} {es : List Expr} {pos : Pos}

def relabelS (scope sc : Scope) : Scope :=
  { scope with names := scope.names.map fun (n, k) => if (k == .free && sc.kind == .function && sc.names.lookup n == some .cell) then (n, .cell) else (n, k) }
def Gm.blk (Γ : Gm) (scope : Scope) : Gm := { Γ with sc := relabelS scope Γ.sc, W := fun _ _ _ _ => False, Z := fun _ _ _ => False, asg := Loc scope }
theorem good_blk {X : Cx} {scope : Scope} {s : Shared} {H : Hp} {C : Addr} {cl : List (Str × Addr)} {fp : List Addr} (g : Good Γ X) : Good (Γ.blk scope) (X.blk s H scope (compEnvC scope cl C X.env) fp) where
  N := g.N
  sc := by
    show relabel scope X.env = relabelS scope Γ.sc
    unfold relabel relabelS Env.kindOf
    rw [g.sc]
  K := g.K
  mg := g.mg
  P := g.P
  w := g.w
  base := g.base
  calm := g.calm
  gd := g.gd
  code := g.code
  qual := g.qual
  room := g.room
  fn := fun x hx => by
    rcases (show Loc scope x from hx) with hx | hx
    · refine .inr ?_
      exact lookup_relabel_local (env := { scope := Γ.sc, locals := 0, globals := 0, cells := [], qual := x, builtins := 0 }) hx
    · refine .inl ?_
      show (scope.names.lookup x == some NameKind.cell) = true
      have hx' : scope.names.lookup x = some NameKind.cell := hx
      rw [hx']
      decide
  passes := PassesOwn.never
  takes := L2.takes0
theorem wok_blk {scope : Scope} {F R : Hp} : WOk (Γ.blk scope) F R := fun _ _ _ _ _ _ _ z => z.elim

/-! ### frames with one more -/
section
variable {K : PySem.W.Frag} {F R H : Hp} {σ : L2.St} {env : List Sl} {p : Addr}
theorem EnvOk.addR (E : EnvOk K Tb F R H σ env) (hp : H p = none) (u : HO) (hu : NoTb u := by exact noTb_lst) : EnvOk K Tb F (upd R p u) (upd H p u) σ env := by
  obtain ⟨f1, f2, f3⟩ := E.fresh hp
  refine ⟨E.exF.trans (same_upd hp), fun b o e => ?_, fun b o e => ?_, E.len, fun i v s e1 e2 => ?_, E.nd, E.tb.ext (same_upd hp), fun b ps e => ⟨(E.nt b ps (tb_upd hu b ps e)).1, by
    rw [upd_ne (fun z => by subst z; rw [upd_same] at e; exact hu ps (Option.some.inj e))]
    exact (E.nt b ps (tb_upd hu b ps e)).2⟩⟩
  · by_cases hb : b = p
    · subst hb; rw [upd_same] at e ⊢; exact e
    · rw [upd_ne hb] at e ⊢; exact E.exR b o e
  · rw [upd_ne (ne_of_none e f1)]
    exact E.dis b o e
  · have q := E.slot i v s e1 e2
    cases s with
    | no => cases v <;> exact trivial
    | sh d => cases v with | none => exact q | some v => exact q
    | raw d => cases v with | none => exact q | some v => exact q
    | own b o =>
      cases v with
      | none => exact q
      | some v =>
        obtain ⟨z1, z2, z3, w, z4, z5⟩ := q
        have hb : b ≠ p := fun z => by subst z; rw [hp] at z4; cases z4
        exact ⟨z1, z2, by rw [upd_ne hb]; exact z3, w, by rw [upd_ne hb]; exact z4, z5⟩
theorem EnvOk.chgR {us us' : List V} (E : EnvOk K Tb F (upd R p (.lst us)) H σ env) : EnvOk K Tb F (upd R p (.lst us')) (upd H p (.lst us')) σ env := by
  have hp : H p = some (.lst us) := E.exR p _ upd_same
  have fp : F p = none := by
    cases hF : F p with
    | none => rfl
    | some o => have := E.dis p o hF; rw [upd_same] at this; cases this
  refine ⟨fun b o e => ?_, fun b o e => ?_, fun b o e => ?_, E.len, fun i v s e1 e2 => ?_, E.nd, fun t ht => ?_, fun b ps e => ?_⟩
  · rw [upd_ne (ne_of_none e fp)]; exact E.exF b o e
  · by_cases hb : b = p
    · subst hb; rw [upd_same] at e ⊢; exact e
    · rw [upd_ne hb] at e ⊢; exact E.exR b o (by rw [upd_ne hb]; exact e)
  · have hb := ne_of_none e fp
    have := E.dis b o e
    rw [upd_ne hb] at this ⊢
    exact this
  · have q := E.slot i v s e1 e2
    cases s with
    | no => cases v <;> exact trivial
    | sh d => cases v with | none => exact q | some v => exact q
    | raw d => cases v with | none => exact q | some v => exact q
    | own b o =>
      cases v with
      | none => exact q
      | some v =>
        obtain ⟨z1, z2, z3, w, z4, z5⟩ := q
        have hb : b ≠ p := fun z => by subst z; rw [upd_same] at z3; cases z3
        rw [upd_ne hb] at z3
        exact ⟨z1, z2, by rw [upd_ne hb]; exact z3, w, by rw [upd_ne hb]; exact z4, z5⟩
  · obtain ⟨ps, t1, t2, t3⟩ := E.tb t ht
    refine ⟨ps, by rw [upd_ne (fun z => by rw [z, hp] at t1; cases t1)]; exact t1, t2, fun ps2 cv hc => ?_⟩
    obtain ⟨c, z1, z2⟩ := t3 ps2 cv hc
    exact ⟨c, z1, by rw [upd_ne (fun z => by rw [z, hp] at z2; unfold LamX.CodeO at z2; cases z2)]; exact z2⟩
  · have hb : b ≠ p := fun z => by subst z; rw [upd_same] at e; cases e
    rw [upd_ne hb] at e
    have := E.nt b ps e
    rw [upd_ne hb] at this ⊢
    exact this
theorem EnvOk.dropR {u : HO} (E : EnvOk K Tb F (upd R p u) H σ env) (hR : R p = none) : EnvOk K Tb F R H σ env ∧ F p = none ∧ p ∉ owns env ∧ H p = some u := by
  have fp : F p = none := by
    cases hF : F p with
    | none => rfl
    | some o => have := E.dis p o hF; rw [upd_same] at this; cases this
  refine ⟨⟨E.exF, fun b o e => ?_, fun b o e => ?_, E.len, fun i v s e1 e2 => ?_, E.nd, E.tb, fun b ps e => ⟨(E.nt b ps e).1, ?_⟩⟩, fp, fun z => ?_, E.exR p u upd_same⟩
  · exact E.exR b o (by rw [upd_ne (ne_of_none e hR)]; exact e)
  · have hb := ne_of_none e fp
    have := E.dis b o e
    rw [upd_ne hb] at this
    exact this
  · have q := E.slot i v s e1 e2
    cases s with
    | no => cases v <;> exact trivial
    | sh d => cases v with | none => exact q | some v => exact q
    | raw d => cases v with | none => exact q | some v => exact q
    | own b o =>
      cases v with
      | none => exact q
      | some v =>
        obtain ⟨z1, z2, z3, w, z4, z5⟩ := q
        have hb : b ≠ p := fun z => by subst z; rw [upd_same] at z3; cases z3
        rw [upd_ne hb] at z3
        exact ⟨z1, z2, z3, w, z4, z5⟩
  · have h1 := (E.nt b ps e).2
    by_cases hb : b = p
    · subst hb; exact hR
    · rw [upd_ne hb] at h1; exact h1
  · have := (E.own_fr z).2.1
    rw [upd_same] at this
    cases this
end

/-- the block's own names forgotten -/
def wipeE (env : List Sl) : List Nat → List Sl
  | [] => env
  | v :: vs => (wipeE env vs).set v .no
section
variable {K : PySem.W.Frag} {F R H : Hp} {σ : L2.St} {env : List Sl}
theorem wipeE_len : ∀ vs : List Nat, (wipeE env vs).length = env.length
  | [] => rfl
  | v :: vs => by
    show ((wipeE env vs).set v .no).length = _
    rw [List.length_set, wipeE_len vs]
theorem EnvOk.wipe (E : EnvOk K Tb F R H σ env) : ∀ vs : List Nat, EnvOk K Tb F R H (L2.wipe σ vs) (wipeE env vs)
  | [] => E
  | v :: vs => by
    have ih := EnvOk.wipe E vs
    refine ⟨ih.exF, ih.exR, ih.dis, by rw [L2.wipe_length, wipeE_len]; exact E.len, fun i w s e1 e2 => ?_, (owns_set_sub rfl).nodup ih.nd, ih.tb, ih.nt⟩
    have e1' : ((L2.wipe σ vs).set v none)[i]? = some w := e1
    have e2' : ((wipeE env vs).set v .no)[i]? = some s := e2
    by_cases hi : v = i
    · subst hi
      have hlt : v < (wipeE env vs).length := by
        have := (List.getElem?_eq_some_iff.mp e2').1
        simpa using this
      rw [List.getElem?_set_self hlt] at e2'
      cases e2'
      cases w <;> exact trivial
    · rw [List.getElem?_set_ne hi] at e1' e2'
      exact ih.slot i w s e1' e2'
theorem wipeE_no : ∀ {vs : List Nat} {i : Nat} {s : Sl}, i ∈ vs → (wipeE env vs)[i]? = some s → s = .no
  | [], _, _, h, _ => by cases h
  | v :: vs, i, s, h, e => by
    have e' : ((wipeE env vs).set v .no)[i]? = some s := e
    by_cases hi : v = i
    · subst hi
      have hlt : v < (wipeE env vs).length := by
        have := (List.getElem?_eq_some_iff.mp e').1
        simpa using this
      rw [List.getElem?_set_self hlt] at e'
      exact (Option.some.inj e').symm
    · rw [List.getElem?_set_ne hi] at e'
      rcases List.mem_cons.mp h with h | h
      · exact absurd h.symm hi
      · exact wipeE_no h e'
theorem wipe_get {i : Nat} : ∀ {vs : List Nat}, i ∉ vs → (L2.wipe σ vs)[i]? = σ[i]?
  | [], _ => rfl
  | v :: vs, h => by
    show ((L2.wipe σ vs).set v none)[i]? = _
    rw [List.getElem?_set_ne (fun z => h (by rw [z]; exact List.mem_cons_self)), wipe_get fun z => h (List.mem_cons_of_mem _ z)]
theorem EnvOk.unwipe {vs : List Nat} {env0 : List Sl} (E : EnvOk K Tb F R H (L2.wipe σ vs) (wipeE env0 vs)) : EnvOk K Tb F R H σ (wipeE env0 vs) where
  tb := E.tb
  nt := E.nt
  exF := E.exF
  exR := E.exR
  dis := E.dis
  len := by rw [← L2.wipe_length σ vs]; exact E.len
  nd := E.nd
  slot := fun i w s e1 e2 => by
    by_cases hi : i ∈ vs
    · have := wipeE_no hi e2
      subst this
      cases w <;> exact trivial
    · exact E.slot i w s (by rw [wipe_get hi]; exact e1) e2
end

def WTs (Γ : Gm) (ifs : List Expr) (σ : L2.St) (H : Hp) (Q : Bool → Hp → Prop) : Prop := ∃ t : TT, (∀ X, Good Γ X → PTs X ifs t) ∧ t σ H Q
theorem WTs.pts {X : Cx} (g : Good Γ X) : PTs X es (WTs Γ es) := ⟨fun pins s σ H Q I ⟨t, p, q⟩ => (p X g).run pins s σ H Q I q⟩
structure ETs (Γ : Gm) (ifs : List Expr) (env : List Sl) (Q : Bool → List Sl → Prop) : Prop where
  run : ∀ (F R H : Hp) (σ : L2.St) (P : Bool → Hp → Prop), EnvOk Γ.K Γ.Tb F R H σ env → WOk Γ F R → (∀ (b : Bool) (env' : List Sl) (F' H' : Hp), Q b env' → Same F F' → EnvOk Γ.K Γ.Tb F' R H' σ env' → P b H') → WTs Γ ifs σ H P
theorem ets_nil (q : QB true env) : ETs Γ [] env QB := .mk fun F R H σ P E w k => ⟨tYes, fun X g => pts_nil, k true env F H q (Same.refl F) E⟩
theorem ets_one (h : ET Γ c env QB) : ETs Γ [c] env QB := .mk fun F R H σ P E w k => ⟨WT Γ c, fun X g => pts_one (WT.pt g), h.run F R H σ P E w k⟩

/-- [elt for tg in iter if ..]: I tells, behind i items, what was put and the slots; js: the block's own slots -/
theorem ex_lc {ifs : List Expr} {scope : Scope} (own : List (Str × Nat)) (I : Nat → List PD → List Sl → Prop)
    (h : IT Γ tg iter env fun ds e1 => ds.length ≤ 100000 ∧ I 0 [] (wipeE e1 (own.map (·.2))) ∧
      (∀ i acc e d, acc.length ≤ i → I i acc e → ds[i]? = some d → TG1 (Γ.blk scope) tg (own.map (·.2)) e d fun e2 => ETs (Γ.blk scope) ifs e2 fun t e3 =>
        if t = true then EV (Γ.blk scope) elt e3 fun y e4 => I (i + 1) (acc ++ [y]) (wipeE e4 (own.map (·.2))) else I (i + 1) acc (wipeE e3 (own.map (·.2)))) ∧
      ∀ acc e, acc.length ≤ ds.length → I ds.length acc e → ∀ p, p ∉ owns e → QX (Sl.own p (.lst acc)) e)
    (hN : Γ.N.Nodup) (ok : blkC Γ.N Γ.sc scope own = true) (hs : ∀ (env : Env) x, foldedSetIterable iter env x = pure x := by intro _ _; rfl) :
    EX Γ (.ListComp elt [⟨tg, iter, ifs, 0⟩] scope pos) env QX := .mk fun F R H σ P E w k =>
  ⟨tLc (WI Γ tg iter) (WG (Γ.blk scope) tg) (WTs (Γ.blk scope) ifs) (WE (Γ.blk scope) elt) (own.map (·.2)), fun X g =>
    pe_lc g.calm (by rw [g.N]; exact hN) (WI.pi g) (blkOk_by (by rw [g.N, g.sc]; exact ok)) (fun _ _ _ _ _ => WG.pg (good_blk g)) (fun _ _ _ _ _ => WTs.pts (good_blk g)) (fun _ _ _ _ _ => WE.pe (good_blk g)) (hs _),
  h.run F R H σ _ E w fun ds e1 J F1 H1 q s1 E1 wk Dl hD => by
    obtain ⟨hlen, q0, qs, qe⟩ := q
    let vs := own.map (·.2)
    obtain ⟨f1, f2, f3⟩ := E1.fresh hD
    refine ⟨fun i m H2 => m = ds.length - i ∧ i ≤ ds.length ∧ ∃ F2 e0 acc accV, Same F1 F2 ∧ EnvOk Γ.K Γ.Tb F2 (upd R Dl (.lst accV)) H2 (L2.wipe σ vs) (wipeE e0 vs) ∧ RepL Γ.K F2 acc accV ∧ acc.length ≤ i ∧ I i acc (wipeE e0 vs),
      ⟨ds.length, by omega, Nat.zero_le _, F1, e1, [], [], Same.refl F1, (E1.addR hD _).wipe vs, rfl, Nat.le_refl _, q0⟩, ?_⟩
    rintro i m H2 ⟨rfl, hi, F2, e0, acc, accV, s2, E2, rA, hacc, qi⟩
    obtain ⟨wstop, wgo⟩ := wk F2 _ H2 _ _ E2 s2 i
    by_cases hlt : i < ds.length
    · refine .inr ?_
      obtain ⟨g1, g2⟩ := wgo ds[i] (List.getElem?_eq_getElem hlt)
      refine ⟨g1, fun H' => ∃ F3 e3 acc' accV', Same F2 F3 ∧ EnvOk Γ.K Γ.Tb F3 (upd R Dl (.lst accV')) H' (L2.wipe σ vs) (wipeE e3 vs) ∧ RepL Γ.K F3 acc' accV' ∧ acc'.length ≤ i + 1 ∧ I (i + 1) acc' (wipeE e3 vs),
        fun H' ⟨F3, e3, acc', accV', s3, E3, r3, l3, q3⟩ => ⟨ds.length - (i + 1), by omega, rfl, hlt, F3, e3, acc', accV', s2.trans s3, E3, r3, l3, q3⟩, fun x H3 y => ?_⟩
      obtain ⟨F3, s3, E3, r3⟩ := g2 x H3 y
      refine (qs i acc _ ds[i] hacc qi (List.getElem?_eq_getElem hlt)).run F3 _ H3 (L2.wipe σ vs) x _ E3 r3 fun σ4 e4 q4 b4 E4 => ⟨?_, ?_⟩
      · rw [b4 vs fun j hj => hj]
        have key : ∀ ws : List Nat, L2.wipe (L2.wipe σ ws) ws = L2.wipe σ ws := by
          intro ws
          apply List.ext_getElem?
          intro n
          by_cases hn : n ∈ ws
          · have h1 : ∀ τ : L2.St, ∀ ws : List Nat, n ∈ ws → (L2.wipe τ ws)[n]? = if n < τ.length then some none else none := by
              intro τ ws
              induction ws with
              | nil => intro h; cases h
              | cons v r ih =>
                intro h
                show ((L2.wipe τ r).set v none)[n]? = _
                by_cases hv : v = n
                · subst hv
                  rw [List.getElem?_set]
                  simp only [if_true, L2.wipe_length]
                · rw [List.getElem?_set_ne hv]
                  rcases List.mem_cons.mp h with h | h
                  · exact absurd h.symm hv
                  · exact ih h
            rw [h1 _ ws hn, h1 _ ws hn, L2.wipe_length]
          · rw [wipe_get hn]
        exact key vs
      · refine q4.run F3 _ H3 σ4 _ E4 wok_blk fun t e5 F5 H5 q5 s5 E5 => ?_
        have hw4 : L2.wipe σ4 vs = L2.wipe σ vs := by
          rw [b4 vs fun j hj => hj]
          have key : ∀ ws : List Nat, L2.wipe (L2.wipe σ ws) ws = L2.wipe σ ws := by
            intro ws
            apply List.ext_getElem?
            intro n
            by_cases hn : n ∈ ws
            · have h1 : ∀ τ : L2.St, ∀ ws : List Nat, n ∈ ws → (L2.wipe τ ws)[n]? = if n < τ.length then some none else none := by
                intro τ ws
                induction ws with
                | nil => intro h; cases h
                | cons v r ih =>
                  intro h
                  show ((L2.wipe τ r).set v none)[n]? = _
                  by_cases hv : v = n
                  · subst hv
                    rw [List.getElem?_set]
                    simp only [if_true, L2.wipe_length]
                  · rw [List.getElem?_set_ne hv]
                    rcases List.mem_cons.mp h with h | h
                    · exact absurd h.symm hv
                    · exact ih h
              rw [h1 _ ws hn, h1 _ ws hn, L2.wipe_length]
            · rw [wipe_get hn]
          exact key vs
        cases t with
        | true =>
          refine q5.run F5 _ H5 σ4 _ E5 wok_blk fun yd e6 yv F6 H6 q6 s6 E6 r6 => ?_
          refine ⟨accV, E6.exR Dl _ upd_same, ?_, F6, e6, acc ++ [yd], accV ++ [yv], (s3.trans s5).trans s6, ?_, (rA.mono ((s3.trans s5).trans s6)).append (RepL.one r6), ?_, q6⟩
          · rw [rA.length]
            exact Nat.lt_of_lt_of_le (Nat.lt_of_le_of_lt hacc (Nat.lt_of_lt_of_le hlt hlen)) (by decide)
          · have := (E6.chgR (us' := accV ++ [yv])).wipe vs
            rw [hw4] at this
            exact this
          · rw [List.length_append]
            show acc.length + 1 ≤ i + 1
            omega
        | false =>
          refine ⟨F5, e5, acc, accV, s3.trans s5, ?_, rA.mono (s3.trans s5), by omega, q5⟩
          have := E5.wipe vs
          rw [hw4] at this
          exact this
    · have he : i = ds.length := by omega
      subst he
      obtain ⟨E3, z1, z2, z3⟩ := E2.dropR f2
      refine .inl ⟨wstop (Nat.le_refl _), k _ _ _ F2 H2 (qe acc _ hacc qi Dl z2) (s1.trans s2) E3.unwipe ⟨rfl, z1, f2, z2, _, z3, accV, rfl, rA⟩⟩⟩
end Dw

/-! Dw8: what is built in, over data. -/
namespace Dw
open PySem PySem.Spec PyProof.Rows L2
variable {Tb : List (Addr × Str)}
variable {Γ : Gm} {env : List Sl} {Q : PD → List Sl → Prop} {QX : RS → List Sl → Prop} {QB : Bool → List Sl → Prop} {D : EndsD} {a b c e : Expr} {es : List Expr} {pos : Pos}

/-! ### data that is of one kind -/
theorem rep_int {K : PySem.W.Frag} {H : Hp} {i : Int} {v : V} (h : Rep K H (.int i) v) : v = .int i := h
/-- the type's name -/
def tyN : PD → String
  | .none => "NoneType"
  | .bool _ => "bool"
  | .int _ => "int"
  | .str _ => "str"
  | .list _ => "list"
  | .tuple _ => "tuple"
  | .dict _ => "dict"
theorem rep_ty {K : PySem.W.Frag} {F H : Hp} (sF : Same F H) : ∀ {d : PD} {v : V}, Rep K F d v → TyX K H v (.type (tyN d))
  | .none, _, h => by rw [show _ = V.non from h]; exact .base .non
  | .bool x, _, h => by rw [show _ = V.bl x from h]; exact .base (.bl x)
  | .int x, _, h => by rw [show _ = V.int x from h]; exact .base (.int x)
  | .str x, _, h => by rw [show _ = V.str x from h]; exact .base (.str x)
  | .list xs, _, ⟨p, vs, e, h, _⟩ => by
    subst e
    rcases h with h | ⟨o, h⟩
    · exact .base (.lst (sF _ _ h))
    · exact .base (.frz (sF _ _ h))
  | .tuple xs, _, ⟨p, vs, e, h, _⟩ => by
    subst e
    rcases h with (h | ⟨o, h⟩) | ⟨o, its, n, h1, h2, _⟩
    · exact .base (.tup (sF _ _ h))
    · exact .fTuple (sF _ _ h)
    · exact .kTuple h1 h2
  | .dict xs, _, ⟨p, vs, e, h, _⟩ => by
    subst e
    rcases h with h | ⟨o, h⟩
    · exact .base (.dK (sF _ _ h))
    · exact .fDict (sF _ _ h)
/-- isinstance(d, T) of the built-in types that are used -/
def isTyN (s T : String) : Bool := (s == T) || (T == "int" && s == "bool")
def isTy (T : String) (d : PD) : Bool := isTyN (tyN d) T
theorem kitB_all : ∀ T ∈ ["int", "bool", "str", "list", "tuple", "dict"], ∀ s ∈ ["NoneType", "bool", "int", "str", "list", "tuple", "dict"], kitB s T = some (isTyN s T) := by decide +kernel
theorem kitB_of (T : String) (hT : T ∈ ["int", "bool", "str", "list", "tuple", "dict"]) (d : PD) : kitB (tyN d) T = some (isTy T d) :=
  kitB_all T hT (tyN d) (by cases d <;> simp [tyN])
def anyTy (Ts : List String) (d : PD) : Bool := Ts.any fun T => isTy T d
theorem kitAny_of {K : PySem.W.Frag} (d : PD) : ∀ Ts : List String, (∀ T ∈ Ts, T ∈ ["int", "bool", "str", "list", "tuple", "dict"]) → PySem.W.kitAny K (.type (tyN d)) (Ts.map Value.type) = some (anyTy Ts d)
  | [], _ => rfl
  | T :: Ts, h => by
    have h1 := kit_ty (K := K) (kitB_of T (h T List.mem_cons_self) d)
    have h2 := kitAny_of (K := K) d Ts fun T hT => h T (List.mem_cons_of_mem _ hT)
    show PySem.W.kitAny K _ (Value.type T :: Ts.map Value.type) = some (isTy T d || anyTy Ts d)
    refine kitAny_cons h1 (fun hb => ?_) (fun hb => ?_)
    · rw [hb, Bool.false_or]; exact h2
    · rw [hb, Bool.true_or]

/-- a built-in type's name, not called -/
theorem pe_tyName {X : Cx} (g : Good Γ X) {T : Str} {n : String} (hg : Γ.sc.names.lookup T = some .globalImplicit) (hm : Γ.mg T = none) (hv : bootBuiltins T = some (.type n)) (hn : T ≠ "__name__" := by decide +kernel) (hd : (T == ("__debug__" : Str)) = false := by decide +kernel) : PE X (.Name T pos) (tC (.ty n)) :=
  pe_bltn (by unfold Gl Env.kindOf; rw [g.sc]; exact hg) (by rw [g.mg]; exact hm) hv rfl hn hd
/-- isinstance(e, T) -/
theorem ev_isi {T : Str} {n : String} {p p2 : Pos} (h : EV Γ e env fun d e1 => Q (.bool (isTy n d)) e1) (hT : n ∈ ["int", "bool", "str", "list", "tuple", "dict"])
    (hg : Γ.sc.names.lookup ("isinstance" : Str) = some .globalImplicit) (hm : Γ.mg ("isinstance" : Str) = none) (hgT : Γ.sc.names.lookup T = some .globalImplicit) (hmT : Γ.mg T = none) (hvT : bootBuiltins T = some (.type n)) (hnT : T ≠ "__name__" := by decide +kernel) (hdT : (T == ("__debug__" : Str)) = false := by decide +kernel)
    (he : NoStar e [.Name T p2] := by intro _; rfl) (he2 : NoStar (.Name T p2) [] := by intro _; rfl) (hpl : NoStarAny [.Name T p2] pos := by intro _; rfl) : EV Γ (.Call (.Name "isinstance" p) [e, .Name T p2] [] pos) env Q := .mk fun F R H σ P E w k =>
  ⟨tCB (rIsi Γ.K) (tCons (WE Γ e) (tCons (tC (.ty n)) tNil)), fun X g => pe_callB (by rw [← g.K]; exact call_isi) (by unfold Gl Env.kindOf; rw [g.sc]; exact hg) (by rw [g.mg]; exact hm) PyProof.Rows.boot_isinstance (pa_cons (WE.pe g) (pa_cons (pe_tyName g hgT hmT hvT hnT hdT) pa_nil (he2 _)) (he _)) (by decide) (by decide) (he _) (hpl _),
  h.run F R H σ _ E w fun d e1 v F1 H1 q s1 E1 r => ⟨v, .ty n, _, .type n, _, rfl, .ty n, rep_ty E1.exF r, kit_ty (kitB_of n hT d), k _ e1 _ F1 H1 q s1 E1 rfl⟩⟩
/-- isinstance(e, (T1, T2)) -/
theorem ev_isi2 {T1 T2 : Str} {n1 n2 : String} {p p2 p3 p4 : Pos} {kk : Nat} (h : EV Γ e env fun d e1 => Q (.bool (anyTy [n1, n2] d)) e1) (hT : ∀ T ∈ [n1, n2], T ∈ ["int", "bool", "str", "list", "tuple", "dict"])
    (hg : Γ.sc.names.lookup ("isinstance" : Str) = some .globalImplicit) (hm : Γ.mg ("isinstance" : Str) = none) (hgT : Γ.sc.names.lookup T1 = some .globalImplicit) (hmT : Γ.mg T1 = none) (hvT : bootBuiltins T1 = some (.type n1)) (hgT2 : Γ.sc.names.lookup T2 = some .globalImplicit) (hmT2 : Γ.mg T2 = none) (hvT2 : bootBuiltins T2 = some (.type n2))
    (hnT : T1 ≠ "__name__" := by decide +kernel) (hdT : (T1 == ("__debug__" : Str)) = false := by decide +kernel) (hnT2 : T2 ≠ "__name__" := by decide +kernel) (hdT2 : (T2 == ("__debug__" : Str)) = false := by decide +kernel)
    (he : NoStar e [.Tuple [.Name T1 p2, .Name T2 p3] kk p4] := by intro _; rfl) (he2 : NoStar (.Tuple [.Name T1 p2, .Name T2 p3] kk p4) [] := by intro _; rfl) (he3 : NoStar (.Name T1 p2) [.Name T2 p3] := by intro _; rfl) (he4 : NoStar (.Name T2 p3) [] := by intro _; rfl) (hpl : NoStarAny [.Tuple [.Name T1 p2, .Name T2 p3] kk p4] pos := by intro _; rfl) :
    EV Γ (.Call (.Name "isinstance" p) [e, .Tuple [.Name T1 p2, .Name T2 p3] kk p4] [] pos) env Q := .mk fun F R H σ P E w k =>
  ⟨tCB (rIsiT Γ.K) (tCons (WE Γ e) (tCons (tTup (tCons (tC (.ty n1)) (tCons (tC (.ty n2)) tNil))) tNil)), fun X g => pe_callB (by rw [← g.K]; exact call_isiT) (by unfold Gl Env.kindOf; rw [g.sc]; exact hg) (by rw [g.mg]; exact hm) PyProof.Rows.boot_isinstance
    (pa_cons (WE.pe g) (pa_cons (pe_tup (pa_cons (pe_tyName g hgT hmT hvT hnT hdT) (pa_cons (pe_tyName g hgT2 hmT2 hvT2 hnT2 hdT2) pa_nil (he4 _)) (he3 _))) pa_nil (he2 _)) (he _)) (by decide) (by decide) (he _) (hpl _),
  h.run F R H σ _ E w fun d e1 v F1 H1 q s1 E1 r => ⟨by show 2 ≤ sizeLine; decide, fun t ht => ⟨v, t, _, _, _, _, rfl, upd_same, .cons (.ty n1) (.cons (.ty n2) .nil), rep_ty (E1.exF.trans (same_upd ht)) r, kitAny_of d [n1, n2] hT, k _ e1 _ F1 _ q s1 (E1.growU ht noTb_tup) rfl⟩⟩⟩

/-! ### operators -/
theorem opD_of {f : Value → Value → Sem Value} {da db d : PD} {r : R2} (ho : OpF Γ f r) (h : ∀ (F H : Hp) (x y : V) (P : VK), Same F H → Rep Γ.K F da x → Rep Γ.K F db y → (∀ v, Rep Γ.K F d v → P v H) → r x y H P) : OpD Γ f da db (· = .sh d) :=
  fun F R H σ env x y P E rx ry k => ⟨r, ho, h F H x y P E.exF rx ry fun v rv => k (.sh d) v F H rfl (Same.refl F) E rv⟩
theorem binD_of {op : Operator} {da db d : PD} {r : R2} (ho : OpF Γ (binaryOp op) r) (h : ∀ (F H : Hp) (x y : V) (P : VK), Same F H → Rep Γ.K F da x → Rep Γ.K F db y → (∀ v, Rep Γ.K F d v → P v H) → r x y H P) : BinD Γ op da db (· = .sh d) := ⟨opD_of ho h⟩
theorem cmpD_of {op : CmpOp} {da db d : PD} {r : R2} (ho : OpF Γ (compareOp op) r) (h : ∀ (F H : Hp) (x y : V) (P : VK), Same F H → Rep Γ.K F da x → Rep Γ.K F db y → (∀ v, Rep Γ.K F d v → P v H) → r x y H P) : CmpD Γ op da db (· = .sh d) := ⟨opD_of ho h⟩
theorem od_add {i j : Int} : BinD Γ .Add (.int i) (.int j) (· = .sh (.int (i + j))) := binD_of (fun X g => op_add) fun F H x y P _ rx ry k => ⟨i, j, rx, ry, k _ rfl⟩
theorem od_sub {i j : Int} : BinD Γ .Sub (.int i) (.int j) (· = .sh (.int (i - j))) := binD_of (fun X g => op_sub) fun F H x y P _ rx ry k => ⟨i, j, rx, ry, k _ rfl⟩
theorem od_mul {i j : Int} (h : CMul i j) : BinD Γ .Mult (.int i) (.int j) (· = .sh (.int (i * j))) := binD_of (fun X g => op_mul) fun F H x y P _ rx ry k => ⟨i, j, rx, ry, h, k _ rfl⟩
theorem od_fdiv {i j : Int} (h : CDivN i j) : BinD Γ .FloorDiv (.int i) (.int j) (· = .sh (.int (i.fdiv j))) := binD_of (fun X g => op_fdivN) fun F H x y P _ rx ry k => ⟨i, j, rx, ry, h, k _ rfl⟩
theorem od_fdivW {i j : Int} (h : CDivW i j) : BinD Γ .FloorDiv (.int i) (.int j) (· = .sh (.int (i / j))) := binD_of (fun X g => op_fdivW) fun F H x y P _ rx ry k => ⟨i, j, rx, ry, h, k _ rfl⟩
theorem od_mod {i j : Int} (h : j ≠ 0) : BinD Γ .Mod (.int i) (.int j) (· = .sh (.int (i.fmod j))) := binD_of (fun X g => op_modN) fun F H x y P _ rx ry k => ⟨i, j, rx, ry, h, k _ rfl⟩
theorem od_pow {i j : Int} (h : CPow i j) : BinD Γ .Pow (.int i) (.int j) (· = .sh (.int (i ^ j.toNat))) := binD_of (fun X g => op_pow) fun F H x y P _ rx ry k => ⟨i, j, rx, ry, h, k _ rfl⟩
theorem od_addS {i j : Str} (h : i.length + j.length ≤ 100000) : BinD Γ .Add (.str i) (.str j) (· = .sh (.str (i ++ j))) := binD_of (fun X g => op_add_str) fun F H x y P _ rx ry k => ⟨i, j, rx, ry, sz5 h, k _ rfl⟩
theorem od_lt {i j : Int} : CmpD Γ .Lt (.int i) (.int j) (· = .sh (.bool (decide (i < j)))) := cmpD_of (fun X g => op_lt) fun F H x y P _ rx ry k => ⟨i, j, rx, ry, k _ rfl⟩
theorem od_le {i j : Int} : CmpD Γ .LtE (.int i) (.int j) (· = .sh (.bool (decide (i ≤ j)))) := cmpD_of (fun X g => op_le) fun F H x y P _ rx ry k => ⟨i, j, rx, ry, k _ rfl⟩
theorem od_gt {i j : Int} : CmpD Γ .Gt (.int i) (.int j) (· = .sh (.bool (decide (j < i)))) := cmpD_of (fun X g => op_gt) fun F H x y P _ rx ry k => ⟨i, j, rx, ry, k _ rfl⟩
theorem od_ge {i j : Int} : CmpD Γ .GtE (.int i) (.int j) (· = .sh (.bool (decide (j ≤ i)))) := cmpD_of (fun X g => op_ge) fun F H x y P _ rx ry k => ⟨i, j, rx, ry, k _ rfl⟩
/-- the flat value of flat data -/
def flatP : PD → Option V
  | .none => some .non
  | .bool b => some (.bl b)
  | .int i => some (.int i)
  | .str x => some (.str x)
  | _ => none
theorem rep_flat {K : PySem.W.Frag} {H : Hp} {d : PD} {v u : V} (h : Rep K H d v) (e : flatP d = some u) : v = u := by
  cases d with
  | none => rw [show u = V.non from (Option.some.inj e).symm]; exact h
  | bool x => rw [show u = V.bl x from (Option.some.inj e).symm]; exact h
  | int x => rw [show u = V.int x from (Option.some.inj e).symm]; exact h
  | str x => rw [show u = V.str x from (Option.some.inj e).symm]; exact h
  | list _ => exact absurd e (by simp [flatP])
  | tuple _ => exact absurd e (by simp [flatP])
  | dict _ => exact absurd e (by simp [flatP])
theorem od_eq {da db : PD} {x y : V} (hx : flatP da = some x) (hy : flatP db = some y) (hs : scal x y = true) : CmpD Γ .Eq da db (· = .sh (.bool (decide (x = y)))) := cmpD_of (fun X g => op_eq) fun F H x' y' P _ rx ry k => by
  rw [rep_flat rx hx, rep_flat ry hy]
  exact ⟨hs, k _ rfl⟩
theorem od_ne {da db : PD} {x y : V} (hx : flatP da = some x) (hy : flatP db = some y) (hs : scal x y = true) : CmpD Γ .NotEq da db (· = .sh (.bool (!decide (x = y)))) := cmpD_of (fun X g => op_ne) fun F H x' y' P _ rx ry k => by
  rw [rep_flat rx hx, rep_flat ry hy]
  exact ⟨hs, k _ rfl⟩
theorem od_eqS {x y : Str} : CmpD Γ .Eq (.str x) (.str y) (· = .sh (.bool (decide (x = y)))) := by
  have h := od_eq (Γ := Γ) (da := .str x) (db := .str y) rfl rfl rfl
  have e : decide (V.str x = V.str y) = decide (x = y) := by simp
  rw [e] at h
  exact h
theorem od_neS {x y : Str} : CmpD Γ .NotEq (.str x) (.str y) (· = .sh (.bool (!decide (x = y)))) := by
  have h := od_ne (Γ := Γ) (da := .str x) (db := .str y) rfl rfl rfl
  have e : decide (V.str x = V.str y) = decide (x = y) := by simp
  rw [e] at h
  exact h
theorem od_eqI {x y : Int} : CmpD Γ .Eq (.int x) (.int y) (· = .sh (.bool (decide (x = y)))) := by
  have h := od_eq (Γ := Γ) (da := .int x) (db := .int y) rfl rfl rfl
  have e : decide (V.int x = V.int y) = decide (x = y) := by simp
  rw [e] at h
  exact h
theorem od_eqB {x y : Bool} : CmpD Γ .Eq (.bool x) (.bool y) (· = .sh (.bool (decide (x = y)))) := by
  have h := od_eq (Γ := Γ) (da := .bool x) (db := .bool y) rfl rfl rfl
  have e : decide (V.bl x = V.bl y) = decide (x = y) := by simp
  rw [e] at h
  exact h
theorem od_neB {x y : Bool} : CmpD Γ .NotEq (.bool x) (.bool y) (· = .sh (.bool (!decide (x = y)))) := by
  have h := od_ne (Γ := Γ) (da := .bool x) (db := .bool y) rfl rfl rfl
  have e : decide (V.bl x = V.bl y) = decide (x = y) := by simp
  rw [e] at h
  exact h
def isNone : PD → Bool
  | .none => true
  | _ => false
theorem rep_none {K : PySem.W.Frag} {H : Hp} : ∀ {d : PD} {v : V}, Rep K H d v → decide (v = .non) = isNone d
  | .none, _, h => by rw [show _ = V.non from h]; rfl
  | .bool _, _, h => by rw [show _ = V.bl _ from h]; rfl
  | .int _, _, h => by rw [show _ = V.int _ from h]; rfl
  | .str _, _, h => by rw [show _ = V.str _ from h]; rfl
  | .list _, _, ⟨_, _, e, _⟩ => by rw [e]; rfl
  | .tuple _, _, ⟨_, _, e, _⟩ => by rw [e]; rfl
  | .dict _, _, ⟨_, _, e, _⟩ => by rw [e]; rfl
theorem od_isN {d : PD} : CmpD Γ .Is d .none (· = .sh (.bool (isNone d))) := cmpD_of (fun X g => op_isN) fun F H x y P _ rx ry k => ⟨ry, by rw [rep_none rx]; exact k _ rfl⟩
theorem od_notN {d : PD} : CmpD Γ .IsNot d .none (· = .sh (.bool (!isNone d))) := cmpD_of (fun X g => op_notN) fun F H x y P _ rx ry k => ⟨ry, by rw [rep_none rx]; exact k _ rfl⟩
/-- one sign in a text -/
theorem od_inSign {c : Nat} {z : Str} : CmpD Γ .In (.str ⟨#[c]⟩) (.str z) (· = .sh (.bool (decide (c ∈ z.cps.toList)))) := cmpD_of (fun X g => op_in_sign) fun F H x y P _ rx ry k => ⟨c, z, rx, ry, k _ rfl⟩
theorem od_notInSign {c : Nat} {z : Str} : CmpD Γ .NotIn (.str ⟨#[c]⟩) (.str z) (· = .sh (.bool (!decide (c ∈ z.cps.toList)))) := cmpD_of (fun X g => op_notIn_sign) fun F H x y P _ rx ry k => ⟨c, z, rx, ry, k _ rfl⟩
/-- a text in a tuple or list of texts -/
def inStrs (x : Str) (zs : List Str) : Bool := zs.any fun z => decide (z = x)
theorem repL_strs {K : PySem.W.Frag} {H : Hp} : ∀ {zs : List Str} {vs : List V}, RepL K H (zs.map PyData.str) vs → vs = zs.map V.str
  | [], _, h => h
  | z :: zs, _, ⟨v, r, e, e1, e2⟩ => by rw [e, show v = V.str z from e1, repL_strs e2]; rfl
theorem repL_ints {K : PySem.W.Frag} {H : Hp} : ∀ {zs : List Int} {vs : List V}, RepL K H (zs.map PyData.int) vs → vs = zs.map V.int
  | [], _, h => h
  | z :: zs, _, ⟨v, r, e, e1, e2⟩ => by rw [e, show v = V.int z from e1, repL_ints e2]; rfl
theorem repL_bools {K : PySem.W.Frag} {H : Hp} : ∀ {zs : List Bool} {vs : List V}, RepL K H (zs.map PyData.bool) vs → vs = zs.map V.bl
  | [], _, h => h
  | z :: zs, _, ⟨v, r, e, e1, e2⟩ => by rw [e, show v = V.bl z from e1, repL_bools e2]; rfl
theorem inV_strs (x : Str) (zs : List Str) : inV (.str x) (zs.map V.str) = inStrs x zs := by
  unfold inV inStrs
  rw [List.any_map]
  rfl
theorem flat_strs (zs : List Str) : (zs.map V.str).all flatV = true := by
  rw [List.all_map, List.all_eq_true]
  intro _ _
  rfl
theorem od_inT {x : Str} {zs : List Str} : CmpD Γ .In (.str x) (.tuple (zs.map .str)) (· = .sh (.bool (inStrs x zs))) := cmpD_of (r := rIn Γ.K false) (fun X g => by
    have h := @op_in_seq X
    rw [g.K] at h
    exact h) fun F H x' y P sF rx ry k => by
  obtain ⟨p, vs, rfl, h1, h2⟩ := ry
  rw [repL_strs h2] at h1
  rw [show x' = V.str x from rx]
  refine ⟨p, _, rfl, .inr (Same.sqt sF h1), rfl, flat_strs zs, ?_⟩
  rw [inV_strs]
  exact k _ rfl
end Dw

/-! Dw9: defs that hand back a function of their data. -/
namespace Dw
open PySem PySem.Spec PyProof.Rows L2
variable {Tb : List (Addr × Str)}
variable {Γ : Gm} {env : List Sl} {Q : PD → List Sl → Prop} {QX : RS → List Sl → Prop} {QB : Bool → List Sl → Prop} {D : EndsD} {a b c e : Expr} {es : List Expr} {pos : Pos}

/-- n data in, under C, the datum m of them out -/
def PureN (n : Nat) (C : List PD → Prop) (m : List PD → PD) : TD := fun as Qd _ => ∃ ds : List PD, as = ds.map Sl.sh ∧ ds.length = n ∧ C ds ∧ Qd (.sh (m ds)) as
theorem eas_evs {Qa : List Arg → List Sl → Prop} : ∀ {es : List Expr} {env : List Sl}, EVs Γ es env (fun ds e1 => Qa (ds.map Arg.sh) e1) → EAs Γ es env Qa := fun {es env} h => .mk fun F R H σ P E w k =>
  h.run F R H σ P E w fun ds e1 vs F1 H1 q s1 E1 r => k _ e1 vs F1 H1 q s1 E1 (by
    have : ∀ {ds : List PD} {vs : List V}, RepL Γ.K F1 ds vs → ArgsOk Γ.K F1 e1 vs (ds.map Arg.sh) := by
      intro ds
      induction ds with
      | nil => intro vs h; exact h
      | cons d ds ih =>
        intro vs h
        obtain ⟨v, r, e, h1, h2⟩ := h
        exact ⟨v, r, e, h1, ih h2⟩
    exact this r)
theorem lends_sh : ∀ ds : List PD, lends (ds.map Arg.sh) = []
  | [] => rfl
  | d :: ds => lends_sh ds
theorem map_sl : ∀ ds : List PD, (ds.map Arg.sh).map Arg.sl = ds.map Sl.sh
  | [] => rfl
  | d :: ds => by
    show Sl.sh d :: _ = Sl.sh d :: _
    rw [map_sl ds]
theorem back_sh : ∀ ds : List PD, Back (ds.map Arg.sh) (ds.map Sl.sh)
  | [] => rfl
  | d :: ds => ⟨.sh d, ds.map Sl.sh, rfl, (fun _ _ _ e => by cases e), back_sh ds⟩
theorem putBack_sh : ∀ (ds : List PD) (env ss : List Sl), putBack env (ds.map Arg.sh) ss = env
  | [], env, ss => by cases ss <;> rfl
  | d :: ds, env, [] => rfl
  | d :: ds, env, s :: ss => putBack_sh ds env ss
/-- a call of such a def -/
theorem ev_callP {x : Str} {f : Addr} {fd : FuncData} {ps : List Str} {j n : Nat} {C : List PD → Prop} {m : List PD → PD} {p : Pos} (G : FnG Γ.G j f fd ps (SpD Γ.K Γ.Tb (PureN n C m))) (hj : j ≤ Γ.k)
    (h : EVs Γ (e :: es) env fun ds e1 => ds.length = n ∧ C ds ∧ Q (m ds) e1)
    (hg : Γ.sc.names.lookup x = some .globalImplicit) (hm : Γ.mg x = some (.ref f)) (hk : PySem.W.keepIn Γ.K (.ref f) = true) (hb : Binds Γ.K fd ps []) (hdb : (x == ("__debug__" : Str)) = false := by decide +kernel)
    (he : NoStar e es := by intro _; rfl) (hpl : NoStarAny es pos := by intro _; rfl) : EV Γ (.Call (.Name x p) (e :: es) [] pos) env Q :=
  ev_ex (ex_call G hj (eas_evs (.mk fun F R H σ P E w k => h.run F R H σ P E w fun ds e1 vs F1 H1 q s1 E1 r => k ds e1 vs F1 H1 ⟨by rw [lends_sh]; exact List.nodup_nil, by
    rw [map_sl]
    refine ⟨ds, rfl, q.1, q.2.1, back_sh ds, m ds, rfl, ?_⟩
    rw [putBack_sh]
    exact q.2.2⟩ s1 E1 r)) hg hm hk hb hdb he hpl)
theorem left_sh : ∀ (ds : List PD) (env : List Sl), Left (ds.map Sl.sh) env (ds.map Sl.sh)
  | [], _ => rfl
  | d :: ds, env => ⟨.sh d, ds.map Sl.sh, rfl, rfl, left_sh ds env.tail⟩
/-- such a def -/
theorem fn_pure {G : Pg} {x qual : Str} {stm : Stmt} {f : Addr} {fd : FuncData} {N ps : List Str} {k n : Nat} {C : List PD → Prop} {m : List PD → PD} (F : Fun G.K x qual stm f fd) (S : FnScope N ps (defScope stm)) (hn : n = ps.length)
    (body : ∀ (W : WX) (Z : ED) (ds : List PD), ds.length = n → C ds → SDs ⟨N, defScope stm, G, fd.code, qual ++ ".<locals>.", k, W, Z, Loc (defScope stm)⟩ (defBody stm) (ds.map Sl.sh ++ padN N ps)
      { nx := fun _ => m ds = .none, rt := fun r _ => r.pd? = some (m ds) }) : FnG G (k + 1) f fd ps (SpD G.K G.Tb (PureN n C m)) :=
  fn_ok F S (fun as Qd Ed ⟨ds, e, hl, _⟩ => by rw [e, List.length_map, hl, hn]) fun W as Qd Ed ⟨ds, e, hl, hC, q⟩ => by
    subst e
    refine .mk fun F R H σ E o wk kk => ?_
    refine (body W _ ds hl hC).run F R H σ E o wk ⟨fun env' σ' F' H' z s o' => ?_, fun _ _ _ _ z => z.elim, fun _ _ _ _ z => z.elim, fun r env' σ' v F' H' z s o' ro => ?_⟩
    · refine kk.1 env' σ' F' H' ⟨_, left_sh ds env', ?_⟩ s o'
      rw [← z]
      exact q
    · cases r with
      | no => exact ro.elim
      | raw w => simp [Sl.pd?] at z
      | sh d =>
        have e : d = m ds := by simpa [Sl.pd?] using z
        subst e
        exact kk.2.2.2 _ env' σ' v F' H' ⟨_, left_sh ds env', q⟩ s o' ro
      | own p ob =>
        have e : ob.pd = m ds := by simpa [Sl.pd?] using z
        obtain ⟨rfl, f1, f2, f3, u, hu, ho⟩ := ro
        obtain ⟨o2, s2, r2⟩ := o'.freezeRes f1 f2 f3 hu ho
        rw [e] at r2
        exact kk.2.2.2 (.sh (m ds)) env' σ' _ _ H' ⟨_, left_sh ds env', q⟩ (s.trans s2) o2 r2
end Dw

/-! Dw10: built-in functions, items, methods of one's own lists. -/
namespace Dw
open PySem PySem.Spec PyProof.Rows L2
variable {Tb : List (Addr × Str)}
variable {Γ : Gm} {env : List Sl} {Q : PD → List Sl → Prop} {QX : RS → List Sl → Prop} {QB : Bool → List Sl → Prop} {D : EndsD} {a b c e : Expr} {es : List Expr} {pos : Pos}

/-! ### items -/
theorem repL_atI {K : PySem.W.Frag} {H : Hp} {ds : List PD} {vs : List V} {i : Int} {d : PD} (r : RepL K H ds vs) (h : atI ds i = some d) : ∃ v, atI vs i = some v ∧ Rep K H d v := by
  unfold atI at h ⊢
  rw [r.length]
  cases e : ixN ds.length i with
  | none => rw [e] at h; cases h
  | some j =>
    rw [e] at h
    exact r.get h
theorem ix_l {ds : List PD} {i : Int} {d : PD} (h : atI ds i = some d) : IxD Γ (.list ds) (.int i) d := .mk fun F R H σ env x y P E rx ry k => by
  obtain ⟨p, vs, rfl, h1, h2⟩ := rx
  obtain ⟨v, hv, rv⟩ := repL_atI h2 h
  refine ⟨rIxL Γ.K, fun X g => by rw [← g.K]; exact ix_list, p, vs, i, v, rfl, ry, seqR E.exF h1, hv, k v rv⟩
theorem ix_t {ds : List PD} {i : Int} {d : PD} (h : atI ds i = some d) : IxD Γ (.tuple ds) (.int i) d := .mk fun F R H σ env x y P E rx ry k => by
  obtain ⟨p, vs, rfl, h1, h2⟩ := rx
  obtain ⟨v, hv, rv⟩ := repL_atI h2 h
  refine ⟨rIxT Γ.K, fun X g => by rw [← g.K]; exact ix_tup, p, vs, i, v, rfl, ry, Same.sqt E.exF h1, hv, k v rv⟩
theorem ix_s {z : Str} {i : Int} {c : Nat} (hz : z.length ≤ 100000) (h : atI z.cps.toList i = some c) : IxD Γ (.str z) (.int i) (.str ⟨#[c]⟩) := .mk fun F R H σ env x y P E rx ry k =>
  ⟨rIxS, fun X g => ix_str, z, i, c, rx, ry, sz5 hz, h, k _ rfl⟩
/-- what a list or a tuple holds -/
def items : PD → Option (List PD)
  | .list ds => some ds
  | .tuple ds => some ds
  | _ => none
theorem ix_i {d0 : PD} {ds : List PD} {i : Int} {d : PD} (hd : items d0 = some ds) (h : atI ds i = some d) : IxD Γ d0 (.int i) d := by
  cases d0 with
  | list xs => cases hd; exact ix_l h
  | tuple xs => cases hd; exact ix_t h
  | none => cases hd
  | bool _ => cases hd
  | int _ => cases hd
  | str _ => cases hd
  | dict _ => cases hd

/-! ### calls -/
theorem callD_of {f : Value} {ds : List PD} {d : PD} {r : List V → Hp → VK → Prop} (ho : CallF Γ f r) (h : ∀ (F H : Hp) (vs : List V) (P : VK), Same F H → RepL Γ.K F ds vs → (∀ v, Rep Γ.K F d v → P v H) → r vs H P) : CallD Γ f ds (· = .sh d) :=
  .mk fun F R H σ env vs P E rs k => ⟨r, ho, h F H vs P E.exF rs fun v rv => k (.sh d) v F H rfl (Same.refl F) E rv⟩
theorem repL1 {K : PySem.W.Frag} {H : Hp} {d : PD} {vs : List V} (h : RepL K H [d] vs) : ∃ v, vs = [v] ∧ Rep K H d v := by
  obtain ⟨v, r, rfl, h1, h2⟩ := h
  exact ⟨v, by rw [show r = [] from h2], h1⟩
theorem cd_len {d : PD} {ds : List PD} (h : items d = some ds) : CallD Γ (.builtin "len") [d] (· = .sh (.int ds.length)) := callD_of (r := fun xs H Q => ∃ x n, xs = [x] ∧ LenV Γ.K x H n ∧ Q (.int n) H) (fun X g => by rw [← g.K]; exact call_len) fun F H vs P sF rs k => by
  obtain ⟨v, rfl, r⟩ := repL1 rs
  cases d with
  | list xs =>
    cases h
    obtain ⟨p, us, rfl, h1, h2⟩ := r
    exact ⟨_, us.length, rfl, .inl ⟨us, seqR sF h1, rfl⟩, by rw [h2.length]; exact k _ rfl⟩
  | tuple xs =>
    cases h
    obtain ⟨p, us, rfl, h1, h2⟩ := r
    exact ⟨_, us.length, rfl, .inr ⟨us, Same.sqt sF h1, rfl⟩, by rw [h2.length]; exact k _ rfl⟩
  | none => cases h
  | bool _ => cases h
  | int _ => cases h
  | str _ => cases h
  | dict _ => cases h
theorem cd_lenS {z : Str} (h : z.length ≤ 100000) : CallD Γ (.builtin "len") [.str z] (· = .sh (.int z.length)) := callD_of (r := fun xs H Q => ∃ x n, xs = [x] ∧ LenV Γ.K x H n ∧ Q (.int n) H) (fun X g => by rw [← g.K]; exact call_len) fun F H vs P sF rs k => by
  obtain ⟨v, rfl, r⟩ := repL1 rs
  rw [show v = V.str z from r]
  exact ⟨_, z.length, rfl, ⟨sz5 h, rfl⟩, k _ rfl⟩
theorem cd_abs {i : Int} : CallD Γ (.builtin "abs") [.int i] (· = .sh (.int (if i < 0 then -i else i))) := callD_of (fun X g => call_abs) fun F H vs P sF rs k => by
  obtain ⟨v, rfl, r⟩ := repL1 rs
  exact ⟨i, by rw [show v = V.int i from r], k _ rfl⟩
theorem cd_intI {i : Int} : CallD Γ (.type "int") [.int i] (· = .sh (.int i)) := callD_of (fun X g => call_int1) fun F H vs P sF rs k => by
  obtain ⟨v, rfl, r⟩ := repL1 rs
  exact .inl ⟨i, by rw [show v = V.int i from r], k _ rfl⟩
theorem cd_intB {x : Bool} : CallD Γ (.type "int") [.bool x] (· = .sh (.int (if x then 1 else 0))) := callD_of (fun X g => call_int1) fun F H vs P sF rs k => by
  obtain ⟨v, rfl, r⟩ := repL1 rs
  exact .inr ⟨x, by rw [show v = V.bl x from r], k _ rfl⟩
theorem cd_intS {z : Str} {n : Int} (h : PySem.intText? z = some n) (hz : z.length ≤ 640) : CallD Γ (.type "int") [.str z] (· = .sh (.int n)) := callD_of (fun X g => call_int_str) fun F H vs P sF rs k => by
  obtain ⟨v, rfl, r⟩ := repL1 rs
  exact ⟨z, n, by rw [show v = V.str z from r], h, hz, k _ rfl⟩
theorem cd_strI {i : Int} (h : i.natAbs.log2 < 1920) : CallD Γ (.type "str") [.int i] (· = .sh (.str (toString i))) := callD_of (fun X g => call_str_int) fun F H vs P sF rs k => by
  obtain ⟨v, rfl, r⟩ := repL1 rs
  exact ⟨i, by rw [show v = V.int i from r], h, k _ rfl⟩
theorem cd_all {bs : List Bool} : CallD Γ (.builtin "all") [.list (bs.map .bool)] (· = .sh (.bool (bs.all id))) := callD_of (r := rAll Γ.K) (fun X g => by rw [← g.K]; exact cr_all g.calm) fun F H vs P sF rs k => by
  obtain ⟨v, rfl, p, us, rfl, h1, h2⟩ := repL1 rs
  rw [repL_bools h2] at h1
  exact ⟨p, bs, rfl, seqR sF h1, k _ rfl⟩
theorem cd_any {bs : List Bool} : CallD Γ (.builtin "any") [.list (bs.map .bool)] (· = .sh (.bool (bs.any id))) := callD_of (r := rAny Γ.K) (fun X g => by rw [← g.K]; exact cr_any g.calm) fun F H vs P sF rs k => by
  obtain ⟨v, rfl, p, us, rfl, h1, h2⟩ := repL1 rs
  rw [repL_bools h2] at h1
  exact ⟨p, bs, rfl, seqR sF h1, k _ rfl⟩
theorem cd_sum {ns : List Int} : CallD Γ (.builtin "sum") [.list (ns.map .int)] (· = .sh (.int ns.sum)) := callD_of (r := rSum Γ.K) (fun X g => by rw [← g.K]; exact cr_sum g.calm) fun F H vs P sF rs k => by
  obtain ⟨v, rfl, p, us, rfl, h1, h2⟩ := repL1 rs
  rw [repL_ints h2] at h1
  exact ⟨p, ns, rfl, seqR sF h1, k _ rfl⟩
/-- list(x): a new one -/
theorem cd_list {d : PD} {ds : List PD} (h : items d = some ds) : CallD Γ (.type "list") [d] (fun r => ∃ p, r = Sl.own p (.lst ds)) := .mk fun F R H σ env vs P E rs k => by
  obtain ⟨v, rfl, r⟩ := repL1 rs
  refine ⟨fun xs H Q => ∃ p ys, xs = [.ref p] ∧ (SqL Γ.K H p ys ∨ SqT Γ.K H p ys) ∧ ∀ l, H l = none → Q (.ref l) (upd H l (.lst ys)), fun X g => by rw [← g.K]; exact call_list_of, ?_⟩
  have key : ∀ us : List V, RepL Γ.K F ds us → ∀ l, H l = none → P (.ref l) (upd H l (.lst us)) := fun us h2 l hl => by
    obtain ⟨f1, f2, f3⟩ := E.fresh hl
    exact k (Sl.own l (.lst ds)) _ F _ ⟨l, rfl⟩ (Same.refl F) (E.growU hl noTb_lst) ⟨rfl, f1, f2, f3, _, upd_same, us, rfl, h2⟩
  cases d with
  | list xs =>
    cases h
    obtain ⟨p, us, rfl, h1, h2⟩ := r
    exact ⟨p, us, rfl, .inl (seqR E.exF h1), key us h2⟩
  | tuple xs =>
    cases h
    obtain ⟨p, us, rfl, h1, h2⟩ := r
    exact ⟨p, us, rfl, .inr (Same.sqt E.exF h1), key us h2⟩
  | none => cases h
  | bool _ => cases h
  | int _ => cases h
  | str _ => cases h
  | dict _ => cases h
/-- tuple(x): a new one of a list, a tuple itself -/
theorem cd_tuple {d : PD} {ds : List PD} (h : items d = some ds) : CallD Γ (.type "tuple") [d] (· = .sh (.tuple ds)) := .mk fun F R H σ env vs P E rs k => by
  obtain ⟨v, rfl, r⟩ := repL1 rs
  refine ⟨fun xs H Q => ∃ p ys, xs = [.ref p] ∧ ((SqL Γ.K H p ys ∧ ∀ l, H l = none → Q (.ref l) (upd H l (.tup ys))) ∨ (SqT Γ.K H p ys ∧ Q (.ref p) H)), fun X g => by rw [← g.K]; exact call_tuple_of, ?_⟩
  cases d with
  | list xs =>
    cases h
    obtain ⟨p, us, rfl, h1, h2⟩ := r
    refine ⟨p, us, rfl, .inl ⟨seqR E.exF h1, fun l hl => ?_⟩⟩
    obtain ⟨E2, s2⟩ := E.newF hl (.tup us)
    exact k _ _ _ _ rfl s2 E2 ⟨l, us, rfl, .inl (.inl upd_same), h2.mono s2⟩
  | tuple xs =>
    cases h
    obtain ⟨p, us, rfl, h1, h2⟩ := r
    exact ⟨p, us, rfl, .inr ⟨Same.sqt E.exF h1, k _ _ F H rfl (Same.refl F) E ⟨p, us, rfl, h1, h2⟩⟩⟩
  | none => cases h
  | bool _ => cases h
  | int _ => cases h
  | str _ => cases h
  | dict _ => cases h

/-! ### one's own lists -/
section
variable {i : Nat} {x : Str} {p : Addr} {xs : List PD} {npos apos : Pos}
/-- len(x) -/
theorem ev_lenO {lp : Pos} (h : env[i]? = some (Sl.own p (.lst xs))) (q : Q (.int xs.length) env) (hN : Γ.N[i]? = some x) (hv : Vis Γ.sc x) (hg : Γ.sc.names.lookup ("len" : Str) = some .globalImplicit) (hm : Γ.mg ("len" : Str) = none)
    (hd : (x == ("__debug__" : Str)) = false := by decide +kernel) (hcd : (x == ("__classdict__" : Str)) = false := by decide +kernel) (he : NoStar (.Name x npos) [] := by intro _; rfl) : EV Γ (.Call (.Name "len" lp) [.Name x npos] [] pos) env Q := .mk fun F R H σ P E w k => by
  obtain ⟨h1, h2, h3, u, h4, us, rfl, h5⟩ := E.getOwn h
  exact ⟨tCB (fun xs H Q => ∃ x n, xs = [x] ∧ LenV Γ.K x H n ∧ Q (.int n) H) (tCons (tVar i) tNil), fun X g => pe_callB (by rw [← g.K]; exact call_len) (by unfold Gl Env.kindOf; rw [g.sc]; exact hg) (by rw [g.mg]; exact hm) PySem.boot_len (pa_cons (pe_var (by rw [g.N]; exact hN) (by rw [g.sc]; exact hv) hd hcd) pa_nil (he _)) (by decide) (by decide) (he _) rfl,
    _, h1, _, us.length, rfl, .inl ⟨us, .inl (.inl h4), rfl⟩, by rw [h5.length]; exact k _ env _ F H q (Same.refl F) E rfl⟩
/-- x[e] -/
theorem ev_ixO (h : EV Γ e env fun d e1 => ∃ n, d = .int n ∧ ∃ xs p, e1[i]? = some (Sl.own p (.lst xs)) ∧ env[i]? = some (Sl.own p (.lst xs)) ∧ ∃ y, atI xs n = some y ∧ Q y e1) (hN : Γ.N[i]? = some x) (hv : Vis Γ.sc x)
    (ho : ∃ p xs, env[i]? = some (Sl.own p (.lst xs))) (hd : (x == ("__debug__" : Str)) = false := by decide +kernel) (hcd : (x == ("__classdict__" : Str)) = false := by decide +kernel) (hs : PlainIx e := by exact fun _ _ => rfl) : EV Γ (.Subscript (.Name x npos) e pos) env Q := .mk fun F R H σ P E w k => by
  obtain ⟨p0, xs0, h0⟩ := ho
  obtain ⟨h1, _⟩ := E.getOwn h0
  refine ⟨tOp (rIxL Γ.K) (tVar i) (WE Γ e), fun X g => pe_ix (by rw [← g.K]; exact ix_list) (pe_var (by rw [g.N]; exact hN) (by rw [g.sc]; exact hv) hd hcd) (WE.pe g) hs, _, h1, h.run F R H σ _ E w fun d e1 v F1 H1 q s1 E1 r => ?_⟩
  obtain ⟨n, rfl, xs, p, e2, e3, y, e4, q⟩ := q
  rw [h0] at e3
  cases e3
  obtain ⟨_, z2, z3, u, z4, us, rfl, z5⟩ := E1.getOwn e2
  obtain ⟨v', hv', rv⟩ := repL_atI z5 e4
  exact ⟨_, us, n, v', rfl, r, .inl (.inl z4), hv', k y e1 v' F1 H1 q s1 E1 rv⟩
theorem mtM_mtR {X : Cx} {id : String} {r : V → List V → Hp → VK → Prop} (h : MtM X id r) : MtR X id r := h
/-- x.append(e) -/
theorem ex_append (ho : ∃ p xs, env[i]? = some (Sl.own p (.lst xs))) (h : EV Γ e env fun d e1 => ∃ p xs, e1[i]? = some (Sl.own p (.lst xs)) ∧ env[i]? = some (Sl.own p (.lst xs)) ∧ xs.length < 100000 ∧ QX (.sh .none) (e1.set i (Sl.own p (.lst (xs ++ [d])))))
    (hN : Γ.N[i]? = some x) (hv : Vis Γ.sc x) (hd : (x == ("__debug__" : Str)) = false := by decide +kernel) (hcd : (x == ("__classdict__" : Str)) = false := by decide +kernel)
    (hbase : ∀ env : Env, attributeBase (.Name x npos) ("append" : Str) env (eval (.Name x npos) env) = eval (.Name x npos) env := by intro _; rfl)
    (hfew : ∀ env : Env, ((backTo pos (starEach (e :: []) env)).all (fun x => !x.1) && (backToKw pos (keywordEach [] env)).all (fun x => x.1.isSome) && decide ((e :: []).length + ([] : List Keyword).length + (if ([] : List Keyword).isEmpty then 0 else 1) < 30)) = true := by intro _; rfl)
    (hline : (apos.endLine == pos.line) = true := by rfl) (hs : NoStar e [] := by intro _; rfl) : EX Γ (.Call (.Attribute (.Name x npos) "append" apos) [e] [] pos) env QX := .mk fun F R H σ P E w k => by
  obtain ⟨p0, xs0, h0⟩ := ho
  obtain ⟨h1, _, _, u0, h4, us0, rfl, _⟩ := E.getOwn h0
  refine ⟨tBM Γ.K "list" rAppend (tVar i) (tCons (WE Γ e) tNil), fun X g => by
    rw [← g.K]
    exact pe_bm PySem.F.plainAttrs_list PySem.F.slot_list_append PySem.F.type_list_append (mtM_mtR mt_append) (pe_var (by rw [g.N]; exact hN) (by rw [g.sc]; exact hv) hd hcd) (pa_cons (WE.pe g) pa_nil (hs _)) (hbase _) (hfew _) hline (hs _) rfl,
    _, h1, .inl ⟨rfl, us0, .inl (.inl h4)⟩, h.run F R H σ _ E w fun d e1 v F1 H1 q s1 E1 r => ?_⟩
  obtain ⟨p, xs, e2, e3, hl, q⟩ := q
  rw [h0] at e3
  cases e3
  obtain ⟨_, z2, z3, u, z4, us, rfl, z5⟩ := E1.getOwn e2
  refine ⟨_, us, v, rfl, rfl, z4, by rw [z5.length]; exact Nat.lt_of_lt_of_le hl (by decide), k _ _ _ F1 _ q s1 (E1.mut e2 ⟨_, rfl, z5.append (RepL.one r)⟩) rfl⟩
/-- x.pop() -/
theorem ev_pop {y : PD} (h : env[i]? = some (Sl.own p (.lst xs))) (hy : xs[xs.length - 1]? = some y) (q : Q y (env.set i (Sl.own p (.lst xs.dropLast)))) (hN : Γ.N[i]? = some x) (hv : Vis Γ.sc x) (hd : (x == ("__debug__" : Str)) = false := by decide +kernel) (hcd : (x == ("__classdict__" : Str)) = false := by decide +kernel)
    (hbase : ∀ env : Env, attributeBase (.Name x npos) ("pop" : Str) env (eval (.Name x npos) env) = eval (.Name x npos) env := by intro _; rfl) (hline : (apos.endLine == pos.line) = true := by rfl) : EV Γ (.Call (.Attribute (.Name x npos) "pop" apos) [] [] pos) env Q := .mk fun F R H σ P E w k => by
  obtain ⟨h1, h2, h3, u, h4, us, rfl, h5⟩ := E.getOwn h
  obtain ⟨v, hv', rv⟩ := h5.get hy
  refine ⟨tBM0 Γ.K "list" rPop (tVar i), fun X g => by
    rw [← g.K]
    exact pe_bm0 PySem.F.plainAttrs_list PySem.F.slot_list_pop PySem.F.type_list_pop (mtM_mtR mt_pop) (pe_var (by rw [g.N]; exact hN) (by rw [g.sc]; exact hv) hd hcd) (hbase _) hline,
    _, h1, .inl ⟨rfl, us, .inl (.inl h4)⟩, p, us, v, rfl, rfl, h4, by rw [h5.length]; exact hv', k y _ v F _ q (Same.refl F) (E.mut h ⟨_, rfl, h5.dropLast⟩) rv⟩
/-- x.pop(e) -/
theorem ev_popAt (ho : ∃ p xs, env[i]? = some (Sl.own p (.lst xs))) (h : EV Γ e env fun d e1 => ∃ n p xs y kk, d = .int n ∧ e1[i]? = some (Sl.own p (.lst xs)) ∧ env[i]? = some (Sl.own p (.lst xs)) ∧ -(2 ^ 63) ≤ n ∧ n < 2 ^ 63 ∧ seqIndex? n xs.length = some kk ∧ xs[kk]? = some y ∧ Q y (e1.set i (Sl.own p (.lst (xs.eraseIdx kk)))))
    (hN : Γ.N[i]? = some x) (hv : Vis Γ.sc x) (hd : (x == ("__debug__" : Str)) = false := by decide +kernel) (hcd : (x == ("__classdict__" : Str)) = false := by decide +kernel)
    (hbase : ∀ env : Env, attributeBase (.Name x npos) ("pop" : Str) env (eval (.Name x npos) env) = eval (.Name x npos) env := by intro _; rfl)
    (hfew : ∀ env : Env, ((backTo pos (starEach (e :: []) env)).all (fun x => !x.1) && (backToKw pos (keywordEach [] env)).all (fun x => x.1.isSome) && decide ((e :: []).length + ([] : List Keyword).length + (if ([] : List Keyword).isEmpty then 0 else 1) < 30)) = true := by intro _; rfl)
    (hline : (apos.endLine == pos.line) = true := by rfl) (hs : NoStar e [] := by intro _; rfl) : EV Γ (.Call (.Attribute (.Name x npos) "pop" apos) [e] [] pos) env Q := .mk fun F R H σ P E w k => by
  obtain ⟨p0, xs0, h0⟩ := ho
  obtain ⟨h1, _, _, u0, h4, us0, rfl, _⟩ := E.getOwn h0
  refine ⟨tBM Γ.K "list" rPopAt (tVar i) (tCons (WE Γ e) tNil), fun X g => by
    rw [← g.K]
    exact pe_bm PySem.F.plainAttrs_list PySem.F.slot_list_pop PySem.F.type_list_pop (mtM_mtR mt_popAt) (pe_var (by rw [g.N]; exact hN) (by rw [g.sc]; exact hv) hd hcd) (pa_cons (WE.pe g) pa_nil (hs _)) (hbase _) (hfew _) hline (hs _) rfl,
    _, h1, .inl ⟨rfl, us0, .inl (.inl h4)⟩, h.run F R H σ _ E w fun d e1 v F1 H1 q s1 E1 r => ?_⟩
  obtain ⟨n, p, xs, y, kk, rfl, e2, e3, n1, n2, n3, n4, q⟩ := q
  rw [h0] at e3
  cases e3
  obtain ⟨_, z2, z3, u, z4, us, rfl, z5⟩ := E1.getOwn e2
  obtain ⟨v', hv', rv⟩ := z5.get n4
  exact ⟨_, us, n, kk, v', rfl, by rw [show v = V.int n from r], z4, n1, n2, by rw [z5.length]; exact n3, hv', k y _ v' F1 _ q s1 (E1.mut e2 ⟨_, rfl, z5.eraseIdx kk⟩) rv⟩
end
/-- x[e1] = e2, x one's own list -/
theorem sd_store {i : Nat} {x : Str} {npos tpos : Pos} {e1 e2 : Expr} (h : EV Γ e2 env fun d a1 => (∃ p xs, a1[i]? = some (Sl.own p (.lst xs))) ∧ EV Γ e1 a1 fun dn a2 => ∃ n p xs j, dn = .int n ∧ a2[i]? = some (Sl.own p (.lst xs)) ∧ a1[i]? = some (Sl.own p (.lst xs)) ∧ ixN xs.length n = some j ∧ D.nx (a2.set i (Sl.own p (.lst (xs.set j d)))))
    (hN : Γ.N[i]? = some x) (hv : Vis Γ.sc x) (hd : (x == ("__debug__" : Str)) = false := by decide +kernel) (hcd : (x == ("__classdict__" : Str)) = false := by decide +kernel)
    (hps : ∀ X, Good Γ X → ∀ (te : TE) (g : TG), PE X e2 te → PG X (.Subscript (.Name x npos) e1 tpos) g → PS X (.Assign [.Subscript (.Name x npos) e1 tpos] e2 pos) (tAsg te g) := by intro _ _ _ _ h g; exact ps_asg h g)
    (hpg : ∀ X, Good Γ X → ∀ (to ti : TE), PE X (.Name x npos) to → PE X e1 ti → PG X (.Subscript (.Name x npos) e1 tpos) (gSub to ti rSetL) := by intro _ _ _ _ h g; exact pg_sub h g set_list) :
    SD Γ (.Assign [.Subscript (.Name x npos) e1 tpos] e2 pos) env D := .mk fun F R H σ E o w k =>
  ⟨tAsg (WE Γ e2) (gSub (tVar i) (WE Γ e1) rSetL), fun X g => hps X g _ _ (WE.pe g) (hpg X g _ _ (pe_var (by rw [g.N]; exact hN) (by rw [g.sc]; exact hv) hd hcd) (WE.pe g)), h.run F R H σ _ o w fun d a1 v F1 H1 q s1 o1 r => by
    obtain ⟨⟨p0, xs0, h0⟩, q⟩ := q
    obtain ⟨h1, _⟩ := o1.getOwn h0
    refine ⟨_, h1, q.run F1 R H1 σ _ o1 (w.mono s1) fun dn a2 v2 F2 H2 q2 s2 o2 r2 => ?_⟩
    obtain ⟨n, p, xs, j, rfl, e2, e3, hj, q2⟩ := q2
    rw [h0] at e3
    cases e3
    obtain ⟨_, z2, z3, u, z4, us, rfl, z5⟩ := o2.getOwn e2
    exact ⟨_, us, n, j, rfl, r2, z4, by rw [z5.length]; exact hj, k.1 _ σ F2 _ q2 (s1.trans s2) (o2.mut e2 ⟨_, rfl, z5.set j (r.mono s2)⟩)⟩⟩
end Dw

/-! Dw11: what is known of names; defs that are known. -/
namespace Dw
open PySem PySem.Spec PyProof.Rows L2
variable {Tb : List (Addr × Str)}
variable {Γ : Gm} {env : List Sl} {Q : PD → List Sl → Prop} {QX : RS → List Sl → Prop} {QB : Bool → List Sl → Prop} {D : EndsD} {a b c e : Expr} {es : List Expr} {pos : Pos}

/-- the built-in names that the program leaves alone -/
structure Blt (mg : Str → Option Value) : Prop where
  isinstance : mg ("isinstance" : Str) = none
  int : mg ("int" : Str) = none
  bool : mg ("bool" : Str) = none
  str : mg ("str" : Str) = none
  list : mg ("list" : Str) = none
  tuple : mg ("tuple" : Str) = none
  dict : mg ("dict" : Str) = none
  len : mg ("len" : Str) = none
  all : mg ("all" : Str) = none
  any : mg ("any" : Str) = none
  abs : mg ("abs" : Str) = none
  sum : mg ("sum" : Str) = none
  enumerate : mg ("enumerate" : Str) = none
  zip : mg ("zip" : Str) = none
  range : mg ("range" : Str) = none
  repr : mg ("repr" : Str) = none
  sorted : mg ("sorted" : Str) = none
  min : mg ("min" : Str) = none
  max : mg ("max" : Str) = none
/-- a def that keeps its promise stands under its name -/
structure Has (G : Pg) (x : Str) (ps : List Str) (k : Nat) (T : TD) : Prop where
  ex : ∃ (f : Addr) (fd : FuncData), FnG G k f fd ps (SpD G.K G.Tb T) ∧ G.mg x = some (.ref f) ∧ PySem.W.keepIn G.K (.ref f) = true ∧ Binds G.K fd ps []
theorem ex_callH {x : Str} {ps : List Str} {j : Nat} {T : TD} {p : Pos} (c : Has Γ.G x ps j T) (hj : j ≤ Γ.k)
    (h : EAs Γ (e :: es) env fun as e1 => (lends as).Nodup ∧ T (as.map Arg.sl) (fun r as' => Back as as' ∧ QX r (putBack e1 as as')) (fun C ds as' => Back as as' ∧ Γ.Z C ds (putBack e1 as as')))
    (hg : Γ.sc.names.lookup x = some .globalImplicit) (hdb : (x == ("__debug__" : Str)) = false := by decide +kernel)
    (he : NoStar e es := by intro _; rfl) (hpl : NoStarAny es pos := by intro _; rfl) : EX Γ (.Call (.Name x p) (e :: es) [] pos) env QX := by
  obtain ⟨f, fd, G, hm, hk, hb⟩ := c.ex
  exact ex_call G hj h hg hm hk hb hdb he hpl
theorem ev_callH {x : Str} {ps : List Str} {j n : Nat} {C : List PD → Prop} {m : List PD → PD} {p : Pos} (c : Has Γ.G x ps j (PureN n C m)) (hj : j ≤ Γ.k)
    (h : EVs Γ (e :: es) env fun ds e1 => ds.length = n ∧ C ds ∧ Q (m ds) e1)
    (hg : Γ.sc.names.lookup x = some .globalImplicit) (hdb : (x == ("__debug__" : Str)) = false := by decide +kernel)
    (he : NoStar e es := by intro _; rfl) (hpl : NoStarAny es pos := by intro _; rfl) : EV Γ (.Call (.Name x p) (e :: es) [] pos) env Q := by
  obtain ⟨f, fd, G, hm, hk, hb⟩ := c.ex
  exact ev_callP G hj h hg hm hk hb hdb he hpl
theorem has_mk {G : Pg} {x qual : Str} {stm : Stmt} {f : Addr} {fd : FuncData} {ps : List Str} {k : Nat} {T : TD} (F : Fun G.K x qual stm f fd) (hm : G.mg x = some (.ref f)) (hb : Binds G.K fd ps []) (g : FnG G k f fd ps (SpD G.K G.Tb T)) : Has G x ps k T := ⟨⟨f, fd, g, hm, F.kp, hb⟩⟩
theorem Has.mono {G : Pg} {x : Str} {ps : List Str} {j k : Nat} {T : TD} (h : Has G x ps j T) (hj : j ≤ k) : Has G x ps k T := by
  obtain ⟨f, fd, g, r⟩ := h.ex
  exact ⟨⟨f, fd, g.mono hj, r⟩⟩
theorem iteD {t : Bool} {A B : Prop} (h1 : t = true → A) (h2 : t = false → B) : if t = true then A else B := by
  cases t with
  | true => exact iteT (h1 rfl)
  | false => exact iteF (h2 rfl)
end Dw

/-! Dw12: the module's constants, written dicts, defs in slots, texts walked, slices, dicts asked. -/
namespace Dw
open PySem PySem.Spec PyProof.Rows L2
variable {Tb : List (Addr × Str)}
variable {Γ : Gm} {env : List Sl} {Q : PD → List Sl → Prop} {QX : RS → List Sl → Prop} {QB : Bool → List Sl → Prop} {D : EndsD} {a b c e : Expr} {es : List Expr} {pos : Pos}

structure GlobD (mg : Str → Option Value) (K : PySem.W.Frag) (x : Str) (d : PD) : Prop where
  ex : ∃ (u : Value) (v : V), mg x = some u ∧ RelV v u ∧ Rep K (fun _ => none) d v
theorem ev_globD {x : Str} {d : PD} (c : GlobD Γ.mg Γ.K x d) (q : Q d env) (hg : Γ.sc.names.lookup x = some .globalImplicit) (hd : (x == ("__debug__" : Str)) = false := by decide +kernel) : EV Γ (.Name x pos) env Q := by
  obtain ⟨u, v, h1, h2, h3⟩ := c.ex
  exact ev_glob q hg h1 h2 h3 hd
/-- a written dict of the module that leads from texts to defs -/
structure GlobF (mg : Str → Option Value) (K : PySem.W.Frag) (w : World) (x : Str) (look : Str → Option Addr) (all : Str → Bool) : Prop where
  ex : ∃ (a : Addr), mg x = some (.ref a) ∧ (∀ z f, look z = some f → KDct K w a z (.ref f)) ∧ ∃ es n, KDict K w a es n ∧ ∀ z, all z = true → ∃ r, PySem.W.nsIn K a z = some r ∧ r.isSome = (look z).isSome
/-- X[e], X such a dict -/
theorem ex_ixF {x : Str} {look : Str → Option Addr} {all : Str → Bool} {npos : Pos} (c : GlobF Γ.mg Γ.K Γ.w x look all) (h : EV Γ e env fun d e1 => ∃ z f, d = .str z ∧ look z = some f ∧ QX (.raw (.ref f)) e1)
    (hg : Γ.sc.names.lookup x = some .globalImplicit) (hd : (x == ("__debug__" : Str)) = false := by decide +kernel) (hs : PlainIx e := by exact fun _ _ => rfl) : EX Γ (.Subscript (.Name x npos) e pos) env QX := .mk fun F R H σ P E w k => by
  obtain ⟨a, h1, h2, _⟩ := c.ex
  refine ⟨tIxDX Γ.K Γ.w Γ.W (tC (.ref a)) (WE Γ e), fun X g => by
    have := pe_ixDX (X := X) (W := Γ.W) (pos := pos) g.calm g.takes (pe_glob (v := .ref a) (pos := npos) (by unfold Gl Env.kindOf; rw [g.sc]; exact hg) (by rw [g.mg]; exact h1) rfl hd) (WE.pe g) hs
    rw [g.K, g.w] at this
    exact this, h.run F R H σ _ E w fun d e1 v F1 H1 q s1 E1 r => ?_⟩
  obtain ⟨z, f, rfl, hf, q⟩ := q
  exact ⟨a, z, rfl, r, .inl ⟨_, h2 z f hf, k _ e1 _ F1 H1 q s1 E1 rfl⟩⟩
/-- e in X, X such a dict -/
theorem ev_inF {x : Str} {look : Str → Option Addr} {all : Str → Bool} {npos : Pos} (c : GlobF Γ.mg Γ.K Γ.w x look all) (h : EV Γ e env fun d e1 => ∃ z, d = .str z ∧ all z = true ∧ Q (.bool (look z).isSome) e1)
    (hg : Γ.sc.names.lookup x = some .globalImplicit) (hd : (x == ("__debug__" : Str)) = false := by decide +kernel) (hm : behindInMarks .In (.Name x npos) = false := by rfl) : EV Γ (.Compare e [.In] [.Name x npos] pos) env Q := .mk fun F R H σ P E w k => by
  obtain ⟨a, h1, _, es, n, h3, h4⟩ := c.ex
  refine ⟨tOp (fun x y H Q => ∃ (z : Str) (r : Option Value), x = .str z ∧ y = .ref a ∧ PySem.W.nsIn Γ.K a z = some r ∧ Q (.bl r.isSome) H) (WE Γ e) (tC (.ref a)), fun X g =>
    pe_cmpR (by rw [← g.K]; exact op_in_kd (by rw [g.K, g.w]; exact h3)) (WE.pe g) (pe_glob (v := .ref a) (by unfold Gl Env.kindOf; rw [g.sc]; exact hg) (by rw [g.mg]; exact h1) rfl hd) hm, h.run F R H σ _ E w fun d e1 v F1 H1 q s1 E1 r => ?_⟩
  obtain ⟨z, rfl, ha, q⟩ := q
  obtain ⟨rr, h5, h6⟩ := h4 z ha
  refine ⟨z, rr, r, rfl, h5, ?_⟩
  rw [h6]
  exact k _ e1 _ F1 H1 q s1 E1 rfl
theorem pe_callLG {X : Cx} {G : Pg} {k i : Nat} {f : Addr} {fd : FuncData} {ps : List Str} {sp : Sp} {x : Str} {p : Pos} {t : TA} (c : At G X) (F : FnG G k f fd ps sp) (hr : Room k X.A) (hN : X.N[i]? = some x) (hv : Vis X.env.scope x) (hk : PySem.W.keepIn X.K (.ref f) = true) (hb : Binds X.K fd ps [])
    (hx : ∀ σ, PassesAt (L2.CX X.prog X.w) X σ E0) (ha : PA X (e :: es) t)
    (hdb : (x == ("__debug__" : Str)) = false := by decide +kernel) (hcd : (x == ("__classdict__" : Str)) = false := by decide +kernel)
    (he : starEach (e :: es) X.env = (false, eval e X.env) :: starEach es X.env := by rfl) (hpl : (backTo pos (starEach es X.env)).any (·.1) = false := by rfl) : PE X (.Call (.Name x p) (e :: es) [] pos) (tCallL i f sp [] E0 t) := by
  refine ⟨fun pins s σ H Q I h => ?_⟩
  obtain ⟨hs, ht⟩ := h
  refine wpAny_Call_Name_kw (thn ((pe_var (pos := p) hN hv hdb hcd).run pins s σ H (fun v H1 => v = .ref f ∧ H1 = H) I ⟨.ref f, hs, rfl, rfl⟩) fun u s1 ⟨v, H1, I1, r1, q1⟩ => ?_)
  obtain ⟨rfl, rfl⟩ := q1
  cases r1
  refine PySem.W.callWith_K (h₀ := X.base) I.ok.mod.kin hk (thn (ha.run pos pins s1 σ _ _ I1 ht) fun us s2 ⟨vs, H2, I2, r, q⟩ => ⟨I2.kIn, ?_⟩) he hpl
  have q : sp (vs ++ []) H2 Q E0 := q
  rw [List.append_nil] at q
  exact run_fnG (E := fun _ => E0) c F hr hb (hx σ) I2 r q
/-- f(e, ..), f a slot that holds a def -/
theorem ev_callL {x : Str} {i : Nat} {f : Addr} {fd : FuncData} {ps : List Str} {j n : Nat} {C : List PD → Prop} {m : List PD → PD} {p : Pos} (G : FnG Γ.G j f fd ps (SpD Γ.K Γ.Tb (PureN n C m))) (hj : j ≤ Γ.k)
    (hi : env[i]? = some (.raw (.ref f))) (h : EVs Γ (e :: es) env fun ds e1 => ds.length = n ∧ C ds ∧ Q (m ds) e1)
    (hN : Γ.N[i]? = some x) (hv : Vis Γ.sc x) (hk : PySem.W.keepIn Γ.K (.ref f) = true) (hb : Binds Γ.K fd ps []) (hdb : (x == ("__debug__" : Str)) = false := by decide +kernel) (hcd : (x == ("__classdict__" : Str)) = false := by decide +kernel)
    (he : NoStar e es := by intro _; rfl) (hpl : NoStarAny es pos := by intro _; rfl) : EV Γ (.Call (.Name x p) (e :: es) [] pos) env Q := .mk fun F R H σ P E w k =>
  ⟨tCallL i f (SpD Γ.K Γ.Tb (PureN n C m)) [] E0 (WA Γ (e :: es)), fun X g => by
    exact pe_callLG (k := j) (f := f) (fd := fd) (ps := ps) g.at G (g.room.mono hj) (by rw [g.N]; exact hN) (by rw [g.sc]; exact hv) (by rw [g.K]; exact hk) (by rw [g.K]; exact hb) (fun σ => passAt takes0 σ) (WA.pa g) hdb hcd (he _) (hpl _), E.getRaw hi, h.run F R H σ _ E w fun ds e1 vs F1 H1 q s1 E1 r => by
    obtain ⟨q1, q2, q3⟩ := q
    have a1 : ArgsOk Γ.K F1 e1 vs (ds.map Arg.sh) := by
      have : ∀ {ds : List PD} {vs : List V}, RepL Γ.K F1 ds vs → ArgsOk Γ.K F1 e1 vs (ds.map Arg.sh) := by
        intro ds
        induction ds with
        | nil => intro vs h; exact h
        | cons d ds ih =>
          intro vs h
          obtain ⟨v, r, e, h1, h2⟩ := h
          exact ⟨v, r, e, h1, ih h2⟩
      exact this r
    have nd : (lends (ds.map Arg.sh)).Nodup := by rw [lends_sh]; exact List.nodup_nil
    show SpD Γ.K Γ.Tb (PureN n C m) (vs ++ []) H1 P E0
    rw [List.append_nil]
    refine ⟨F1, calleeR F1 H1 (lentAt (ds.map Arg.sh)), (ds.map Arg.sh).map Arg.sl, fun r as' => r = .sh (m ds) ∧ as' = ds.map Sl.sh, fun _ _ _ => False, E1.callee a1 nd, by rw [map_sl]; exact ⟨ds, rfl, q1, q2, rfl, rfl⟩, fun r as' v F2 H2 q4 s2 E2 z2 => ?_, fun _ _ _ _ _ _ z => z.elim⟩
    obtain ⟨rfl, rfl⟩ := q4
    have E3 := E1.returned a1 nd s2 E2 (back_sh ds)
    rw [putBack_sh] at E3
    exact k _ e1 v F2 H2 q3 (s1.trans s2) E3 z2⟩

/-! ### texts walked -/
def signsOf (z : Str) : List PD := z.cps.toList.map fun c => .str ⟨#[c]⟩
theorem walks_str {K : PySem.W.Frag} {F : Hp} {z : Str} : Walks K Tb F (Its z) (signsOf z) := fun F2 R2 H2 σ2 env2 E s i => by
  refine ⟨fun hi => ?_, fun d hd => ?_⟩
  · show z.cps.size ≤ i
    have : (signsOf z).length = z.cps.size := by unfold signsOf; rw [List.length_map]; rfl
    omega
  · unfold signsOf at hd
    rw [List.getElem?_map] at hd
    cases hc : z.cps.toList[i]? with
    | none => rw [hc] at hd; cases hd
    | some c =>
      rw [hc] at hd
      have hd' : d = .str ⟨#[c]⟩ := (Option.some.inj hd).symm
      have hlt : i < z.cps.toList.length := (List.getElem?_eq_some_iff.mp hc).1
      refine ⟨(by show i < z.cps.size; simpa using hlt), fun x H3 y => ?_⟩
      obtain ⟨rfl, c', h1, rfl⟩ := y
      have : c' = c := by
        rw [← Array.getElem?_toList, hc] at h1
        exact (Option.some.inj h1).symm
      subst this
      exact ⟨F2, Same.refl F2, E, by rw [hd']; rfl⟩
theorem it_str {tg iter : Expr} {Qi : List PD → List Sl → Prop} (h : EV Γ iter env fun d e1 => ∃ z, d = .str z ∧ Qi (signsOf z) e1) : IT Γ tg iter env Qi := .mk fun F R H σ P E w k =>
  ⟨iStr (WE Γ iter), fun X g => pi_str (WE.pe g), h.run F R H σ _ E w fun d e1 v F1 H1 q s1 E1 r => by
    obtain ⟨z, rfl, q⟩ := q
    exact ⟨z, r, k _ e1 _ F1 H1 q s1 E1 walks_str⟩⟩
/-! ### range -/
def intsP (lo : Int) (n : Nat) : List PD := (List.range n).map fun (i : Nat) => .int (lo + i)
theorem walks_rng {K : PySem.W.Frag} {F : Hp} {lo : Int} {n : Nat} : Walks K Tb F (Itr lo n) (intsP lo n) := fun F2 R2 H2 σ2 env2 E s i => by
  have hl : (intsP lo n).length = n := by unfold intsP; rw [List.length_map, List.length_range]
  refine ⟨fun hi => ?_, fun d hd => ?_⟩
  · show n ≤ i
    omega
  · unfold intsP at hd
    rw [List.getElem?_map] at hd
    cases hc : (List.range n)[i]? with
    | none => rw [hc] at hd; cases hd
    | some c =>
      rw [hc] at hd
      obtain ⟨h1, h2⟩ := List.getElem?_eq_some_iff.mp hc
      rw [List.length_range] at h1
      rw [List.getElem_range] at h2
      subst h2
      have hd' : d = .int (lo + i) := (Option.some.inj hd).symm
      refine ⟨h1, fun x H3 y => ?_⟩
      obtain ⟨rfl, rfl⟩ := y
      exact ⟨F2, Same.refl F2, E, by rw [hd']; rfl⟩
theorem it_range1 {tg : Expr} {p : Pos} {Qi : List PD → List Sl → Prop} (h : EVs Γ [a] env fun ds e1 => ∃ j : Int, ds = [.int j] ∧ -(2 ^ 62) ≤ j ∧ j < 2 ^ 62 ∧ Qi (intsP 0 j.toNat) e1) (hg : Γ.sc.names.lookup ("range" : Str) = some .globalImplicit) (hm : Γ.mg ("range" : Str) = none)
    (hs : ∀ env : Env, starEach [a] env = [(false, eval a env)] := by intro _; rfl) : IT Γ tg (.Call (.Name "range" p) [a] [] pos) env Qi := .mk fun F R H σ P E w k =>
  ⟨iRng1 (WA Γ [a]), fun X g => pi_range1 (by unfold Gl Env.kindOf; rw [g.sc]; exact hg) (by rw [g.mg]; exact hm) (WA.pa g) (hs _), h.run F R H σ _ E w fun ds e1 vs F1 H1 q s1 E1 r => by
    obtain ⟨j, rfl, h1, h2, q⟩ := q
    obtain ⟨v, rfl, rv⟩ := repL1 r
    exact ⟨j, by rw [show v = V.int j from rv], h1, h2, k _ e1 _ F1 H1 q s1 E1 walks_rng⟩⟩

/-! ### slices -/
structure EPart (Γ : Gm) (o : Option Expr) (env : List Sl) (Q : Option Int → List Sl → Prop) : Prop where
  run : ∀ (F R H : Hp) (σ : L2.St) (P : Option Int → Hp → Prop), EnvOk Γ.K Γ.Tb F R H σ env → WOk Γ F R → (∀ (b : Option Int) (env' : List Sl) (F' H' : Hp), Q b env' → Same F F' → EnvOk Γ.K Γ.Tb F' R H' σ env' → P b H') → ∃ t : TO, (∀ X, Good Γ X → PO X o t) ∧ t σ H P
theorem ep_none {Qp : Option Int → List Sl → Prop} (q : Qp none env) : EPart Γ none env Qp := .mk fun F R H σ P E w k => ⟨tNoPart, fun X g => po_none, k none env F H q (Same.refl F) E⟩
theorem ep_some {Qp : Option Int → List Sl → Prop} (h : EV Γ e env fun d e1 => ∃ i, d = .int i ∧ Qp (some i) e1) : EPart Γ (some e) env Qp := .mk fun F R H σ P E w k => ⟨tPart (WE Γ e), fun X g => po_some (WE.pe g), h.run F R H σ _ E w fun d e1 v F1 H1 q s1 E1 r => by
  obtain ⟨i, rfl, q⟩ := q
  exact ⟨i, r, k _ e1 F1 H1 q s1 E1⟩⟩
def SlF (Γ : Gm) (r : V → Option Int → Option Int → Hp → VK → Prop) : Prop := ∀ X, Good Γ X → SlR X r
def Sl1 (Γ : Gm) : V → Option Int → Option Int → Hp → VK → Prop := fun x lo hi H Q => ∃ r, SlF Γ r ∧ r x lo hi H Q
theorem sl1 {X : Cx} (g : Good Γ X) : SlR X (Sl1 Γ) := fun pins s σ H x v vl vu lo hi sl Q I rx hs pl pu ⟨r, p, q⟩ => p X g pins s σ H x v vl vu lo hi sl Q I rx hs pl pu q
/-- what a cut leaves -/
def cutP (ds : List PD) (lo hi : Option Int) : List PD := (ds.drop (HT.sIx ds.length 0 lo)).take (HT.sIx ds.length ds.length hi - HT.sIx ds.length 0 lo)
structure SlD (Γ : Gm) (d : PD) (lo hi : Option Int) (Qr : RS → Prop) : Prop where
  run : ∀ (F R H : Hp) (σ : L2.St) (env : List Sl) (x : V) (P : VK), EnvOk Γ.K Γ.Tb F R H σ env → Rep Γ.K F d x → (∀ r v F' H', Qr r → Same F F' → EnvOk Γ.K Γ.Tb F' R H' σ env → ResOk Γ.K F' R H' env v r → P v H') → Sl1 Γ x lo hi H P
theorem ex_slice {lo hi : Option Expr} {p2 : Pos} (h : EV Γ e env fun d e1 => EPart Γ lo e1 fun l e2 => EPart Γ hi e2 fun u e3 => ∃ Qr, SlD Γ d l u Qr ∧ ∀ r, Qr r → (∀ p o, r = Sl.own p o → p ∉ owns e3) → QX r e3) : EX Γ (.Subscript e (.Slice lo hi none p2) pos) env QX := .mk fun F R H σ P E w k =>
  ⟨tSl (Sl1 Γ) (WE Γ e) (fun σ H Q => ∃ t : TO, (∀ X, Good Γ X → PO X lo t) ∧ t σ H Q) (fun σ H Q => ∃ t : TO, (∀ X, Good Γ X → PO X hi t) ∧ t σ H Q), fun X g => pe_slice (sl1 g) (WE.pe g) ⟨fun pins s σ H Q I ⟨t, p, q⟩ => (p X g).run pins s σ H Q I q⟩ ⟨fun pins s σ H Q I ⟨t, p, q⟩ => (p X g).run pins s σ H Q I q⟩,
  h.run F R H σ _ E w fun d e1 v F1 H1 q s1 E1 r => q.run F1 R H1 σ _ E1 (w.mono s1) fun l e2 F2 H2 q2 s2 E2 => q2.run F2 R H2 σ _ E2 (w.mono (s1.trans s2)) fun u e3 F3 H3 q3 s3 E3 => by
    obtain ⟨Qr, ho, hq⟩ := q3
    exact ho.run F3 R H3 σ e3 v P E3 (r.mono (s2.trans s3)) fun rr v' F' H' qr s' E' z => k rr e3 v' F' H' (hq rr qr fun p o e => by subst e; exact z.2.2.2.1) (((s1.trans s2).trans s3).trans s') E' z⟩
theorem repL_cut {K : PySem.W.Frag} {H : Hp} {ds : List PD} {vs : List V} {lo hi : Option Int} (r : RepL K H ds vs) : RepL K H (cutP ds lo hi) (cutV vs lo hi) := by
  unfold cutP cutV
  rw [r.length]
  exact (r.drop _).take _
theorem sd_lst {ds : List PD} {lo hi : Option Int} : SlD Γ (.list ds) lo hi (fun r => ∃ p, r = Sl.own p (.lst (cutP ds lo hi))) := .mk fun F R H σ env x P E rx k => by
  obtain ⟨p, vs, rfl, h1, h2⟩ := rx
  refine ⟨rSlL Γ.K, fun X g => by rw [← g.K]; exact sl_list, p, vs, rfl, seqR E.exF h1, fun l hl => ?_⟩
  obtain ⟨f1, f2, f3⟩ := E.fresh hl
  exact k _ _ F _ ⟨l, rfl⟩ (Same.refl F) (E.growU hl noTb_lst) ⟨rfl, f1, f2, f3, _, upd_same, _, rfl, repL_cut h2⟩
theorem cut_all {α : Type} {xs : List α} {a b : Nat} (h1 : a = 0) (h2 : b = xs.length) : (xs.drop a).take (b - a) = xs := by
  subst h1; subst h2
  simp
theorem sd_tup {ds : List PD} {lo hi : Option Int} : SlD Γ (.tuple ds) lo hi (· = .sh (.tuple (cutP ds lo hi))) := .mk fun F R H σ env x P E rx k => by
  obtain ⟨p, vs, rfl, h1, h2⟩ := rx
  refine ⟨rSlA Γ.K, fun X g => by rw [← g.K]; exact sl_tupA, p, vs, rfl, Same.sqt E.exF h1, fun hw => ?_, fun _ l hl => ?_⟩
  · have e : cutP ds lo hi = ds := by
      rw [h2.length] at hw
      exact cut_all hw.1 hw.2
    exact k _ _ F H rfl (Same.refl F) E (by rw [e]; exact ⟨p, vs, rfl, h1, h2⟩)
  · obtain ⟨E2, s2⟩ := E.newF hl (.tup (cutV vs lo hi))
    exact k _ _ _ _ rfl s2 E2 ⟨l, _, rfl, .inl (.inl upd_same), (repL_cut h2).mono s2⟩
theorem sd_str {z : Str} {lo hi : Option Int} (hz : z.length ≤ 100000) : SlD Γ (.str z) lo hi (· = .sh (.str (cutS z lo hi))) := .mk fun F R H σ env x P E rx k =>
  ⟨rSlS, fun X g => sl_str, z, rx, sz5 hz, k _ _ F H rfl (Same.refl F) E rfl⟩

/-! ### d.get(e, e2), s.startswith(t) -/
def lookK : List (PD × PD) → Key → Option PD
  | [], _ => none
  | p :: ps, k => if keyD p.1 = some k then some p.2 else lookK ps k
theorem repD_look {K : PySem.W.Frag} {H : Hp} {k : Key} : ∀ {ds : List (PD × PD)} {kvs : List (Key × V)}, RepD K H ds kvs → (∀ d, lookK ds k = some d → ∃ v, valV kvs k = some v ∧ Rep K H d v) ∧ (lookK ds k = none → valV kvs k = none)
  | [], kvs, h => by
    rw [show kvs = [] from h]
    exact ⟨(fun d e => by cases e), fun _ => rfl⟩
  | (a, d0) :: ds, _, ⟨k0, v0, r, e0, ⟨e1, e2⟩, e3⟩ => by
    subst e0
    have ih := repD_look (k := k) e3
    by_cases hk : k0 = k
    · subst hk
      refine ⟨fun d e => ?_, fun e => ?_⟩
      · simp only [lookK, e1, if_true] at e
        cases e
        exact ⟨v0, by simp [valV], e2⟩
      · simp only [lookK, e1, if_true] at e
        cases e
    · have hk' : ¬ (keyD a = some k) := fun z => hk (by rw [e1] at z; exact Option.some.inj z)
      refine ⟨fun d e => ?_, fun e => ?_⟩
      · simp only [lookK, hk', if_false] at e
        obtain ⟨v, h1, h2⟩ := ih.1 d e
        exact ⟨v, by simpa [valV, hk] using h1, h2⟩
      · simp only [lookK, hk', if_false] at e
        simpa [valV, hk] using ih.2 e
/-- d.get(e, e2) -/
theorem ev_get {apos : Pos} {o f : Expr} (h : EV Γ o env fun d e1 => ∃ kvs, d = .dict kvs ∧ EV Γ e e1 fun dk e2 => EV Γ f e2 fun df e3 => ∃ k, keyD dk = some k ∧ Q ((lookK kvs k).getD df) e3)
    (hm : ∀ X, Good Γ X → M2 X o "get" apos e f pos := by intro X g; exact ⟨rfl, rfl, rfl, rfl⟩) : EV Γ (.Call (.Attribute o "get" apos) [e, f] [] pos) env Q := .mk fun F R H σ P E w k =>
  ⟨tDGet2 (WE Γ o) (WE Γ e) (WE Γ f), fun X g => pe_dget2 (Nat.lt_of_le_of_lt (Nat.add_le_add_left (by decide : 1 ≤ 64) _) g.room.units) (WE.pe g) (WE.pe g) (WE.pe g) (hm X g), h.run F R H σ _ E w fun d e1 v F1 H1 q s1 E1 r => by
    obtain ⟨kvs, rfl, q⟩ := q
    obtain ⟨p, kv, rfl, h1, h2⟩ := r
    refine ⟨p, rfl, .inl ⟨kv, Same.rd E1.exF h1⟩, q.run F1 R H1 σ _ E1 (w.mono s1) fun dk e2 vk F2 H2 q2 s2 E2 r2 => q2.run F2 R H2 σ _ E2 (w.mono (s1.trans s2)) fun df e3 vf F3 H3 q3 s3 E3 r3 => ?_⟩
    obtain ⟨kk, hk, q3⟩ := q3
    have hvk : vk = kV kk := by
      cases dk with
      | int i =>
        have e : kk = .inl i := (Option.some.inj hk).symm
        rw [e]
        exact r2
      | str z =>
        have e : kk = .inr z := (Option.some.inj hk).symm
        rw [e]
        exact r2
      | none => cases hk
      | bool _ => cases hk
      | list _ => cases hk
      | tuple _ => cases hk
      | dict _ => cases hk
    have rd3 : Rd H3 p (.dK kv) := Same.rd E3.exF (Same.rd (s2.trans s3) h1)
    refine ⟨valV kv kk, .inl ⟨kv, kk, rd3, hvk, rfl⟩, ?_⟩
    have hl := repD_look (k := kk) (h2.mono (s2.trans s3))
    cases hq : lookK kvs kk with
    | none =>
      rw [hl.2 hq]
      rw [hq] at q3
      exact k _ e3 _ F3 H3 q3 ((s1.trans s2).trans s3) E3 r3
    | some d =>
      obtain ⟨v, h4, h5⟩ := hl.1 d hq
      rw [h4]
      rw [hq] at q3
      exact k _ e3 _ F3 H3 q3 ((s1.trans s2).trans s3) E3 h5⟩
/-- s.m(t), a method of texts with one text -/
theorem ev_strM1 {id : String} {name : Str} {apos : Pos} {o : Expr} {r : V → List V → Hp → VK → Prop} (slot : Slot "str" name id) (ty : typeOf (.builtin id) = pure (.type "method_descriptor")) (rule : MtF Γ id r)
    (h : EV Γ o env fun d e1 => ∃ x, d = .str x ∧ EV Γ e e1 fun d2 e2 => ∃ y, d2 = .str y ∧ ∃ z, (∀ (H : Hp) (P : VK), P z H → r (.str x) [.str y] H P) ∧ ∃ dz, flatP dz = some z ∧ Q dz e2)
    (hs : ∀ env : Env, starEach [e] env = [(false, eval e env)] := by intro _; rfl) (hbase : ∀ env : Env, attributeBase o name env (eval o env) = eval o env := by intro _; rfl) (hline : (apos.endLine == pos.line) = true := by rfl) :
    EV Γ (.Call (.Attribute o name apos) [e] [] pos) env Q := .mk fun F R H σ P E w k =>
  ⟨tM1 r (WE Γ o) (WE Γ e), fun X g => pe_m1 slot ty (rule X g) (WE.pe g) (WE.pe g) (hs _) (hbase _) hline, h.run F R H σ _ E w fun d e1 v F1 H1 q s1 E1 r1 => by
    obtain ⟨x, rfl, q⟩ := q
    refine ⟨⟨x, r1⟩, q.run F1 R H1 σ _ E1 (w.mono s1) fun d2 e2 v2 F2 H2 q2 s2 E2 r2 => ?_⟩
    obtain ⟨y, rfl, z, hr, dz, hz, q2⟩ := q2
    rw [show v = V.str x from r1, show v2 = V.str y from r2]
    refine hr H2 _ (k dz e2 z F2 H2 q2 (s1.trans s2) E2 ?_)
    cases dz with
    | none => rw [show z = V.non from (Option.some.inj hz).symm]; rfl
    | bool x => rw [show z = V.bl x from (Option.some.inj hz).symm]; rfl
    | int x => rw [show z = V.int x from (Option.some.inj hz).symm]; rfl
    | str x => rw [show z = V.str x from (Option.some.inj hz).symm]; rfl
    | list _ => exact absurd hz (by simp [flatP])
    | tuple _ => exact absurd hz (by simp [flatP])
    | dict _ => exact absurd hz (by simp [flatP])⟩
theorem ev_startswith {apos : Pos} {o : Expr} (h : EV Γ o env fun d e1 => ∃ x, d = .str x ∧ EV Γ e e1 fun d2 e2 => ∃ y, d2 = .str y ∧ Q (.bool (Txt.startswith x y)) e2)
    (hs : ∀ env : Env, starEach [e] env = [(false, eval e env)] := by intro _; rfl) (hbase : ∀ env : Env, attributeBase o ("startswith" : Str) env (eval o env) = eval o env := by intro _; rfl) (hline : (apos.endLine == pos.line) = true := by rfl) :
    EV Γ (.Call (.Attribute o "startswith" apos) [e] [] pos) env Q :=
  ev_strM1 PySem.F.slot_str_startswith PySem.F.type_str_startswith (fun X g => mt_startswith) (h.imp fun d e1 ⟨x, e0, h2⟩ => ⟨x, e0, h2.imp fun d2 e2 ⟨y, e3, q⟩ => ⟨y, e3, _, fun H P hp => ⟨x, y, rfl, rfl, hp⟩, .bool _, rfl, q⟩⟩) hs hbase hline
end Dw
namespace Dw
open PySem PySem.Spec PyProof.Rows L2
section
variable {Γ : Gm} {env : List Sl} {Q : PD → List Sl → Prop} {QX : RS → List Sl → Prop} {QB : Bool → List Sl → Prop} {D : EndsD} {a b c e : Expr} {es : List Expr} {pos : Pos}
/-- a op b op' c, bools -/
theorem ev_chain {op op' : CmpOp} (h : EV Γ a env fun da e1 => EV Γ b e1 fun db e2 => ∃ t, CmpD Γ op da db (· = .sh (.bool t)) ∧ if t = true then EV Γ c e2 fun dc e3 => ∃ t2, CmpD Γ op' db dc (· = .sh (.bool t2)) ∧ Q (.bool t2) e3 else Q (.bool false) e2)
    (hm : lastMarks [op, op'] [b, c] = false := by with_unfolding_all rfl) : EV Γ (.Compare a [op, op'] [b, c] pos) env Q := .mk fun F R H σ P E w k =>
  ⟨tChain (Op1 Γ (compareOp op)) (Op1 Γ (compareOp op')) (WE Γ a) (WE Γ b) (WE Γ c), fun X g => pe_chain (op1 g) (op1 g) (WE.pe g) (WE.pe g) (WE.pe g) hm, h.run F R H σ _ E w fun da e1 x F1 H1 h1 s1 E1 r1 => h1.run F1 R H1 σ _ E1 (w.mono s1) fun db e2 y F2 H2 h2 s2 E2 r2 => by
    obtain ⟨t, ho, h2⟩ := h2
    refine ho.run F2 R H2 σ e2 x y _ E2 (r1.mono s2) r2 fun r v F3 H3 hr s3 E3 z => ?_
    subst hr
    refine ⟨t, z, ?_⟩
    cases t with
    | true =>
      refine h2.run F3 R H3 σ _ E3 (w.mono ((s1.trans s2).trans s3)) fun dc e3 v3 F4 H4 h4 s4 E4 r4 => ?_
      obtain ⟨t2, ho2, q⟩ := h4
      refine ho2.run F4 R H4 σ e3 y v3 _ E4 (r2.mono (s3.trans s4)) r4 fun r v F5 H5 hr s5 E5 z5 => ?_
      subst hr
      exact k _ e3 v F5 H5 q ((((s1.trans s2).trans s3).trans s4).trans s5) E5 z5
    | false => exact k _ e2 _ F3 H3 h2 ((s1.trans s2).trans s3) E3 rfl⟩
end
end Dw
namespace Dw
open PySem PySem.Spec PyProof.Rows L2
theorem et_bo {Γ : Gm} {env : List Sl} {QB : Bool → List Sl → Prop} {op : BoolOp} {vs : List Expr} {pos : Pos} (h : EW Γ (.BoolOp op vs pos) env QB) : ET Γ (.BoolOp op vs pos) env QB := et_w h
end Dw

/-! Dx1: comparisons of data at depth, lists put together, texts of numbers. -/
namespace Dw
open PySem PySem.Spec PyProof.Rows L2
variable {Γ : Gm} {env : List Sl} {Q : PD → List Sl → Prop} {QX : RS → List Sl → Prop} {QB : Bool → List Sl → Prop} {D : EndsD} {a b c e : Expr} {es : List Expr} {pos : Pos}

/-! ### data without dicts, as the library reads it -/
mutual
def noDict : PD → Bool
  | .dict _ => false
  | .list xs => noDictL xs
  | .tuple xs => noDictL xs
  | _ => true
def noDictL : List PD → Bool
  | [] => true
  | d :: ds => noDict d && noDictL ds
end
mutual
theorem rep_dp {K : PySem.W.Frag} {F H : Hp} (s : Same F H) : ∀ {d : PD} {v : V}, noDict d = true → Rep K F d v → Dp K H v d
  | .none, _, _, h => by rw [show _ = V.non from h]; exact .non
  | .bool x, _, _, h => by rw [show _ = V.bl x from h]; exact .bl x
  | .int x, _, _, h => by rw [show _ = V.int x from h]; exact .int x
  | .str x, _, _, h => by rw [show _ = V.str x from h]; exact .str x
  | .list xs, _, n, ⟨a, vs, e1, e2, e3⟩ => by subst e1; exact .lst (seqR s e2) (rep_dpL s n e3)
  | .tuple xs, _, n, ⟨a, vs, e1, e2, e3⟩ => by subst e1; exact .tup (Same.sqt s e2) (rep_dpL s n e3)
  | .dict _, _, n, _ => by cases n
theorem rep_dpL {K : PySem.W.Frag} {F H : Hp} (s : Same F H) : ∀ {ds : List PD} {vs : List V}, noDictL ds = true → RepL K F ds vs → DpAll K H vs ds
  | [], _, _, h => by rw [show _ = [] from h]; exact .nil
  | d :: ds, _, n, ⟨v, r, e1, e2, e3⟩ => by
    subst e1
    have n' := Bool.and_eq_true_iff.mp (show (noDict d && noDictL ds) = true from n)
    exact .cons (rep_dp s n'.1 e2) (rep_dpL s n'.2 e3)
end
theorem od_eqDeep {da db : PD} (ha : noDict da = true) (hb : noDict db = true) (sa : SeqAt.shaped da = true) (sb : SeqAt.shaped db = true) : CmpD Γ .Eq da db (· = .sh (.bool (PyData.eqv da db))) := cmpD_of (r := rEqD Γ.K) (fun X g => by
    rw [← g.K]
    exact op_eqD g.room.units) fun F H x y P sF rx ry k => ⟨da, db, rep_dp sF ha rx, rep_dp sF hb ry, sa, sb, k _ rfl⟩
theorem od_neDeep {da db : PD} (ha : noDict da = true) (hb : noDict db = true) (sa : SeqAt.shaped da = true) (sb : SeqAt.shaped db = true) : CmpD Γ .NotEq da db (· = .sh (.bool (!PyData.eqv da db))) := cmpD_of (r := rNeD Γ.K) (fun X g => by
    rw [← g.K]
    exact op_neD g.room.units) fun F H x y P sF rx ry k => ⟨da, db, rep_dp sF ha rx, rep_dp sF hb ry, sa, sb, k _ rfl⟩
/-- x != [], x one's own list -/
theorem ev_neNil {i : Nat} {x : Str} {p : Addr} {xs : List PD} {npos p2 : Pos} (h : env[i]? = some (Sl.own p (.lst xs))) (q : Q (.bool (!xs.isEmpty)) env) (nd : noDictL xs = true) (sh : SeqAt.shaped (.list xs) = true) (hN : Γ.N[i]? = some x) (hv : Vis Γ.sc x)
    (hd : (x == ("__debug__" : Str)) = false := by decide +kernel) (hcd : (x == ("__classdict__" : Str)) = false := by decide +kernel) (hm : behindInMarks .NotEq (.List [] p2) = false := by first | exact nobehind _ (by decide) (by decide) | rfl) :
    EV Γ (.Compare (.Name x npos) [.NotEq] [.List [] p2] pos) env Q := .mk fun F R H σ P E w k => by
  obtain ⟨h1, h2, h3, u, h4, us, rfl, h5⟩ := E.getOwn h
  refine ⟨tOp (rNeD Γ.K) (tVar i) (tLst tNil), fun X g => pe_cmpR (by rw [← g.K]; exact op_neD g.room.units) (pe_var (by rw [g.N]; exact hN) (by rw [g.sc]; exact hv) hd hcd) (pe_lst pa_nil) hm, _, h1, by show 0 ≤ sizeLine; decide, fun l hl => ?_⟩
  have s1 : Same H (upd H l (.lst [])) := same_upd hl
  have e : PyData.eqv (.list xs) (.list []) = xs.isEmpty := by cases xs <;> rfl
  refine ⟨.list xs, .list [], .lst (.inl (.inl (s1 _ _ h4))) (rep_dpL (E.exF.trans s1) nd h5), .lst (.inl (.inl upd_same)) .nil, sh, (by decide), ?_⟩
  rw [e]
  exact k _ env _ F _ q (Same.refl F) (E.growU hl noTb_lst) rfl

/-! ### lists put together -/
theorem Inv.lstR {X : Cx} {pins : List (Addr × Obj)} {σ : L2.St} {H : Hp} {s : Shared} {l : Addr} {xs : List V} (I : L2.Inv X pins σ H s) (hH : Rd H l (.lst xs)) :
    xs.length ≤ sizeLine ∧ ∃ (its : List Value) (n : Nat), Vals xs its ∧ xs.length = its.length ∧ s.heap.get? l = some { cls := .type "list", data := .seq its.toArray n } := by
  obtain ⟨z, its, n, r, e⟩ := hH.ok I.hok
  exact ⟨z, its, n, r, r.length, e⟩
def rCatS : R2 := fun x y H Q => ∃ l b xs zs, x = .ref l ∧ y = .ref b ∧ Rd H l (.lst xs) ∧ Rd H b (.lst zs) ∧ xs.length + zs.length ≤ sizeLine ∧ ∀ p, H p = none → Q (.ref p) (upd H p (.lst (xs ++ zs)))
theorem op_catS {X : Cx} : OpR X (binaryOp .Add) rCatS := by
  intro pins s σ H x y v u Q I rx ry h
  obtain ⟨l, b, xs, zs, rfl, rfl, hH, hB, hz, q⟩ := h
  cases rx
  cases ry
  obtain ⟨z, its, n, r, hl, e⟩ := Inv.lstR I hH
  obtain ⟨z2, its2, n2, r2, hl2, e2⟩ := Inv.lstR I hB
  refine PySem.P.add_list e e2 ?_ (by rw [List.size_toArray, List.size_toArray]; omega)
  rw [show its.toArray ++ its2.toArray = (its ++ its2).toArray from by simp]
  exact ⟨.ref _, _, I.lnew (t' := s.toks) (r.append r2) (by rw [List.length_append]; omega), rfl, q _ I.fresh⟩
theorem od_cat {xs ys : List PD} (hl : xs.length + ys.length ≤ 100000) : BinD Γ .Add (.list xs) (.list ys) (fun r => ∃ p, r = Sl.own p (.lst (xs ++ ys))) := ⟨fun F R H σ env x y P E rx ry k => by
  obtain ⟨l, us, rfl, h1, h2⟩ := rx
  obtain ⟨b, ws, rfl, h3, h4⟩ := ry
  refine ⟨rCatS, fun X g => op_catS, l, b, us, ws, rfl, rfl, Same.rd E.exF h1, Same.rd E.exF h3, sz5 (by rw [h2.length, h4.length]; exact hl), fun p hp => ?_⟩
  obtain ⟨f1, f2, f3⟩ := E.fresh hp
  exact k _ _ F _ ⟨p, rfl⟩ (Same.refl F) (E.growU hp noTb_lst) ⟨rfl, f1, f2, f3, _, upd_same, _, rfl, h2.append h4⟩⟩
def rExtS : V → List V → Hp → VK → Prop := fun x vs H Q => ∃ l b xs zs, x = .ref l ∧ vs = [.ref b] ∧ H l = some (.lst xs) ∧ Rd H b (.lst zs) ∧ xs.length + zs.length ≤ sizeLine ∧ Q .non (upd H l (.lst (xs ++ zs)))
theorem mt_extS {X : Cx} : MtM X "list.extend" rExtS := by
  intro pins s σ H x vs v us Q I rx rv h
  obtain ⟨l, b, xs, zs, rfl, rfl, hH, hB, hz, q⟩ := h
  cases rx
  obtain ⟨u, rfl, ru⟩ := rv.one
  cases ru
  obtain ⟨z, its, n, r, hl, e⟩ := I.lstM hH
  obtain ⟨z2, its2, n2, r2, hl2, e2⟩ := Inv.lstR I hB
  have hsz : its.toArray.size + its2.toArray.size ≤ sizeLine := by rw [List.size_toArray, List.size_toArray]; omega
  have hlong : ¬ (!its.toArray.isEmpty && Builtin.List.listTooLong (its.toArray.size + its2.toArray.size)) = true := by
    rw [notLongL hsz, Bool.and_false]
    exact Bool.false_ne_true
  refine call_meets F.slot_list_extend ⟨_, e, rfl⟩ F.entry_list_extend (F.args_list_extend_2 _ _)
    (AutoSeq1.list_extend_list_list_0 l its.toArray n b its2.toArray n2 hlong (by rw [List.size_toArray]; omega) (by omega)) ⟨e, e2, ?_⟩
  refine ⟨.non, _, I.lset (its' := its ++ its2) hH e (by simp) (r.append r2) ?_, rfl, q⟩
  rw [List.length_append]
  omega
/-- x.extend(e), x one's own list -/
theorem ex_extend {i : Nat} {x : Str} {npos apos : Pos} (ho : ∃ p xs, env[i]? = some (Sl.own p (.lst xs))) (h : EV Γ e env fun d e1 => ∃ p xs ys, d = .list ys ∧ e1[i]? = some (Sl.own p (.lst xs)) ∧ env[i]? = some (Sl.own p (.lst xs)) ∧ xs.length + ys.length ≤ 100000 ∧ QX (.sh .none) (e1.set i (Sl.own p (.lst (xs ++ ys)))))
    (hN : Γ.N[i]? = some x) (hv : Vis Γ.sc x) (hd : (x == ("__debug__" : Str)) = false := by decide +kernel) (hcd : (x == ("__classdict__" : Str)) = false := by decide +kernel)
    (hbase : ∀ env : Env, attributeBase (.Name x npos) ("extend" : Str) env (eval (.Name x npos) env) = eval (.Name x npos) env := by intro _; rfl)
    (hfew : ∀ env : Env, ((backTo pos (starEach (e :: []) env)).all (fun x => !x.1) && (backToKw pos (keywordEach [] env)).all (fun x => x.1.isSome) && decide ((e :: []).length + ([] : List Keyword).length + (if ([] : List Keyword).isEmpty then 0 else 1) < 30)) = true := by intro _; rfl)
    (hline : (apos.endLine == pos.line) = true := by rfl) (hs : NoStar e [] := by intro _; rfl) : EX Γ (.Call (.Attribute (.Name x npos) "extend" apos) [e] [] pos) env QX := .mk fun F R H σ P E w k => by
  obtain ⟨p0, xs0, h0⟩ := ho
  obtain ⟨h1, _, _, u0, h4, us0, rfl, _⟩ := E.getOwn h0
  refine ⟨tBM Γ.K "list" rExtS (tVar i) (tCons (WE Γ e) tNil), fun X g => by
    rw [← g.K]
    exact pe_bm PySem.F.plainAttrs_list PySem.F.slot_list_extend PySem.F.type_list_extend (mtM_mtR mt_extS) (pe_var (by rw [g.N]; exact hN) (by rw [g.sc]; exact hv) hd hcd) (pa_cons (WE.pe g) pa_nil (hs _)) (hbase _) (hfew _) hline (hs _) rfl,
    _, h1, .inl ⟨rfl, us0, .inl (.inl h4)⟩, h.run F R H σ _ E w fun d e1 v F1 H1 q s1 E1 r => ?_⟩
  obtain ⟨p, xs, ys, rfl, e2, e3, hl, q⟩ := q
  rw [h0] at e3
  cases e3
  obtain ⟨_, z2, z3, u, z4, us, rfl, z5⟩ := E1.getOwn e2
  obtain ⟨b, ws, rfl, r1, r2⟩ := r
  refine ⟨_, b, us, ws, rfl, rfl, z4, Same.rd E1.exF r1, sz5 (by rw [z5.length, r2.length]; exact hl), k _ _ _ F1 _ q s1 (E1.mut e2 ⟨_, rfl, z5.append r2⟩) rfl⟩
def rRepS : R2 := fun x y H Q => ∃ l k xs, x = .ref l ∧ y = .int k ∧ Rd H l (.lst xs) ∧ -(2 ^ 63) ≤ k ∧ k < 2 ^ 63 ∧ xs.length * k.toNat ≤ sizeLine ∧
  ∀ p, H p = none → Q (.ref p) (upd H p (.lst (List.replicate k.toNat xs).flatten))
end Dw

/-! Dx2: what lies behind the first item, from the last one; two values at once. -/
namespace Dw
open PySem PySem.Spec PyProof.Rows L2
/-! ### e[:0:-1] -/
theorem back_places (n : Nat) (h : 1 ≤ n) : Builtin.Slice.slicePlaces ((n : Int) - 1) 0 (-1) = n - 1 := by
  unfold Builtin.Slice.slicePlaces
  simp
  omega
theorem back_adjust (n : Nat) (h : 1 ≤ n) : Builtin.Slice.sliceAdjust none (some 0) (-1) (n : Int) = ((n : Int) - 1, 0) := by
  unfold Builtin.Slice.sliceAdjust
  simp
  omega
theorem fm_map {α β : Type} {f : α → Option β} {g : α → β} : ∀ {l : List α}, (∀ m ∈ l, f m = some (g m)) → l.filterMap f = l.map g
  | [], _ => rfl
  | a :: l, h => by
    rw [List.filterMap_cons, h a List.mem_cons_self, List.map_cons, fm_map fun m hm => h m (List.mem_cons_of_mem _ hm)]
theorem back_list {α : Type} (d : α) (ys : List α) : (List.range (ys.length - 1)).map (fun m => ys.getD (ys.length - 1 - m) d) = (ys.drop 1).reverse := by
  apply List.ext_getElem
  · simp
  · intro i h1 h2
    have h3 : i < ys.length - 1 := by simpa using h1
    rw [List.getElem_map, List.getElem_range, List.getElem_reverse, List.getElem_drop, List.getD_eq_getElem?_getD, List.getElem?_eq_getElem (by omega)]
    simp only [Option.getD_some, List.length_drop]
    congr 1
    omega
theorem back_pick (xs : Array Value) : ((List.range (xs.size - 1)).filterMap fun (m : Nat) => xs[(((xs.size : Int) - 1) + (m : Int) * (-1)).toNat]?) = (xs.toList.drop 1).reverse := by
  rw [← back_list Value.none xs.toList, Array.length_toList]
  refine fm_map fun m hm => ?_
  have h : m < xs.size - 1 := List.mem_range.mp hm
  have e : (((xs.size : Int) - 1) + (m : Int) * (-1)).toNat = xs.size - 1 - m := by omega
  rw [e, List.getD_eq_getElem?_getD, List.getElem?_eq_getElem (by rw [Array.length_toList]; omega)]
  simp only [Option.getD_some, Array.getElem_toList]
  exact Array.getElem?_eq_getElem (by omega)
section
variable {prog : Program} {w : World} {A : Around} {E : Value → Shared → Prop} {s : Shared}
theorem back_bounds (n : Nat) : sliceBounds none (some 0) (some (-1)) n = ((n : Int) - 1, (if n = 0 then -1 else 0), -1) := by
  unfold sliceBounds
  simp
  omega
theorem back_slice (xs : Array Value) : slicePick xs none (some 0) (some (-1)) = ((xs.toList.drop 1).reverse).toArray := by
  unfold slicePick
  rw [back_bounds]
  show ((sliceRange ((xs.size : Int) - 1) (if xs.size = 0 then -1 else 0) (-1)).filterMap (xs[·]?)).toArray = _
  by_cases h : xs.size = 0
  · rw [if_pos h]
    have : xs.toList = [] := List.eq_nil_of_length_eq_zero (by rw [Array.length_toList]; exact h)
    rw [this, h]
    rfl
  · rw [if_neg h]
    have e : sliceRange ((xs.size : Int) - 1) 0 (-1) = (List.range (xs.size - 1)).map fun (m : Nat) => (((xs.size : Int) - 1) + (m : Int) * (-1)).toNat := by
      unfold sliceRange
      have h1 : ¬ ((-1 : Int) > 0) := by decide
      have e2 : (if (xs.size : Int) - 1 > 0 then ((xs.size : Int) - 1 - 0 - -1 - 1) / (- -1) else 0).toNat = xs.size - 1 := by
        by_cases h2 : (xs.size : Int) - 1 > 0
        · rw [if_pos h2, show (- -1 : Int) = 1 by decide, Int.ediv_one]; omega
        · rw [if_neg h2]; omega
      simp only [h1, if_false, e2]
      apply List.map_congr_left
      intro k hk
      omega
    rw [e, List.filterMap_map]
    exact congrArg List.toArray (back_pick xs)
theorem getItem_tuple_back {t sl : Addr} {items : Array Value} {vl vu vs : Value} {Q : Value → Shared → Prop} (ht : IsTup s.heap t items) (hs : s.heap.IsSliceOf sl vl vu vs) (pl : IsPart vl none) (pu : IsPart vu (some 0)) (ps : IsPart vs (some (-1)))
    (h : Q (.ref s.heap.objs.size) { s with heap := s.heap.push { cls := .type "tuple", data := .seq ((items.toList.drop 1).reverse).toArray } })
    (hsz : items.size ≤ sizeLine) : wpAny (model prog w) A (getItem (.ref t) (.ref sl)) Q E s := by
  have htake : sizeOk (.seq ((items.toList.drop 1).reverse).toArray) := by
    show ((items.toList.drop 1).reverse).toArray.size ≤ sizeLine
    rw [List.size_toArray, List.length_reverse, List.length_drop, Array.length_toList]
    omega
  obtain ⟨os, hos, hcs, hds⟩ := id hs
  have hTs : s.TypeIs (.ref sl) "slice" := ⟨os, hos, hcs⟩
  unfold getItem
  try with_reducible refine wpAny_holding ?_
  first | refine wpAny_bind (wpAny_pure ?_) | skip
  refine wpAny_bind (wpAny_sequenceKey ht.typeIs (by decide) ?_)
  refine wpAny_bind (wpAny_callSpecial?_slot (name := Str.ofString "__getitem__") ht.typeIs PyProof.Rows.slot_tuple_getitem
    (wpAny_call_entry PyProof.Rows.slot_tuple_getitem ht.typeIs entry_tuple_getitem ?_ (args_tuple_getitem _ _)))
  show wpAny _ _ (Builtin.Tuple.tupleItemsOf (.ref t) >>= _) _ _ s
  refine wpAny_bind (tupleItemsOf_ ht ?_)
  refine wpAny_bind (wpAny_typeOf hTs ?_)
  rw [if_pos (by decide)]
  have key : ∀ {Q : Int × Int × Nat → Shared → Prop} {A : Around} {E : Value → Shared → Prop}, Q ((Builtin.Slice.sliceAdjust none (some 0) (-1) (items.size : Int)).1, -1, Builtin.Slice.slicePlaces (Builtin.Slice.sliceAdjust none (some 0) (-1) (items.size : Int)).1 (Builtin.Slice.sliceAdjust none (some 0) (-1) (items.size : Int)).2 (-1)) s →
      wpAny (model prog w) A (Builtin.Slice.sliceApplied (.ref sl) (pure (items.size : Int))) Q E s := by
    intro Q A E hq
    unfold Builtin.Slice.sliceApplied Builtin.Slice.sliceFields
    refine wpAny_bind (wpAny_bind (wpAny_field hos hds (x := vl) rfl (wpAny_bind (wpAny_field hos hds (x := vu) rfl (wpAny_bind (wpAny_field hos hds (x := vs) rfl (wpAny_pure ?_)))))))
    refine wpAny_bind (HT.slicePart_ ps ?_)
    show wpAny _ _ (if ((-1 : Int) == 0) = true then _ else _) _ _ s
    rw [if_neg (by decide)]
    exact wpAny_bind (HT.slicePart_ pl (wpAny_bind (HT.slicePart_ pu (wpAny_bind (wpAny_pure (wpAny_pure hq))))))
  refine wpAny_bind (key ?_)
  have e : ((List.range (Builtin.Slice.slicePlaces (Builtin.Slice.sliceAdjust none (some 0) (-1) (items.size : Int)).1 (Builtin.Slice.sliceAdjust none (some 0) (-1) (items.size : Int)).2 (-1))).filterMap fun (m : Nat) => items[((Builtin.Slice.sliceAdjust none (some 0) (-1) (items.size : Int)).1 + (m : Int) * (-1)).toNat]?) = (items.toList.drop 1).reverse := by
    by_cases h0 : items.size = 0
    · have : items.toList = [] := List.eq_nil_of_length_eq_zero (by rw [Array.length_toList]; exact h0)
      rw [this, h0]
      rfl
    · rw [back_adjust _ (by omega), back_places _ (by omega)]
      exact back_pick items
  have hno : ¬ (((Builtin.Slice.sliceAdjust none (some 0) (-1) (items.size : Int)).1 == 0 && (-1 : Int) == 1 && (Builtin.Slice.slicePlaces (Builtin.Slice.sliceAdjust none (some 0) (-1) (items.size : Int)).1 (Builtin.Slice.sliceAdjust none (some 0) (-1) (items.size : Int)).2 (-1)) == items.size) = true) := by
    intro q
    rw [Bool.and_eq_true, Bool.and_eq_true] at q
    exact absurd q.1.2 (by decide)
  dsimp only
  rw [if_neg hno, e]
  first
    | exact wpAny_bind (m := Builtin.Tuple.tupleExact _) (wpAny_newObj_type (wpAny_pure ⟨_, rfl, wpAny_pure h⟩) htake)
    | exact wpAny_bind (m := Builtin.Tuple.tupleExact _) (wpAny_newObj_type (wpAny_bind (wpAny_pure (wpAny_pure ⟨_, rfl, wpAny_pure h⟩))) htake)
    | exact wpAny_bind (wpAny_bind (m := Builtin.Tuple.tupleExact _) (wpAny_newObj_type (wpAny_pure (wpAny_pure ⟨_, rfl, wpAny_pure h⟩)) htake))
    | exact wpAny_bind (wpAny_bind (m := Builtin.Tuple.tupleExact _) (wpAny_newObj_type (wpAny_pure ⟨_, rfl, wpAny_pure h⟩) htake))
end
section
variable {Γ : Gm} {env : List Sl} {Q : PD → List Sl → Prop} {QX : RS → List Sl → Prop} {D : EndsD} {a b c e : Expr} {es : List Expr} {pos : Pos}
def tBack (K : PySem.W.Frag) (te : TE) : TE := fun σ H Q => te σ H fun x H1 => ∃ a xs, x = .ref a ∧ ((SqL K H1 a xs ∧ ∀ p, H1 p = none → Q (.ref p) (upd H1 p (.lst (xs.drop 1).reverse))) ∨ (SqT K H1 a xs ∧ ∀ p, H1 p = none → Q (.ref p) (upd H1 p (.tup (xs.drop 1).reverse))))
theorem pe_back {X : Cx} {te : TE} {k k0 : Nat} {p0 p1 p2 p3 : Pos} (he : PE X e te) : PE X (.Subscript e (.Slice none (some (.Constant (.int 0) k0 p0)) (some (.UnaryOp .USub (.Constant (.int 1) k p1) p2)) p3) pos) (tBack X.K te) := by
  refine ⟨fun pins s σ H Q I h => ?_⟩
  refine Subscript_ (thn (he.run pins s σ H _ I h) fun v s1 ⟨x, H1, I1, r1, q1⟩ => ?_)
  obtain ⟨a, xs, ex, q⟩ := q1
  subst ex
  cases r1
  have hst : PO X (some (.UnaryOp .USub (.Constant (.int 1) k p1) p2)) (tPart (tUn (rU fun i => .int (-i)) (tC (.int 1)))) := po_some (pe_un un_neg pe_int)
  have hup : PO X (some (.Constant (.int 0) k0 p0)) (tPart (tC (.int 0))) := po_some pe_int
  refine wpAny_Slice (thn (po_none.run pins s1 σ H1 (fun o H2 => o = none ∧ H2 = H1) I1 ⟨rfl, rfl⟩) fun vl s2 ⟨l, H2, I2, pl, el, e2⟩ => ?_)
  subst el e2
  refine thn (hup.run pins s2 σ H2 (fun o H3 => o = some 0 ∧ H3 = H2) I2 ⟨0, rfl, rfl, rfl⟩) fun vu s3 ⟨u, H3, I3, pu, eu, e3⟩ => ?_
  subst eu e3
  refine thn (hst.run pins s3 σ H3 (fun o H4 => o = some (-1) ∧ H4 = H3) I3 ⟨1, rfl, -1, rfl, rfl, rfl⟩) fun vs s4 ⟨o, H4, I4, ps, eo, e4⟩ => ?_
  subst eo e4
  have I5 : Inv X pins σ H4 { s4 with heap := s4.heap.push { cls := .type "slice", data := .fields #[vl, vu, vs] } } := I4.kept (t' := s4.toks) fun b ob q => Heap.get?_push_of_some _ q
  show wpAny (model X.prog X.w) X.A (subscriptTail e (.Slice none (some (.Constant (.int 0) k0 p0)) (some (.UnaryOp .USub (.Constant (.int 1) k p1) p2)) p3) (.ref a) (.ref s4.heap.objs.size)) (EP X pins σ Q) X.xe { s4 with heap := s4.heap.push { cls := .type "slice", data := .fields #[vl, vu, vs] } }
  rcases q with ⟨hx, q⟩ | ⟨hx, q⟩
  · obtain ⟨its, r, ht, hz⟩ := I5.list hx
    have hlen := r.length
    refine tail_any (ops := [.ref a, .ref s4.heap.objs.size]) ht.isList.typeIs (PySem.slot_list_getitem.lookup) ?_ (by with_unfolding_all rfl)
    refine wpAny_getItem_list_slice ht.isList (Heap.IsSliceOf.new _ vl vu vs) pl pu ps (by decide) ?_ (by rw [List.size_toArray]; omega)
    rw [back_slice]
    refine ⟨.ref _, _, I5.laid (t' := s4.toks) (o := .lst (xs.drop 1).reverse) (fun b ob q => Heap.get?_push_of_some _ q) (Nat.le_refl _) ?_, rfl, q _ (I5.hok.fresh (Nat.le_refl _))⟩
    exact ⟨by rw [List.length_reverse, List.length_drop]; omega, _, 0, (r.drop 1).reverse, Heap.get?_push_size _ rfl⟩
  · obtain ⟨its, r, ht, hz⟩ := I5.tuple hx
    have hlen := r.length
    refine tail_any (ops := [.ref a, .ref s4.heap.objs.size]) ht.typeIs (PyProof.Rows.slot_tuple_getitem.lookup) ?_ (by with_unfolding_all rfl)
    refine getItem_tuple_back ht (Heap.IsSliceOf.new _ vl vu vs) pl pu ps ?_ (by rw [List.size_toArray]; omega)
    refine ⟨.ref _, _, I5.laid (t' := s4.toks) (o := .tup (xs.drop 1).reverse) (fun b ob q => Heap.get?_push_of_some _ q) (Nat.le_refl _) ?_, rfl, q _ (I5.hok.fresh (Nat.le_refl _))⟩
    exact ⟨by rw [List.length_reverse, List.length_drop]; omega, _, (r.drop 1).reverse, IsTup.new _ _⟩
theorem ev_back {k k0 : Nat} {p0 p1 p2 p3 : Pos} (h : EV Γ e env fun d e1 => ∃ ds, (d = .list ds ∧ Q (.list (ds.drop 1).reverse) e1) ∨ (d = .tuple ds ∧ Q (.tuple (ds.drop 1).reverse) e1)) : EV Γ (.Subscript e (.Slice none (some (.Constant (.int 0) k0 p0)) (some (.UnaryOp .USub (.Constant (.int 1) k p1) p2)) p3) pos) env Q := .mk fun F R H σ P E w k =>
  ⟨tBack Γ.K (WE Γ e), fun X g => by rw [← g.K]; exact pe_back (WE.pe g), h.run F R H σ _ E w fun d e1 v F1 H1 q s1 E1 r => by
    obtain ⟨ds, ⟨rfl, q⟩ | ⟨rfl, q⟩⟩ := q
    · obtain ⟨p, us, rfl, h1, h2⟩ := r
      refine ⟨p, us, rfl, .inl ⟨seqR E1.exF h1, fun l hl => ?_⟩⟩
      obtain ⟨E2, s2⟩ := E1.newF hl (.lst (us.drop 1).reverse)
      exact k _ e1 _ _ _ q (s1.trans s2) E2 ⟨l, _, rfl, .inl upd_same, ((h2.drop 1).reverse).mono s2⟩
    · obtain ⟨p, us, rfl, h1, h2⟩ := r
      refine ⟨p, us, rfl, .inr ⟨Same.sqt E1.exF h1, fun l hl => ?_⟩⟩
      obtain ⟨E2, s2⟩ := E1.newF hl (.tup (us.drop 1).reverse)
      exact k _ e1 _ _ _ q (s1.trans s2) E2 ⟨l, _, rfl, .inl (.inl upd_same), ((h2.drop 1).reverse).mono s2⟩⟩
end
end Dw

/-! Dx3: results held while others are made; two names at once; tuples parted into names. -/
namespace Dw
open PySem PySem.Spec PyProof.Rows L2
variable {Tb : List (Addr × Str)}
section
variable {K : PySem.W.Frag} {F R R' H : Hp} {σ : L2.St} {env : List Sl} {p : Addr}
/-- less stands round about -/
theorem EnvOk.less (E : EnvOk K Tb F R' H σ env) (h : Same R R') : EnvOk K Tb F R H σ env where
  exF := E.exF
  exR := h.trans E.exR
  dis := fun b o e => by
    cases hR : R b with
    | none => rfl
    | some u => have := h b u hR; rw [E.dis b o e] at this; cases this
  len := E.len
  nd := E.nd
  tb := E.tb
  nt := fun b ps e => ⟨(E.nt b ps e).1, by
    cases hR : R b with
    | none => rfl
    | some u => have := h b u hR; rw [(E.nt b ps e).2] at this; cases this⟩
  slot := fun i v s e1 e2 => by
    have q := E.slot i v s e1 e2
    cases s with
    | no => cases v <;> exact trivial
    | sh d => cases v with | none => exact q | some v => exact q
    | raw d => cases v with | none => exact q | some v => exact q
    | own b o =>
      cases v with
      | none => exact q
      | some v =>
        obtain ⟨z1, z2, z3, w, z4, z5⟩ := q
        refine ⟨z1, z2, ?_, w, z4, z5⟩
        cases hR : R b with
        | none => rfl
        | some u => have := h b u hR; rw [z3] at this; cases this
/-- an object that no slot holds, held -/
theorem EnvOk.hold (E : EnvOk K Tb F R H σ env) {u : HO} (f1 : F p = none) (f2 : R p = none) (f3 : p ∉ owns env) (hu : H p = some u) (nt : NoTb u) : EnvOk K Tb F (upd R p u) H σ env where
  exF := E.exF
  exR := fun b o e => by
    by_cases hb : b = p
    · subst hb; rw [upd_same] at e; rw [hu, ← e]
    · rw [upd_ne hb] at e; exact E.exR b o e
  dis := fun b o e => by
    rw [upd_ne (ne_of_none e f1)]
    exact E.dis b o e
  len := E.len
  nd := E.nd
  tb := E.tb
  nt := fun b ps e => ⟨(E.nt b ps e).1, by
    rw [upd_ne (fun z => by subst z; rw [hu] at e; exact nt ps (Option.some.inj e))]
    exact (E.nt b ps e).2⟩
  slot := fun i v s e1 e2 => by
    have q := E.slot i v s e1 e2
    cases s with
    | no => cases v <;> exact trivial
    | sh d => cases v with | none => exact q | some v => exact q
    | raw d => cases v with | none => exact q | some v => exact q
    | own b o =>
      cases v with
      | none => exact q
      | some v =>
        obtain ⟨z1, z2, z3, w, z4, z5⟩ := q
        refine ⟨z1, z2, ?_, w, z4, z5⟩
        have hb : b ≠ p := fun z => by
          subst z
          exact f3 (owns_mem.mpr ⟨i, o, e2⟩)
        rw [upd_ne hb]
        exact z3
/-- what was held, behind -/
theorem EnvOk.held {F' H' : Hp} {env' : List Sl} {u : HO} (E : EnvOk K Tb F' (upd R p u) H' σ env') : F' p = none ∧ p ∉ owns env' ∧ H' p = some u := by
  refine ⟨?_, fun z => ?_, E.exR p u upd_same⟩
  · cases e : F' p with
    | none => rfl
    | some o => have := E.dis p o e; rw [upd_same] at this; cases this
  · have := (E.own_fr z).2.1
    rw [upd_same] at this; cases this
theorem same_updR {u : HO} (h : R p = none) : Same R (upd R p u) := same_upd h
end
theorem WOk.more {Γ : Gm} {F R R' : Hp} (w : WOk Γ F R) (h : Same R R') : WOk Γ F R' := fun C ds env' σ' da F' H' z s E x f1 f2 f3 => w C ds env' σ' da F' H' z s (E.less h) x f1 (by
  cases hR : R da with
  | none => rfl
  | some u => have := h da u hR; rw [f2] at this; cases this) f3
/-- a result that is held while another one is made -/
theorem ResOk.keep {K : PySem.W.Frag} {F F' R H H' : Hp} {σ : L2.St} {env env' : List Sl} {v : V} {p : Addr} {o : OD} {u : HO} (z : ResOk K F R H env v (Sl.own p o)) (hu : H p = some u) (s : Same F F') (E : EnvOk K Tb F' (upd R p u) H' σ env') : ResOk K F' R H' env' v (Sl.own p o) := by
  obtain ⟨rfl, f1, f2, f3, w, hw, ho⟩ := z
  rw [hw] at hu
  cases hu
  obtain ⟨g1, g2, g3⟩ := E.held
  exact ⟨rfl, g1, f2, g2, _, g3, ho.mono s⟩
section
variable {Γ : Gm} {env : List Sl} {Q : PD → List Sl → Prop} {QX : RS → List Sl → Prop} {D : EndsD} {a b c e : Expr} {es : List Expr} {pos : Pos}
/-- two results, one behind the other -/
structure EX2 (Γ : Gm) (a b : Expr) (env : List Sl) (Q : RS → RS → List Sl → Prop) : Prop where
  run : ∀ (F R H : Hp) (σ : L2.St) (P : List V → Hp → Prop), EnvOk Γ.K Γ.Tb F R H σ env → WOk Γ F R → (∀ (r1 r2 : RS) (env' : List Sl) (v1 v2 : V) (F' H' : Hp), Q r1 r2 env' → Same F F' → EnvOk Γ.K Γ.Tb F' R H' σ env' → ResOk Γ.K F' R H' env' v1 r1 → ResOk Γ.K F' R H' env' v2 r2 → (∀ p o p' o', r1 = Sl.own p o → r2 = Sl.own p' o' → p ≠ p') → P [v1, v2] H') → WA Γ [a, b] σ H P
theorem ex2 {Q : RS → RS → List Sl → Prop} (h : EX Γ a env fun r1 e1 => (∀ rv, r1 ≠ .raw rv) ∧ EX Γ b e1 fun r2 e2 => (∀ rv, r2 ≠ .raw rv) ∧ ((∀ p o p' o', r1 = Sl.own p o → r2 = Sl.own p' o' → p ≠ p') → Q r1 r2 e2)) (h1 : NoStar a [b] := by intro _; rfl) (h2 : NoStar b [] := by intro _; rfl) : EX2 Γ a b env Q := .mk fun F R H σ P E w k =>
  ⟨tCons (WE Γ a) (tCons (WE Γ b) tNil), fun X g => pa_cons (WE.pe g) (pa_cons (WE.pe g) pa_nil (h2 _)) (h1 _), h.run F R H σ _ E w fun r1 e1 v1 F1 H1 q s1 E1 z1 => by
    obtain ⟨nr, q⟩ := q
    cases r1 with
    | no => exact z1.elim
    | raw rv => exact absurd rfl (nr rv)
    | sh d =>
      refine q.run F1 R H1 σ _ E1 (w.mono s1) fun r2 e2 v2 F2 H2 q2 s2 E2 z2 => ?_
      have ne : ∀ p o p' o', (Sl.sh d) = Sl.own p o → r2 = Sl.own p' o' → p ≠ p' := fun _ _ _ _ x => by cases x
      exact k (.sh d) r2 e2 v1 v2 F2 H2 (q2.2 ne) (s1.trans s2) E2 (Rep.mono s2 z1) z2 ne
    | own p o =>
      obtain ⟨rfl, f1, f2, f3, u, hu, ho⟩ := id z1
      refine q.run F1 _ H1 σ _ (E1.hold f1 f2 f3 hu ho.kind.1) ((w.mono s1).more (same_updR f2)) fun r2 e2 v2 F2 H2 q2 s2 E2 z2 => ?_
      have k1 := ResOk.keep z1 hu s2 E2
      have E3 := E2.less (same_updR f2)
      have ne : ∀ p1 o1 p' o', (Sl.own p o) = Sl.own p1 o1 → r2 = Sl.own p' o' → p1 ≠ p' := fun p1 o1 p' o' x y => by
        cases x
        subst y
        intro z
        subst z
        have := z2.2.2.1
        rw [upd_same] at this
        cases this
      refine k (Sl.own p o) r2 e2 _ v2 F2 H2 (q2.2 ne) (s1.trans s2) E3 k1 ?_ ne
      cases r2 with
      | no => exact z2.elim
      | raw rv => exact absurd rfl (q2.1 rv)
      | sh d => exact z2
      | own p' o' =>
        obtain ⟨y1, y2, y3, y4, y5⟩ := z2
        refine ⟨y1, y2, ?_, y4, y5⟩
        rw [upd_ne (fun z => by subst z; rw [upd_same] at y3; cases y3)] at y3
        exact y3⟩
/-- x, y = a, b -/
theorem sd_par {i j : Nat} {x y : Str} {px py pt : Pos} {kt k2 : Nat} {pt2 : Pos} (h : EX2 Γ a b env fun r1 r2 e1 => D.nx ((e1.set i r1).set j r2)) (hN : Γ.N.Nodup) (hi : Γ.N[i]? = some x) (hj : Γ.N[j]? = some y) (hij : i ≠ j)
    (hx : Γ.sc.names.lookup x = some .local) (hy : Γ.sc.names.lookup y = some .local)
    (hw : ∀ X, Good Γ X → swappedStores [.Tuple [.Name x px, .Name y py] kt pt] (.Tuple [a, b] k2 pt2) X.env = pure (some [x, y]))
    (hs : ∀ env : Env, swapsWithSole [.Tuple [.Name x px, .Name y py] kt pt] (.Tuple [a, b] k2 pt2) pos.line env = pure false := by intro _; rfl) :
    SD Γ (.Assign [.Tuple [.Name x px, .Name y py] kt pt] (.Tuple [a, b] k2 pt2) pos) env D := .mk fun F R H σ E o w k =>
  ⟨tPar i j (WA Γ [a, b]), fun X g => ps_par g.calm (by rw [g.N]; exact hN) (by rw [g.N]; exact hi) (by rw [g.N]; exact hj) hij (by rw [g.sc]; exact hx) (by rw [g.sc]; exact hy) (WA.pa g) (hw X g) (hs _),
  h.run F R H σ _ o w fun r1 r2 e1 v1 v2 F1 H1 q s1 E1 z1 z2 ne => by
    refine ⟨v1, v2, rfl, k.1 _ _ F1 H1 q s1 ?_⟩
    have E2 := E1.put i z1
    refine E2.put j ?_
    cases r2 with
    | no => exact z2.elim
    | sh d => exact z2
    | raw rv => exact z2
    | own p' o' =>
      obtain ⟨y1, y2, y3, y4, y5⟩ := z2
      refine ⟨y1, y2, y3, fun z => ?_, y5⟩
      obtain ⟨n, ob, hn⟩ := owns_mem.mp z
      by_cases hin : i = n
      · subst hin
        have hlt : i < e1.length := by
          have := (List.getElem?_eq_some_iff.mp hn).1
          simpa using this
        rw [List.getElem?_set_self hlt] at hn
        have hn := Option.some.inj hn
        exact ne _ _ _ _ hn rfl rfl
      · rw [List.getElem?_set_ne hin] at hn
        exact y4 (owns_mem.mpr ⟨n, ob, hn⟩)⟩
/-- targets = e, e a tuple -/
theorem sd_unpack {tg : Expr} {js : List Nat} (h : EV Γ e env fun d e1 => TG1 Γ tg js e1 d D.nx)
    (hps : ∀ X, Good Γ X → ∀ (te : TE) (g : TG), PE X e te → PG X tg g → PS X (.Assign [tg] e pos) (tAsg te g)) : SD Γ (.Assign [tg] e pos) env D := .mk fun F R H σ E o w k =>
  ⟨tAsg (WE Γ e) (WG Γ tg), fun X g => hps X g _ _ (WE.pe g) (WG.pg g), h.run F R H σ _ o w fun d e1 v F1 H1 q s1 o1 r =>
    q.run F1 R H1 σ v _ o1 r fun σ' env' q2 _ o2 => k.1 env' σ' F1 H1 q2 s1 o2⟩
end
end Dw

/-! Dx4: defs that change a list that is lent them, that hand out a new object; calls by names. -/
namespace Dw
open PySem PySem.Spec PyProof.Rows L2
variable {Tb : List (Addr × Str)} {Γ : Gm} {env : List Sl} {Q : PD → List Sl → Prop} {QX : RS → List Sl → Prop} {D : EndsD} {a b c e : Expr} {es : List Expr} {pos : Pos}
/-- one's own list is lent, the other arguments may change it ahead -/
theorem eas_lendC {Qa : List Arg → List Sl → Prop} {i : Nat} {x : Str} {p : Addr} {o : OD} {pos : Pos} (h : env[i]? = some (Sl.own p o)) (hq : EAs Γ es env fun ds e2 => ∃ o', e2[i]? = some (Sl.own p o') ∧ Qa (.lend i p o' :: ds) e2) (hN : Γ.N[i]? = some x) (hv : Vis Γ.sc x)
    (hd : (x == ("__debug__" : Str)) = false := by decide +kernel) (hcd : (x == ("__classdict__" : Str)) = false := by decide +kernel) (hs : NoStar (.Name x pos) es := by intro _; rfl) : EAs Γ (.Name x pos :: es) env Qa := .mk fun F R H σ P E w k => by
  obtain ⟨h1, h2, h3, u, h4, h5⟩ := E.getOwn h
  exact ⟨tCons (tVar i) (WA Γ es), fun X g => pa_cons (pe_var (by rw [g.N]; exact hN) (by rw [g.sc]; exact hv) hd hcd) (WA.pa g) (hs _), _, h1, hq.run F R H σ _ E w fun ds e2 vs F2 H2 q2 s2 E2 r2 => by
    obtain ⟨o', q3, q4⟩ := q2
    exact k _ e2 _ F2 H2 q4 s2 E2 ⟨_, vs, rfl, ⟨rfl, q3⟩, r2⟩⟩
/-- a list of one's own and n data in; a datum out, the list changed: P tells how -/
def StN (n : Nat) (C : List PD → List PD → Prop) (P : List PD → List PD → PD → List PD → Prop) : TD := fun as Qd _ => ∃ p xs ds, as = Sl.own p (.lst xs) :: ds.map Sl.sh ∧ ds.length = n ∧ C xs ds ∧ ∀ d xs', P xs ds d xs' → Qd (.sh d) (Sl.own p (.lst xs') :: ds.map Sl.sh)
theorem EVs.imp {Qs Qs' : List PD → List Sl → Prop} (h : EVs Γ es env Qs) (hq : ∀ d e', Qs d e' → Qs' d e') : EVs Γ es env Qs' := .mk fun F R H σ P E w k => h.run F R H σ P E w fun d env' v F' H' q => k d env' v F' H' (hq _ _ q)
theorem left_st {p : Addr} {xs xs' : List PD} {ds : List PD} {er : List Sl} : Left (Sl.own p (.lst xs) :: ds.map Sl.sh) (Sl.own p (.lst xs') :: er) (Sl.own p (.lst xs') :: ds.map Sl.sh) := ⟨_, _, rfl, ⟨.lst xs', er, rfl, rfl⟩, left_sh ds er⟩
theorem ev_callS {x s : Str} {ps : List Str} {i j n : Nat} {C : List PD → List PD → Prop} {P : List PD → List PD → PD → List PD → Prop} {p sp : Pos} (c : Has Γ.G x ps j (StN n C P)) (hj : j ≤ Γ.k)
    (h : ∃ q xs0, env[i]? = some (Sl.own q (.lst xs0)) ∧ EVs Γ es env fun ds e1 => ∃ xs, e1[i]? = some (Sl.own q (.lst xs)) ∧ ds.length = n ∧ C xs ds ∧ ∀ d xs', P xs ds d xs' → Q d (e1.set i (Sl.own q (.lst xs'))))
    (hg : Γ.sc.names.lookup x = some .globalImplicit) (hN : Γ.N[i]? = some s) (hv : Vis Γ.sc s) (hdb : (x == ("__debug__" : Str)) = false := by decide +kernel) (hds : (s == ("__debug__" : Str)) = false := by decide +kernel) (hcs : (s == ("__classdict__" : Str)) = false := by decide +kernel)
    (he : NoStar (.Name s sp) es := by intro _; rfl) (hpl : NoStarAny es pos := by intro _; rfl) : EV Γ (.Call (.Name x p) (.Name s sp :: es) [] pos) env Q := by
  obtain ⟨q0, xs0, h0, h⟩ := h
  refine ev_ex (ex_callH c hj (eas_lendC h0 (eas_evs (h.imp fun ds e1 q => ?_)) hN hv hds hcs he) hg hdb he hpl)
  obtain ⟨xs, q1, q2, q3, q4⟩ := q
  refine ⟨.lst xs, q1, ?_, q0, xs, ds, ?_, q2, q3, fun d xs' hp => ⟨?_, d, rfl, ?_⟩⟩
  · show (i :: lends (ds.map Arg.sh)).Nodup
    rw [lends_sh]
    simp
  · show Sl.own q0 (.lst xs) :: (ds.map Arg.sh).map Arg.sl = _
    rw [map_sl]
  · exact ⟨_, _, rfl, (fun i' p' o' e => by cases e; exact ⟨.lst xs', rfl⟩), back_sh ds⟩
  · show Q d (putBack (e1.set i (Sl.own q0 (.lst xs'))) (ds.map Arg.sh) (ds.map Sl.sh))
    rw [putBack_sh]
    exact q4 d xs' hp
/-- the same with an own object handed out -/
def StO (n : Nat) (C : List PD → List PD → Prop) (P : List PD → List PD → OD → List PD → Prop) : TD := fun as Qd _ => ∃ p xs ds, as = Sl.own p (.lst xs) :: ds.map Sl.sh ∧ ds.length = n ∧ C xs ds ∧ ∀ q d xs', P xs ds d xs' → Qd (Sl.own q d) (Sl.own p (.lst xs') :: ds.map Sl.sh)
/-- n data in, a new object out -/
def OwnN (n : Nat) (C : List PD → Prop) (P : List PD → OD → Prop) : TD := fun as Qd _ => ∃ ds : List PD, as = ds.map Sl.sh ∧ ds.length = n ∧ C ds ∧ ∀ q o, P ds o → Qd (Sl.own q o) as
theorem ex_callO {x : Str} {ps : List Str} {j n : Nat} {C : List PD → Prop} {P : List PD → OD → Prop} {p : Pos} (c : Has Γ.G x ps j (OwnN n C P)) (hj : j ≤ Γ.k)
    (h : EVs Γ (e :: es) env fun ds e1 => ds.length = n ∧ C ds ∧ ∀ q o, P ds o → QX (Sl.own q o) e1)
    (hg : Γ.sc.names.lookup x = some .globalImplicit) (hdb : (x == ("__debug__" : Str)) = false := by decide +kernel)
    (he : NoStar e es := by intro _; rfl) (hpl : NoStarAny es pos := by intro _; rfl) : EX Γ (.Call (.Name x p) (e :: es) [] pos) env QX := by
  refine ex_callH c hj (eas_evs (h.imp fun ds e1 q => ?_)) hg hdb he hpl
  obtain ⟨q1, q2, q3⟩ := q
  refine ⟨by rw [lends_sh]; exact List.nodup_nil, ds, map_sl ds, q1, q2, fun q o hp => ⟨by rw [map_sl]; exact back_sh ds, ?_⟩⟩
  rw [map_sl, putBack_sh]
  exact q3 q o hp
/-- such defs -/
theorem fn_st {G : Pg} {x qual : Str} {stm : Stmt} {f : Addr} {fd : FuncData} {N ps : List Str} {k n : Nat} {C : List PD → List PD → Prop} {P : List PD → List PD → PD → List PD → Prop} (F : Fun G.K x qual stm f fd) (S : FnScope N ps (defScope stm)) (hn : n + 1 = ps.length)
    (body : ∀ (W : WX) (Z : ED) (p : Addr) (xs ds : List PD), ds.length = n → C xs ds → SDs ⟨N, defScope stm, G, fd.code, qual ++ ".<locals>.", k, W, Z, Loc (defScope stm)⟩ (defBody stm) (Sl.own p (.lst xs) :: ds.map Sl.sh ++ padN N ps)
      { nx := fun env' => ∃ xs', env'[0]? = some (Sl.own p (.lst xs')) ∧ P xs ds .none xs', rt := fun r env' => ∃ d xs', r.pd? = some d ∧ env'[0]? = some (Sl.own p (.lst xs')) ∧ P xs ds d xs' }) : FnG G (k + 1) f fd ps (SpD G.K G.Tb (StN n C P)) :=
  fn_ok F S (fun as Qd Ed ⟨p, xs, ds, e, hl, _⟩ => by rw [e, List.length_cons, List.length_map, hl, hn]) fun W as Qd Ed ⟨p, xs, ds, e, hl, hC, q⟩ => by
    subst e
    refine .mk fun F R H σ E o wk kk => ?_
    have key : ∀ {env' : List Sl} {xs' : List PD}, env'[0]? = some (Sl.own p (.lst xs')) → Left (Sl.own p (.lst xs) :: ds.map Sl.sh) env' (Sl.own p (.lst xs') :: ds.map Sl.sh) := fun {env' xs'} h => by
      cases env' with
      | nil => simp at h
      | cons t r =>
        have : t = Sl.own p (.lst xs') := by simpa using h
        subst this
        exact left_st
    refine (body W _ p xs ds hl hC).run F R H σ E o wk ⟨fun env' σ' F' H' z s o' => ?_, fun _ _ _ _ z => z.elim, fun _ _ _ _ z => z.elim, fun r env' σ' v F' H' z s o' ro => ?_⟩
    · obtain ⟨xs', z1, z2⟩ := z
      exact kk.1 env' σ' F' H' ⟨_, key z1, q _ xs' z2⟩ s o'
    · obtain ⟨d, xs', z1, z2, z3⟩ := z
      cases r with
      | no => exact ro.elim
      | raw w => simp [Sl.pd?] at z1
      | sh d' =>
        have e : d' = d := by simpa [Sl.pd?] using z1
        subst e
        exact kk.2.2.2 _ env' σ' v F' H' ⟨_, key z2, q _ xs' z3⟩ s o' ro
      | own p' ob =>
        have e : ob.pd = d := by simpa [Sl.pd?] using z1
        obtain ⟨rfl, f1, f2, f3, u, hu, ho⟩ := ro
        obtain ⟨o2, s2, r2⟩ := o'.freezeRes f1 f2 f3 hu ho
        rw [e] at r2
        exact kk.2.2.2 (.sh d) env' σ' _ _ H' ⟨_, key z2, q _ xs' z3⟩ (s.trans s2) o2 r2
theorem fn_own {G : Pg} {x qual : Str} {stm : Stmt} {f : Addr} {fd : FuncData} {N ps : List Str} {k n : Nat} {C : List PD → Prop} {P : List PD → OD → Prop} (F : Fun G.K x qual stm f fd) (S : FnScope N ps (defScope stm)) (hn : n = ps.length)
    (body : ∀ (W : WX) (Z : ED) (ds : List PD), ds.length = n → C ds → SDs ⟨N, defScope stm, G, fd.code, qual ++ ".<locals>.", k, W, Z, Loc (defScope stm)⟩ (defBody stm) (ds.map Sl.sh ++ padN N ps)
      { nx := fun _ => False, rt := fun r _ => ∃ q o, r = Sl.own q o ∧ P ds o }) : FnG G (k + 1) f fd ps (SpD G.K G.Tb (OwnN n C P)) :=
  fn_ok F S (fun as Qd Ed ⟨ds, e, hl, _⟩ => by rw [e, List.length_map, hl, hn]) fun W as Qd Ed ⟨ds, e, hl, hC, q⟩ => by
    subst e
    refine .mk fun F R H σ E o wk kk => ?_
    refine (body W _ ds hl hC).run F R H σ E o wk ⟨fun env' σ' F' H' z s o' => z.elim, fun _ _ _ _ z => z.elim, fun _ _ _ _ z => z.elim, fun r env' σ' v F' H' z s o' ro => ?_⟩
    obtain ⟨p, ob, rfl, hp⟩ := z
    exact kk.2.2.2 _ env' σ' v F' H' ⟨_, left_sh ds env', q p ob hp⟩ s o' ro

/-! ### calls by the names of all parameters -/
def permV {α : Type} (ix : List Nat) (l : List α) : List α := ix.filterMap (l[·]?)
theorem permV_vals {vs : List V} {us : List Value} (r : Vals vs us) : ∀ ix : List Nat, Vals (permV ix vs) (permV ix us)
  | [] => .nil
  | i :: ix => by
    have ih := permV_vals r ix
    unfold permV at ih ⊢
    rw [List.filterMap_cons, List.filterMap_cons]
    cases hv : vs[i]? with
    | none =>
      have : us[i]? = none := by
        rw [List.getElem?_eq_none_iff] at hv ⊢
        rw [← r.length]
        exact hv
      rw [this]
      exact ih
    | some v =>
      obtain ⟨u, hu, ru⟩ := r.get hv
      rw [hu]
      exact .cons ru ih
theorem permV_rep {K : PySem.W.Frag} {H : Hp} {ds : List PD} {vs : List V} (r : RepL K H ds vs) : ∀ ix : List Nat, RepL K H (permV ix ds) (permV ix vs)
  | [] => rfl
  | i :: ix => by
    have ih := permV_rep r ix
    unfold permV at ih ⊢
    rw [List.filterMap_cons, List.filterMap_cons]
    cases hd : ds[i]? with
    | none =>
      have : vs[i]? = none := by
        rw [List.getElem?_eq_none_iff] at hd ⊢
        rw [r.length]
        exact hd
      rw [this]
      exact ih
    | some d =>
      obtain ⟨v, hv, rv⟩ := r.get hd
      rw [hv]
      exact ⟨v, _, rfl, rv, ih⟩
def WKw (Γ : Gm) (kws : List Keyword) (σ : L2.St) (H : Hp) (Q : List V → Hp → Prop) : Prop := ∃ t : TA, (∀ X, Good Γ X → PK X kws t) ∧ t σ H Q
theorem WKw.pk {X : Cx} {kws : List Keyword} (g : Good Γ X) : PK X kws (WKw Γ kws) := ⟨fun pos pins s σ H Q I ⟨t, p, q⟩ => (p X g).run pos pins s σ H Q I q⟩
structure EKs (Γ : Gm) (kws : List Keyword) (env : List Sl) (Q : List PD → List Sl → Prop) : Prop where
  run : ∀ (F R H : Hp) (σ : L2.St) (P : List V → Hp → Prop), EnvOk Γ.K Γ.Tb F R H σ env → WOk Γ F R → (∀ (ds : List PD) (env' : List Sl) (vs : List V) (F' H' : Hp), Q ds env' → Same F F' → EnvOk Γ.K Γ.Tb F' R H' σ env' → RepL Γ.K F' ds vs → P vs H') → WKw Γ kws σ H P
theorem eks_nil {Qs : List PD → List Sl → Prop} (q : Qs [] env) : EKs Γ [] env Qs := .mk fun F R H σ P E w k => ⟨tNil, fun X g => pk_nil, k [] env [] F H q (Same.refl F) E rfl⟩
theorem eks_cons {Qs : List PD → List Sl → Prop} {nm : Option Str} {kpos : Pos} {kws : List Keyword} (h : EV Γ e env fun d e1 => EKs Γ kws e1 fun ds e2 => Qs (d :: ds) e2) : EKs Γ (⟨nm, e, kpos⟩ :: kws) env Qs := .mk fun F R H σ P E w k =>
  ⟨tCons (WE Γ e) (WKw Γ kws), fun X g => pk_cons (WE.pe g) (WKw.pk g), h.run F R H σ _ E w fun d e1 x F1 H1 h1 s1 E1 r1 => h1.run F1 R H1 σ _ E1 (w.mono s1) fun ds e2 vs F2 H2 h2 s2 E2 r2 =>
    k (d :: ds) e2 (x :: vs) F2 H2 h2 (s1.trans s2) E2 ⟨x, vs, rfl, r1.mono s2, r2⟩⟩
section
variable {X : Cx} {k : Nat} {f : Addr} {fd : FuncData} {ps ks : List Str} {sp : Sp} {E : L2.St → XK} {x : Str} {p : Pos} {tk : TA} {G : Pg} {kws : List Keyword} {ix : List Nat}
theorem pe_callKG (c : At G X) (F : FnG G k f fd ps sp) (hr : Room k X.A) (hg : Gl X x) (hm : X.mg x = some (.ref f)) (hk : PySem.W.keepIn X.K (.ref f) = true) (hb : ∀ ws : List Value, ws.length = ps.length → bindArgs fd ⟨[], ks.zip ws⟩ = pure (ps.zip (permV ix ws))) (hx : ∀ σ, PassesAt (L2.CX X.prog X.w) X σ (E σ)) (hkw : PK X kws tk)
    (hall : (backToKw pos (keywordEach kws X.env)).all (·.1.isSome) = true := by rfl) (hks : (backToKw pos (keywordEach kws X.env)).filterMap (·.1) = ks := by rfl) (hdb : (x == ("__debug__" : Str)) = false := by decide +kernel)
    (hpl : ((backTo pos (starEach [] X.env)).any (·.1) || (backToKw pos (keywordEach kws X.env)).any (·.1.isNone)) = false := by rfl) :
    PE X (.Call (.Name x p) [] kws pos) (fun σ H Q => tk σ H fun vs H1 => vs.length = ps.length ∧ sp (permV ix vs) H1 Q (E σ)) := by
  refine ⟨fun pins s σ H Q I h => ?_⟩
  refine wpAny_Call_Name_kw (ld_glob I hg hm ?_ hdb)
  refine PySem.W.callWith_KW0 (h₀ := X.base) I.ok.mod.kin hk hall ?_ hpl
  refine thn (hkw.run pos pins s σ H _ I h) fun ws s2 ⟨zs, H2, I2, rz, l1, q2⟩ => ⟨I2.kIn, ?_⟩
  rw [hks]
  have hl : ws.length = ps.length := by rw [← rz.length]; exact l1
  have e0 := I2.env0
  rw [c.P, c.w, c.K, c.mg, c.base] at e0
  have q0 := F.run X.A X.stack s2 H2 ⟨[], ks.zip ws⟩ (permV ix ws) (permV ix zs) Q (E σ) hr c.gd e0 (BindsTo.of_eq (hb ws hl)) (permV_vals rz ix) q2
  rw [← c.P, ← c.w] at q0
  show wpAny (model X.prog X.w) X.A (call (.ref f) [] (ks.zip ws)) _ _ _
  refine wpAny_call (codeAny_mono q0 fun r s' hq => ?_)
  cases r with
  | error e => exact hx σ pins H2 s2 e s' I2 hq
  | ok fl =>
    cases fl with
    | ret u => exact I2.after hq
    | next => exact False.elim hq
    | brk => exact False.elim hq
    | cont => exact False.elim hq
end
/-- f(k = e, ..): what T asks of the data in the parameters' order -/
theorem ex_callK {x : Str} {f : Addr} {fd : FuncData} {ps ks : List Str} {j : Nat} {T : TD} {p : Pos} {kws : List Keyword} (ix : List Nat) (g0 : FnG Γ.G j f fd ps (SpD Γ.K Γ.Tb T)) (hj : j ≤ Γ.k) (hm : Γ.mg x = some (.ref f)) (hk : PySem.W.keepIn Γ.K (.ref f) = true)
    (hb : ∀ ws : List Value, ws.length = ps.length → bindArgs fd ⟨[], ks.zip ws⟩ = pure (ps.zip (permV ix ws)))
    (h : EKs Γ kws env fun ds e1 => ds.length = ps.length ∧ T ((permV ix ds).map Sl.sh) (fun r as' => as' = (permV ix ds).map Sl.sh ∧ QX r e1) (fun C fs as' => as' = (permV ix ds).map Sl.sh ∧ Γ.Z C fs e1))
    (hg : Γ.sc.names.lookup x = some .globalImplicit) (hks : ∀ env : Env, (backToKw pos (keywordEach kws env)).filterMap (·.1) = ks := by intro _; rfl) (hall : ∀ env : Env, (backToKw pos (keywordEach kws env)).all (·.1.isSome) = true := by intro _; rfl) (hdb : (x == ("__debug__" : Str)) = false := by decide +kernel)
    (hpl : ∀ env : Env, ((backTo pos (starEach [] env)).any (·.1) || (backToKw pos (keywordEach kws env)).any (·.1.isNone)) = false := by intro _; rfl) : EX Γ (.Call (.Name x p) [] kws pos) env QX := .mk fun F R H σ P E w k =>
  ⟨fun σ H Q => WKw Γ kws σ H fun vs H1 => vs.length = ps.length ∧ SpD Γ.K Γ.Tb T (permV ix vs) H1 Q (fun cls d H => Γ.W cls d σ H), fun X g => by
    exact pe_callKG (k := j) (ps := ps) (ks := ks) (ix := ix) g.at g0 (g.room.mono hj) (by unfold Gl Env.kindOf; rw [g.sc]; exact hg) (by rw [g.mg]; exact hm) (by rw [g.K]; exact hk) hb (fun σ => passAt g.takes σ) (WKw.pk g) (hall _) (hks _) hdb (hpl _),
  h.run F R H σ _ E w fun ds e1 vs F1 H1 q1 s1 E1 r1 => by
    obtain ⟨hl, hT⟩ := q1
    have rp := permV_rep r1 ix
    have a1 : ArgsOk Γ.K F1 e1 (permV ix vs) ((permV ix ds).map Arg.sh) := by
      have : ∀ {ds : List PD} {vs : List V}, RepL Γ.K F1 ds vs → ArgsOk Γ.K F1 e1 vs (ds.map Arg.sh) := by
        intro ds
        induction ds with
        | nil => intro vs h; exact h
        | cons d ds ih =>
          intro vs h
          obtain ⟨v, r, e, h1, h2⟩ := h
          exact ⟨v, r, e, h1, ih h2⟩
      exact this rp
    have nd : (lends ((permV ix ds).map Arg.sh)).Nodup := by rw [lends_sh]; exact List.nodup_nil
    refine ⟨by rw [r1.length]; exact hl, F1, calleeR F1 H1 (lentAt ((permV ix ds).map Arg.sh)), ((permV ix ds).map Arg.sh).map Arg.sl, _, _, E1.callee a1 nd, by rw [map_sl]; exact hT, fun r as' v F2 H2 q2 s2 E2 z2 => ?_, fun C fs as' da F2 H2 q2 s2 E2 x2 fa ra na => ?_⟩
    · obtain ⟨rfl, q2⟩ := q2
      have E3 := E1.returned a1 nd s2 E2 (back_sh _)
      rw [putBack_sh] at E3
      refine k r _ v F2 H2 q2 (s1.trans s2) E3 ?_
      cases r with
      | no => exact z2.elim
      | sh d => exact z2
      | raw w => exact z2
      | own p o =>
        obtain ⟨z1, z3, z4, z5, z6⟩ := z2
        obtain ⟨f1, f2⟩ := fresh_back E1 a1 z4 z5 (fun q hq => by
          obtain ⟨jj, i, ob, hh⟩ := lent_mem.mp hq
          rw [List.getElem?_map] at hh
          cases hd : (permV ix ds)[jj]? with
          | none => rw [hd] at hh; cases hh
          | some d => rw [hd] at hh; cases hh)
        rw [putBack_sh] at f2
        exact ⟨z1, z3, f1, f2, z6⟩
    · obtain ⟨rfl, q2⟩ := q2
      have E3 := E1.returned a1 nd s2 E2 (back_sh _)
      rw [putBack_sh] at E3
      obtain ⟨f1, f2⟩ := fresh_back E1 a1 ra na (fun q hq => by
          obtain ⟨jj, i, ob, hh⟩ := lent_mem.mp hq
          rw [List.getElem?_map] at hh
          cases hd : (permV ix ds)[jj]? with
          | none => rw [hd] at hh; cases hh
          | some d => rw [hd] at hh; cases hh)
      rw [putBack_sh] at f2
      exact w C fs _ σ da F2 H2 q2 (s1.trans s2) E3 x2 fa f1 f2⟩
end Dw

/-! Dx5: numbers as texts, places in texts, lists repeated, zip, dicts. -/
namespace Dw
open PySem PySem.Spec PyProof.Rows L2
variable {Tb : List (Addr × Str)} {Γ : Gm} {env : List Sl} {Q : PD → List Sl → Prop} {QX : RS → List Sl → Prop} {D : EndsD} {a b c e tg : Expr} {es : List Expr} {pos : Pos}
/-- s.index(t), found -/
theorem ev_sindex {apos : Pos} {o : Expr} (h : EV Γ o env fun d e1 => ∃ x, d = .str x ∧ EV Γ e e1 fun d2 e2 => ∃ y i rest, d2 = .str y ∧ Builtin.Str.occurrences x y 0 x.length 1 = i :: rest ∧ Q (.int (i : Nat)) e2)
    (hs : ∀ env : Env, starEach [e] env = [(false, eval e env)] := by intro _; rfl) (hbase : ∀ env : Env, attributeBase o ("index" : Str) env (eval o env) = eval o env := by intro _; rfl) (hline : (apos.endLine == pos.line) = true := by rfl) :
    EV Γ (.Call (.Attribute o "index" apos) [e] [] pos) env Q :=
  ev_strM1 PySem.F.slot_str_index PySem.F.type_str_index (fun X g => mt_sindex) (h.imp fun d e1 ⟨x, e0, h2⟩ => ⟨x, e0, h2.imp fun d2 e2 ⟨y, i, rest, e3, ho, q⟩ => ⟨y, e3, .int (i : Nat), fun H P hp => ⟨x, y, i, rest, rfl, rfl, ho, hp⟩, .int (i : Nat), rfl, q⟩⟩) hs hbase hline
theorem op_repS {X : Cx} : OpR X (binaryOp .Mult) rRepS := by
  intro pins s σ H x y v u Q I rx ry h
  obtain ⟨l, k, xs, rfl, rfl, hH, h1, h2, hz, q⟩ := h
  cases rx
  obtain ⟨t, rfl⟩ := ry
  obtain ⟨z, its, n, r, hl, e⟩ := Inv.lstR I hH
  have hlen : its.toArray.size * k.toNat ≤ sizeLine := by rw [List.size_toArray, ← hl]; exact hz
  have hcap : ¬ its.toArray.size * k.toNat > (2 ^ 63 - 1) / 8 := by
    have : (sizeLine : Nat) ≤ (2 ^ 63 - 1) / 8 := by decide
    omega
  have hfit : ¬ (!Builtin.List.listFitsIndex k) = true := by
    rw [fitsIndex_both h1 h2]
    exact Bool.false_ne_true
  have hlong : ¬ Builtin.List.listTooLong (its.toArray.size * k.toNat) = true := by
    rw [notLongL hlen]
    exact Bool.false_ne_true
  have hnew : List.foldl (fun x1 x2 => x1 ++ x2) #[] (List.replicate (if its.toArray.isEmpty = true then 0 else k.toNat) its.toArray) = (List.replicate k.toNat its).flatten.toArray := by
    have f0 : ∀ m : Nat, List.foldl (fun x1 x2 => x1 ++ x2) #[] (List.replicate m its.toArray) = (List.replicate m its).flatten.toArray := fun m => by
      have := foldl_rep its m []
      rw [List.nil_append] at this
      exact this
    rw [f0]
    cases its with
    | nil => simp
    | cons a r' => rw [if_neg (by simp)]
  refine wpAny_binaryOp_repeat_ref (T := "list") (U := "int") (by decide) ⟨_, e, rfl⟩ (fun s' => typeIs_int s' k t) noFill_list_mul F.fills_int_mul F.slot_int_rmul repeat_list F.slot_int_index.lookup
    (call_meets F.slot_int_rmul (typeIs_int s k t) F.entry_int_rmul (F.args_int_rmul_2 _ _) (int___rmul___int_list k t l its.toArray n)
      ⟨e, rfl, ⟨_, e, rfl⟩, call_meets F.slot_list_mul ⟨_, e, rfl⟩ F.entry_list_mul (F.args_list_mul_2 _ _) (AutoListH.list___mul___list_int_3 l its.toArray n k t hfit hcap hlong) ⟨e, ?_⟩⟩)
  rw [hnew]
  exact ⟨.ref _, _, I.lnew (t' := s.toks) (r.rep k.toNat) (by rw [PyProof.Rows.lm_len_rep_flat, Nat.mul_comm]; exact hz), rfl, q _ I.fresh⟩
theorem RepL.rep {K : PySem.W.Frag} {H : Hp} {ds : List PD} {vs : List V} (r : RepL K H ds vs) : ∀ n : Nat, RepL K H (List.replicate n ds).flatten (List.replicate n vs).flatten
  | 0 => rfl
  | n + 1 => by
    rw [List.replicate_succ, List.replicate_succ, List.flatten_cons, List.flatten_cons]
    exact r.append (RepL.rep r n)
theorem od_rep {xs : List PD} {k : Int} (h1 : 0 ≤ k) (h2 : k ≤ 1000) (hl : xs.length ≤ 1000) : BinD Γ .Mult (.list xs) (.int k) (fun r => ∃ p, r = Sl.own p (.lst (List.replicate k.toNat xs).flatten)) := ⟨fun F R H σ env x y P E rx ry kk => by
  obtain ⟨l, us, rfl, h1', h2'⟩ := rx
  refine ⟨rRepS, fun X g => op_repS, l, k, us, rfl, ry, Same.rd E.exF h1', by omega, by omega, ?_, fun p hp => ?_⟩
  · rw [h2'.length]
    have : xs.length * k.toNat ≤ 1000 * 1000 := Nat.mul_le_mul hl (by omega)
    exact Nat.le_trans this (by decide)
  · obtain ⟨f1, f2, f3⟩ := E.fresh hp
    exact kk _ _ F _ ⟨p, rfl⟩ (Same.refl F) (E.growU hp noTb_lst) ⟨rfl, f1, f2, f3, _, upd_same, _, rfl, h2'.rep _⟩⟩

/-! ### zip -/
def zipP (xs ys : List PD) : List PD := List.zipWith (fun x y => .tuple [x, y]) xs ys
theorem zipP_len {xs ys : List PD} : (zipP xs ys).length = min xs.length ys.length := List.length_zipWith
theorem zipP_get {xs ys : List PD} {i : Nat} {d : PD} (h : (zipP xs ys)[i]? = some d) : ∃ x y, xs[i]? = some x ∧ ys[i]? = some y ∧ d = .tuple [x, y] := by
  unfold zipP at h
  rw [List.getElem?_zipWith] at h
  cases hx : xs[i]? with
  | none => rw [hx] at h; cases h
  | some x =>
    cases hy : ys[i]? with
    | none => rw [hx, hy] at h; cases h
    | some y =>
      rw [hx, hy] at h
      exact ⟨x, y, rfl, rfl, (Option.some.inj h).symm⟩
theorem walks_zipL {K : PySem.W.Frag} {F : Hp} {p q : Addr} {us ws : List V} {xs ys : List PD} (h1 : Rd F p (.lst us)) (r1 : RepL K F xs us) (h2 : Rd F q (.lst ws)) (r2 : RepL K F ys ws) : Walks K Tb F (Itz K p q) (zipP xs ys) := fun F2 R2 H2 σ2 env2 E s i => by
  have k1 : SqL K H2 p us := seqR (s.trans E.exF) h1
  have k2 : SqL K H2 q ws := seqR (s.trans E.exF) h2
  refine ⟨fun hi => ⟨us, ws, k1, k2, by rw [zipP_len] at hi; rw [r1.length, r2.length]; omega⟩, fun d hd => ?_⟩
  obtain ⟨x, y, hx, hy, rfl⟩ := zipP_get hd
  obtain ⟨v, hv, rv⟩ := r1.get hx
  obtain ⟨w, hw, rw'⟩ := r2.get hy
  refine ⟨⟨us, ws, v, w, k1, k2, hv, hw⟩, fun z H3 yy => ?_⟩
  obtain ⟨T, x', y', rfl, hT, rfl, e1, e2⟩ := yy
  have e1 := e1 us k1
  have e2 := e2 ws k2
  rw [hv] at e1; rw [hw] at e2
  cases e1; cases e2
  obtain ⟨E3, s3⟩ := E.newF hT (.tup [v, w])
  exact ⟨_, s3, E3, T, _, rfl, .inl (.inl upd_same), v, [w], rfl, rv.mono (s.trans s3), w, [], rfl, rw'.mono (s.trans s3), rfl⟩
theorem walks_zipT {K : PySem.W.Frag} {F : Hp} {p q : Addr} {us ws : List V} {xs ys : List PD} (h1 : SqT K F p us) (r1 : RepL K F xs us) (h2 : SqT K F q ws) (r2 : RepL K F ys ws) : Walks K Tb F (RZ.ItzT K p q) (zipP xs ys) := fun F2 R2 H2 σ2 env2 E s i => by
  have k1 : SqT K H2 p us := Same.sqt (s.trans E.exF) h1
  have k2 : SqT K H2 q ws := Same.sqt (s.trans E.exF) h2
  refine ⟨fun hi => ⟨us, ws, k1, k2, by rw [zipP_len] at hi; rw [r1.length, r2.length]; omega⟩, fun d hd => ?_⟩
  obtain ⟨x, y, hx, hy, rfl⟩ := zipP_get hd
  obtain ⟨v, hv, rv⟩ := r1.get hx
  obtain ⟨w, hw, rw'⟩ := r2.get hy
  refine ⟨⟨us, ws, v, w, k1, k2, hv, hw⟩, fun z H3 yy => ?_⟩
  obtain ⟨T, x', y', rfl, hT, rfl, e1, e2⟩ := yy
  have e1 := e1 us k1
  have e2 := e2 ws k2
  rw [hv] at e1; rw [hw] at e2
  cases e1; cases e2
  obtain ⟨E3, s3⟩ := E.newF hT (.tup [v, w])
  exact ⟨_, s3, E3, T, _, rfl, .inl (.inl upd_same), v, [w], rfl, rv.mono (s.trans s3), w, [], rfl, rw'.mono (s.trans s3), rfl⟩
/-- for a, b in zip(x, y), both lists or both tuples -/
theorem it_zip {elts : List Expr} {kk : Nat} {p tpos : Pos} {Qi : List PD → List Sl → Prop} (h : EVs Γ [a, b] env fun ds e1 => ∃ xs ys, ((ds = [.list xs, .list ys]) ∨ (ds = [.tuple xs, .tuple ys])) ∧ Qi (zipP xs ys) e1)
    (hg : Γ.sc.names.lookup ("zip" : Str) = some .globalImplicit) (hm : Γ.mg ("zip" : Str) = none)
    (hs : NoStar a [b] := by intro _; rfl) (hpl : NoStarAny [b] pos := by intro _; rfl) : IT Γ (.Tuple elts kk tpos) (.Call (.Name "zip" p) [a, b] [] pos) env Qi := .mk fun F R H σ P E w k =>
  ⟨RZ.iZipA Γ.K (WA Γ [a, b]), fun X g => by rw [← g.K]; exact RZ.pi_zipA (by unfold Gl Env.kindOf; rw [g.sc]; exact hg) (by rw [g.mg]; exact hm) (WA.pa g) (hs _) (hpl _), h.run F R H σ _ E w fun ds e1 vs F1 H1 q s1 E1 r => by
    obtain ⟨xs, ys, rfl | rfl, q⟩ := q
    · obtain ⟨v, _, rfl, ⟨p1, us, rfl, h1, h2⟩, v2, _, rfl, ⟨p2, ws, rfl, h3, h4⟩, rfl⟩ := r
      exact ⟨p1, p2, us, ws, rfl, .inl ⟨seqR E1.exF h1, seqR E1.exF h3, k _ e1 _ F1 H1 q s1 E1 (walks_zipL h1 h2 h3 h4)⟩⟩
    · obtain ⟨v, _, rfl, ⟨p1, us, rfl, h1, h2⟩, v2, _, rfl, ⟨p2, ws, rfl, h3, h4⟩, rfl⟩ := r
      exact ⟨p1, p2, us, ws, rfl, .inr ⟨Same.sqt E1.exF h1, Same.sqt E1.exF h3, k _ e1 _ F1 H1 q s1 E1 (walks_zipT h1 h2 h3 h4)⟩⟩⟩
end Dw

/-! Dz: list(zip(x, y)), lists and tuples in any mix. -/
namespace Dz
open PySem PySem.Spec PyProof.Rows
section
variable {prog : Program} {w : World} {A : Around} {E : Value → Shared → Prop} {s : Shared} {z TI TO T i1 i2 : Addr} {f : Bool} {oT : Obj} {fp1 fp2 : List Addr} {n1 n2 i : Nat} {P1 P2 : Nat → Value → Prop} {St1 St2 : Nat → Heap → Prop}
/-- next, while the pair given out last is held -/
theorem held_item {Q : Value → Shared → Prop} (S : ZipSep2 z TI TO i1 i2 fp1 fp2) (D1 : Draws prog w A i1 fp1 n1 P1 St1) (D2 : Draws prog w A i2 fp2 n2 P2 St2)
    (hz : IsZipHeld s.heap z TI TO T f) (hT : s.heap.get? T = some oT) (hTI : IsTupOf2 s.heap TI (.ref i1) (.ref i2)) (st1 : St1 i s.heap) (st2 : St2 i s.heap) (hlt1 : i < n1) (hlt2 : i < n2)
    (hQ : ∀ x1 x2 h' tk, P1 i x1 → P2 i x2 → IsZipHeld h' z TI TO T true → St1 (i + 1) h' → St2 (i + 1) h' → IsTupOf2 h' s.heap.objs.size x1 x2 → h'.objs.size = s.heap.objs.size + 1 →
      (∀ c o, c ≠ z → c ≠ i1 → c ≠ i2 → s.heap.get? c = some o → h'.get? c = some o) → Q (.ref s.heap.objs.size) { s with heap := h', toks := tk }) :
    wpAny (model prog w) A (Builtin.«zip.__next__» ⟨[.ref z], []⟩) (fun fin s' => ∃ v, fin = .done (.ret v) ∧ Q v s') E s := by
  obtain ⟨hp, g, d, tk0, os⟩ := s
  show wpAny _ _ (field (.ref z) 2 >>= _) _ _ _
  refine wpAny_bind (wpAny_field hz rfl (x := .bool false) rfl ?_)
  show wpAny _ _ (field (.ref z) 3 >>= _) _ _ _
  refine wpAny_bind (wpAny_field hz rfl (x := .ref TI) rfl ?_)
  refine wpAny_bind (wpAny_seqItems hTI rfl ?_)
  show wpAny _ _ (Builtin.SmallTypes.ownedTupleIsFree (.ref z) >>= _) _ _ _
  refine wpAny_bind (wpAny_tupleHeld_zip hz hT fun g0 hz0 hs0 => ?_)
  replace hs0 : Heap.SameBut z hp g0 := hs0
  simp only [Bool.false_eq_true, if_false]
  refine wpAny_bind ?_
  rw [← Array.forIn_toList]
  simp only [List.forIn_cons, List.forIn_nil]
  refine wpAny_bind (wpAny_bind (wpAny_holding ?_))
  show wpAny _ _ (Builtin.SmallTypes.nextOf (.ref i1) >>= _) _ _ ⟨g0, g, d, tk0, os⟩
  refine wpAny_bind (D1.item i _ _ _ hlt1 (D1.over st1 hs0 S.zf1) fun x1 p1 tk1 hx1 sn1 hp1 => wpAny_pure ?_)
  replace hp1 : Heap.SameBut i1 g0 p1 := hp1
  refine wpAny_pure ?_
  refine wpAny_bind (wpAny_bind (wpAny_holding ?_))
  show wpAny _ _ (Builtin.SmallTypes.nextOf (.ref i2) >>= _) _ _ ⟨p1, g, d, tk1, os⟩
  refine wpAny_bind (D2.item i _ _ _ hlt2 (D2.over (D2.over st2 hs0 S.zf2) hp1 S.sep1_2) fun x2 p2 tk2 hx2 sn2 hp2 => wpAny_pure ?_)
  replace hp2 : Heap.SameBut i2 p1 p2 := hp2
  refine wpAny_pure (wpAny_pure ?_)
  show wpAny _ _ (newTuple [x1, x2] >>= _) _ _ _
  refine wpAny_bind (wpAny_newTuple ?_)
  have hsz : p2.objs.size = hp.objs.size := by rw [hp2.1, hp1.1, hs0.1]
  have hzz : IsZipHeld p2 z TI TO T true := hp2.extBut _ _ S.zi2 (hp1.extBut _ _ S.zi1 hz0)
  have hkk : ∀ c o, c ≠ z → c ≠ i1 → c ≠ i2 → hp.get? c = some o → p2.get? c = some o := fun c o cz c1 c2 e => hp2.extBut _ _ c2 (hp1.extBut _ _ c1 (hs0.extBut _ _ cz e))
  have hj1 : St1 (i + 1) p2 := D1.over sn1 hp2 S.sep2_1
  refine wpAny_pure ⟨_, rfl, ?_⟩
  show Q (.ref p2.objs.size) _
  have up : ∀ c o, p2.get? c = some o → (p2.push { cls := .type "tuple", data := .seq #[x1, x2] }).get? c = some o := fun c o e => Heap.get?_push_of_some _ e
  have hpp : IsTupOf2 (p2.push { cls := .type "tuple", data := .seq #[x1, x2] }) p2.objs.size x1 x2 := Heap.get?_push_size _ rfl
  have hz4 : (p2.push { cls := .type "tuple", data := .seq #[x1, x2] }).objs.size = p2.objs.size + 1 := Heap.size_push ..
  rw [hsz] at hpp hz4 ⊢
  exact hQ x1 x2 _ tk2 hx1 hx2 (up _ _ hzz) (D1.frame _ _ _ hj1 fun b _ o e => up b o e) (D2.frame _ _ _ sn2 fun b _ o e => up b o e) hpp hz4 fun c o cz c1 c2 e => up c o (hkk c o cz c1 c2 e)
theorem held_end {Q : Fin → Shared → Prop} (S : ZipSep2 z TI TO i1 i2 fp1 fp2) (D1 : Draws prog w A i1 fp1 n1 P1 St1) (D2 : Draws prog w A i2 fp2 n2 P2 St2)
    (hz : IsZipHeld s.heap z TI TO T f) (hT : s.heap.get? T = some oT) (hTI : IsTupOf2 s.heap TI (.ref i1) (.ref i2)) (st1 : St1 i s.heap) (st2 : St2 i s.heap) (hle1 : i ≤ n1) (hle2 : i ≤ n2) (hend : i = n1 ∨ i = n2)
    (hE : ∀ h' tk e, (∀ c o, c ≠ z → c ≠ i1 → c ≠ i2 → s.heap.get? c = some o → h'.get? c = some o) → (∃ o, h'.get? e = some o ∧ o.cls = .type "StopIteration") → E (.ref e) { s with heap := h', toks := tk }) :
    wpAny (model prog w) A (Builtin.«zip.__next__» ⟨[.ref z], []⟩) Q E s := by
  obtain ⟨hp, g, d, tk0, os⟩ := s
  show wpAny _ _ (field (.ref z) 2 >>= _) _ _ _
  refine wpAny_bind (wpAny_field hz rfl (x := .bool false) rfl ?_)
  show wpAny _ _ (field (.ref z) 3 >>= _) _ _ _
  refine wpAny_bind (wpAny_field hz rfl (x := .ref TI) rfl ?_)
  refine wpAny_bind (wpAny_seqItems hTI rfl ?_)
  show wpAny _ _ (Builtin.SmallTypes.ownedTupleIsFree (.ref z) >>= _) _ _ _
  refine wpAny_bind (wpAny_tupleHeld_zip hz hT fun g0 hz0 hs0 => ?_)
  replace hs0 : Heap.SameBut z hp g0 := hs0
  simp only [Bool.false_eq_true, if_false]
  refine wpAny_bind ?_
  rw [← Array.forIn_toList]
  simp only [List.forIn_cons, List.forIn_nil]
  refine wpAny_bind (wpAny_bind (wpAny_holding ?_))
  show wpAny _ _ (Builtin.SmallTypes.nextOf (.ref i1) >>= _) _ _ ⟨g0, g, d, tk0, os⟩
  by_cases hlt1 : i < n1
  · refine wpAny_bind (D1.item i _ _ _ hlt1 (D1.over st1 hs0 S.zf1) fun x1 p1 tk1 hx1 sn1 hp1 => wpAny_pure ?_)
    replace hp1 : Heap.SameBut i1 g0 p1 := hp1
    have hi2 : i = n2 := by omega
    refine wpAny_pure ?_
    refine wpAny_bind (wpAny_bind (wpAny_holding ?_))
    show wpAny _ _ (Builtin.SmallTypes.nextOf (.ref i2) >>= _) _ _ ⟨p1, g, d, tk1, os⟩
    refine wpAny_bind (D2.done ⟨p1, g, d, tk1, os⟩ _ _ (by rw [← hi2]; exact (D2.over (D2.over st2 hs0 S.zf2) hp1 S.sep1_2)) fun q e hq he => ?_)
    exact hE q tk1 e (fun c o cz c1 c2 x => hq _ _ c2 (hp1.extBut _ _ c1 (hs0.extBut _ _ cz x))) he
  · have hi1 : i = n1 := by omega
    refine wpAny_bind (D1.done ⟨g0, g, d, tk0, os⟩ _ _ (by rw [← hi1]; exact (D1.over st1 hs0 S.zf1)) fun q e hq he => ?_)
    exact hE q tk0 e (fun c o cz c1 c2 x => hq _ _ c1 (hs0.extBut _ _ cz x)) he
theorem next_held_item {Q : Option Value → Shared → Prop} (S : ZipSep2 z TI TO i1 i2 fp1 fp2) (D1 : Draws prog w A.in1 i1 fp1 n1 P1 St1) (D2 : Draws prog w A.in1 i2 fp2 n2 P2 St2)
    (hz : IsZipHeld s.heap z TI TO T f) (hT : s.heap.get? T = some oT) (hTI : IsTupOf2 s.heap TI (.ref i1) (.ref i2)) (st1 : St1 i s.heap) (st2 : St2 i s.heap) (hlt1 : i < n1) (hlt2 : i < n2)
    (hQ : ∀ x1 x2 h' tk, P1 i x1 → P2 i x2 → IsZipHeld h' z TI TO T true → St1 (i + 1) h' → St2 (i + 1) h' → IsTupOf2 h' s.heap.objs.size x1 x2 → h'.objs.size = s.heap.objs.size + 1 →
      (∀ c o, c ≠ z → c ≠ i1 → c ≠ i2 → s.heap.get? c = some o → h'.get? c = some o) → Q (some (.ref s.heap.objs.size)) { s with heap := h', toks := tk }) :
    wpAny (model prog w) A (pyNext (.ref z)) Q E s := by
  have hTy : s.TypeIs (.ref z) "zip" := ⟨_, hz, rfl⟩
  unfold pyNext
  exact wpAny_bind (wpAny_attempt (wpAny_callSpecial?_slot (name := Str.ofString "__next__") hTy F.slot_zip_next
    (wpAny_call_entry F.slot_zip_next hTy F.entry_zip_next
      (held_item S D1 D2 hz hT hTI st1 st2 hlt1 hlt2 fun x1 x2 h' tk a1 a2 a3 a4 a5 a6 a7 a8 => wpAny_pure (hQ x1 x2 h' tk a1 a2 a3 a4 a5 a6 a7 a8)) (F.args_zip_next_1 _))))
theorem next_held_end {Q : Option Value → Shared → Prop} (hh : A.handled = none) (S : ZipSep2 z TI TO i1 i2 fp1 fp2) (D1 : Draws prog w A.in1 i1 fp1 n1 P1 St1) (D2 : Draws prog w A.in1 i2 fp2 n2 P2 St2)
    (hz : IsZipHeld s.heap z TI TO T f) (hT : s.heap.get? T = some oT) (hTI : IsTupOf2 s.heap TI (.ref i1) (.ref i2)) (st1 : St1 i s.heap) (st2 : St2 i s.heap) (hle1 : i ≤ n1) (hle2 : i ≤ n2) (hend : i = n1 ∨ i = n2)
    (hQ : ∀ h' tk, (∀ c o, c ≠ z → c ≠ i1 → c ≠ i2 → s.heap.get? c = some o → h'.get? c = some o) → Q none { s with heap := h', toks := tk }) : wpAny (model prog w) A (pyNext (.ref z)) Q E s := by
  have hTy : s.TypeIs (.ref z) "zip" := ⟨_, hz, rfl⟩
  unfold pyNext
  refine wpAny_bind (wpAny_attempt (wpAny_callSpecial?_slot (name := Str.ofString "__next__") hTy F.slot_zip_next
    (wpAny_call_entry F.slot_zip_next hTy F.entry_zip_next (held_end S D1 D2 hz hT hTI st1 st2 hle1 hle2 hend fun h' tk e hk he => ?_) (F.args_zip_next_1 _))))
  obtain ⟨o, ho, hc⟩ := he
  refine wpAny_bind (wpAny_isInstance (T := "StopIteration") (b := true) ⟨o, ho, hc⟩ isSubtype_stop ?_)
  exact wpAny_pure (hQ _ _ hk)
/-- the zip's state: nothing given out, or the last pair held by another -/
structure ZSt (h : Heap) (z TI TO i1 i2 S : Addr) (St1 St2 : Nat → Heap → Prop) (i : Nat) : Prop where
  z : IsZip h z TI TO .none ∨ ∃ T f oT, IsZipHeld h z TI TO T f ∧ h.get? T = some oT ∧ T ≠ S ∧ T ≠ z ∧ T ≠ TO ∧ T ≠ i1 ∧ T ≠ i2
  ti : IsTupOf2 h TI (.ref i1) (.ref i2)
  to : ∃ a1 a2, IsTupOf2 h TO a1 a2
  s1 : St1 i h
  s2 : St2 i h
theorem ZSt.keep {h h' : Heap} {S : Addr} (D1 : Draws prog w A i1 fp1 n1 P1 St1) (D2 : Draws prog w A i2 fp2 n2 P2 St2) (st : ZSt h z TI TO i1 i2 S St1 St2 i) (hk : ∀ b o, b ≠ S → h.get? b = some o → h'.get? b = some o) (hz : z ≠ S) (hTI : TI ≠ S) (hTO : TO ≠ S) (h1 : S ∉ fp1) (h2 : S ∉ fp2) :
    ZSt h' z TI TO i1 i2 S St1 St2 i where
  z := by
    rcases st.z with e | ⟨T, f, oT, e1, e2, e3, e4⟩
    · exact .inl (hk _ _ hz e)
    · exact .inr ⟨T, f, oT, hk _ _ hz e1, hk _ _ e3 e2, e3, e4⟩
  ti := hk _ _ hTI st.ti
  to := by
    obtain ⟨a1, a2, e⟩ := st.to
    exact ⟨a1, a2, hk _ _ hTO e⟩
  s1 := D1.frame _ _ _ st.s1 fun b hb o e => hk b o (fun q => h1 (q ▸ hb)) e
  s2 := D2.frame _ _ _ st.s2 fun b hb o e => hk b o (fun q => h2 (q ▸ hb)) e
theorem zst_item {S : Addr} {Q : Option Value → Shared → Prop} (Z : ZipSep2 z TI TO i1 i2 fp1 fp2) (D1 : Draws prog w A.in1 i1 fp1 n1 P1 St1) (D2 : Draws prog w A.in1 i2 fp2 n2 P2 St2) (st : ZSt s.heap z TI TO i1 i2 S St1 St2 i) (hlt1 : i < n1) (hlt2 : i < n2) (hS : S < s.heap.objs.size)
    (hQ : ∀ x1 x2 h' tk, P1 i x1 → P2 i x2 → ZSt h' z TI TO i1 i2 S St1 St2 (i + 1) → IsTupOf2 h' s.heap.objs.size x1 x2 → h'.objs.size = s.heap.objs.size + 1 →
      (∀ c o, c ≠ z → c ≠ TO → c ≠ i1 → c ≠ i2 → s.heap.get? c = some o → h'.get? c = some o) → Q (some (.ref s.heap.objs.size)) { s with heap := h', toks := tk }) :
    wpAny (model prog w) A (pyNext (.ref z)) Q E s := by
  obtain ⟨a1, a2, hTO⟩ := st.to
  have l1 : i1 < s.heap.objs.size := let ⟨_, e⟩ := D1.live _ _ st.s1; Heap.lt_size e
  have l2 : i2 < s.heap.objs.size := let ⟨_, e⟩ := D2.live _ _ st.s2; Heap.lt_size e
  have lO : TO < s.heap.objs.size := Heap.lt_size hTO
  rcases st.z with hz | ⟨T, f, oT, hz, hT, e3, e4, e5, e6, e7⟩
  · have lz : z < s.heap.objs.size := Heap.lt_size hz
    refine wpAny_pyNext_zipD2_item Z D1 D2 hz st.ti hTO st.s1 st.s2 hlt1 hlt2 fun x1 x2 h' tk y1 y2 b1 b2 d1 d2 b5 b6 b7 => hQ x1 x2 h' tk y1 y2 ⟨.inr ⟨_, false, _, b1, b5, Nat.ne_of_gt hS, Nat.ne_of_gt lz, Nat.ne_of_gt lO, Nat.ne_of_gt l1, Nat.ne_of_gt l2⟩, b7 _ _ Z.TIz Z.TITO Z.TIi1 Z.TIi2 st.ti, ⟨_, _, b2⟩, d1, d2⟩ b5 b6 b7
  · have lz : z < s.heap.objs.size := Heap.lt_size hz
    refine next_held_item Z D1 D2 hz hT st.ti st.s1 st.s2 hlt1 hlt2 fun x1 x2 h' tk y1 y2 b1 d1 d2 b5 b6 b7 => hQ x1 x2 h' tk y1 y2 ⟨.inr ⟨T, true, oT, b1, b7 _ _ e4 e6 e7 hT, e3, e4, e5, e6, e7⟩, b7 _ _ Z.TIz Z.TIi1 Z.TIi2 st.ti, ⟨_, _, b7 _ _ Z.TOz Z.Ti1 Z.Ti2 hTO⟩, d1, d2⟩ b5 b6 fun c o h1 _ h3 h4 e => b7 c o h1 h3 h4 e
theorem zst_end {S : Addr} {Q : Option Value → Shared → Prop} (hh : A.handled = none) (Z : ZipSep2 z TI TO i1 i2 fp1 fp2) (D1 : Draws prog w A.in1 i1 fp1 n1 P1 St1) (D2 : Draws prog w A.in1 i2 fp2 n2 P2 St2) (st : ZSt s.heap z TI TO i1 i2 S St1 St2 i) (hle1 : i ≤ n1) (hle2 : i ≤ n2) (hend : i = n1 ∨ i = n2)
    (hQ : ∀ h' tk, (∀ c o, c ≠ z → c ≠ TO → c ≠ i1 → c ≠ i2 → s.heap.get? c = some o → h'.get? c = some o) → Q none { s with heap := h', toks := tk }) : wpAny (model prog w) A (pyNext (.ref z)) Q E s := by
  obtain ⟨a1, a2, hTO⟩ := st.to
  rcases st.z with hz | ⟨T, f, oT, hz, hT, e3, e4⟩
  · exact wpAny_pyNext_zipD2_end Z D1 D2 hz st.ti hTO st.s1 st.s2 hle1 hle2 hend hQ
  · exact next_held_end hh Z D1 D2 hz hT st.ti st.s1 st.s2 hle1 hle2 hend fun h' tk hk => hQ h' tk fun c o h1 _ h3 h4 e => hk c o h1 h3 h4 e
end
/-- pairs made one by one, above lo -/
structure Made2 (P1 P2 : Nat → Value → Prop) (lo : Addr) (h : Heap) (as : List Addr) : Prop where
  rise : as.Pairwise (· < ·)
  above : ∀ a ∈ as, lo < a
  there : ∀ a ∈ as, a < h.objs.size
  pairs : ∀ (j : Nat) (a : Addr), as[j]? = some a → ∃ x y, P1 j x ∧ P2 j y ∧ IsTupOf2 h a x y
section
variable {prog : Program} {w : World} {A : Around} {s : Shared} {R : Result → Shared → Prop} {z TI TO i1 i2 : Addr} {fp1 fp2 : List Addr} {n1 n2 : Nat} {P1 P2 : Nat → Value → Prop} {St1 St2 : Nat → Heap → Prop}
theorem loopZ {S : Addr} (hh : A.handled = none) (Z : ZipSep2 z TI TO i1 i2 fp1 fp2) (D1 : Draws prog w A.in1.in1 i1 fp1 n1 P1 St1) (D2 : Draws prog w A.in1.in1 i2 fp2 n2 P2 St2) (hSz : S ≠ z) (hSI : S ≠ TI) (hSO : S ≠ TO) (hS1 : S ∉ fp1) (hS2 : S ∉ fp2)
    (lo : Addr) (hzl : z ≤ lo) (hTl : TO ≤ lo) (h1l : i1 ≤ lo) (h2l : i2 ≤ lo) (hSl : S ≤ lo) (hn : min n1 n2 ≤ sizeLine) (res : Value) {h₁ : Heap}
    (hR : ∀ h' tk acc c as, (∀ b o, b ≠ S → b ≠ z → b ≠ TO → b ≠ i1 → b ≠ i2 → h₁.get? b = some o → h'.get? b = some o) → h'.get? S = some { cls := .type "list", dict := none, data := .seq acc c, slots := #[] } → as.length = min n1 n2 → Made2 P1 P2 lo h' as →
      acc.toList = as.map Value.ref → R (.ok (.ret res)) { s with heap := h', toks := tk }) :
    ∀ (k i : Nat) (h : Heap) (tk c : Nat) (acc : Array Value) (as : List Addr), min n1 n2 - i = k → i ≤ min n1 n2 → ZSt h z TI TO i1 i2 S St1 St2 i → (∀ b o, b ≠ S → b ≠ z → b ≠ TO → b ≠ i1 → b ≠ i2 → h₁.get? b = some o → h.get? b = some o) →
      h.get? S = some { cls := .type "list", dict := none, data := .seq acc c, slots := #[] } → acc.toList = as.map Value.ref → as.length = i → Made2 P1 P2 lo h as → lo < h.objs.size →
      codeAny (model prog w) A (.builtin "list.extend.loop" ⟨[.ref S, .ref z, res], []⟩) R { s with heap := h, toks := tk } := by
  have hS1' : S ≠ i1 := fun e => hS1 (e ▸ Z.mem1)
  have hS2' : S ≠ i2 := fun e => hS2 (e ▸ Z.mem2)
  intro k
  induction k with
  | zero =>
    intro i h tk c acc as hk hi hst hkeep hS hacc hal hG hIs
    refine codeAny_builtin PySem.F.entry_extend_loop ?_
    rw [Around.under_plainId PySem.F.plain_extend_loop _]
    show wpAny _ A.in1 (pyNext (.ref z) >>= _) _ _ _
    refine wpAny_bind (zst_end (s := { s with heap := h, toks := tk }) (A := A.in1) hh Z D1 D2 hst (by omega) (by omega) (by omega) fun h' tk' he => ?_)
    refine wpAny_pure (hR h' tk' acc c as (fun b o h1 h2 h3 h4 h5 e => he b o h2 h3 h4 h5 (hkeep b o h1 h2 h3 h4 h5 e)) (he S _ hSz hSO hS1' hS2' hS) (by omega) ⟨hG.rise, hG.above, ?_, fun j a hj => ?_⟩ hacc)
    · intro a ha
      obtain ⟨j, hj⟩ := List.mem_iff_getElem?.mp ha
      obtain ⟨x, y, e1, e2, e3⟩ := hG.pairs j a hj
      have gt := hG.above a ha
      exact Heap.lt_size (he a _ (Nat.ne_of_gt (Nat.lt_of_le_of_lt hzl gt)) (Nat.ne_of_gt (Nat.lt_of_le_of_lt hTl gt)) (Nat.ne_of_gt (Nat.lt_of_le_of_lt h1l gt)) (Nat.ne_of_gt (Nat.lt_of_le_of_lt h2l gt)) e3)
    · obtain ⟨x, y, e1, e2, e3⟩ := hG.pairs j a hj
      have gt := hG.above a (List.mem_of_getElem? hj)
      exact ⟨x, y, e1, e2, he a _ (Nat.ne_of_gt (Nat.lt_of_le_of_lt hzl gt)) (Nat.ne_of_gt (Nat.lt_of_le_of_lt hTl gt)) (Nat.ne_of_gt (Nat.lt_of_le_of_lt h1l gt)) (Nat.ne_of_gt (Nat.lt_of_le_of_lt h2l gt)) e3⟩
  | succ k ih =>
    intro i h tk c acc as hk hi hst hkeep hS hacc hal hG hIs
    have hlt : i < min n1 n2 := by omega
    have hsz : acc.size = i := by rw [← Array.length_toList, hacc, List.length_map, hal]
    refine codeAny_builtin PySem.F.entry_extend_loop ?_
    rw [Around.under_plainId PySem.F.plain_extend_loop _]
    show wpAny _ A.in1 (pyNext (.ref z) >>= _) _ _ _
    refine wpAny_bind (zst_item (s := { s with heap := h, toks := tk }) (A := A.in1) (S := S) Z D1 D2 hst (by omega) (by omega) (Heap.lt_size hS) fun x1 x2 h' tk' y1 y2 hst' ht hz hkp => ?_)
    dsimp only at ht hz hkp ⊢
    have hS' := hkp S _ hSz hSO hS1' hS2' hS
    have up : ∀ b o, b ≠ S → h'.get? b = some o → (h'.update S (Obj.mapSeq (·.push (Value.ref h.objs.size)))).get? b = some o := fun b o hb e => (Heap.get?_update_other _ _ (Ne.symm hb)).trans e
    have hSlt : S < h.objs.size := Heap.lt_size hS
    have hsz2 : (h'.update S (Obj.mapSeq (·.push (Value.ref h.objs.size)))).objs.size = h'.objs.size := (Heap.SameBut.update ..).1
    have old : ∀ a ∈ as, ∀ o, h.get? a = some o → (h'.update S (Obj.mapSeq (·.push (Value.ref h.objs.size)))).get? a = some o := fun a ha o e => by
      have gt := hG.above a ha
      exact up a o (Nat.ne_of_gt (Nat.lt_of_le_of_lt hSl gt)) (hkp a o (Nat.ne_of_gt (Nat.lt_of_le_of_lt hzl gt)) (Nat.ne_of_gt (Nat.lt_of_le_of_lt hTl gt)) (Nat.ne_of_gt (Nat.lt_of_le_of_lt h1l gt)) (Nat.ne_of_gt (Nat.lt_of_le_of_lt h2l gt)) e)
    show wpAny _ A.in1 (updateSeq S (·.push (Value.ref h.objs.size)) >>= _) _ _ _
    refine wpAny_bind ?_
    refine wpAny_updateSeq hS' rfl (wpAny_pure ⟨plainId_quiet PySem.F.plain_extend_loop _, ih (i + 1) _ tk' _ (acc.push (Value.ref h.objs.size)) (as ++ [h.objs.size]) (by omega) hlt (hst'.keep D1 D2 up (Ne.symm hSz) (Ne.symm hSI) (Ne.symm hSO) hS1 hS2)
      (fun b o h1 h2 h3 h4 h5 e => up b o h1 (hkp b o h2 h3 h4 h5 (hkeep b o h1 h2 h3 h4 h5 e))) (Heap.get?_update_self _ hS' rfl) (by rw [Array.toList_push, hacc, List.map_append]; rfl) (by rw [List.length_append, hal]; rfl) ⟨?_, ?_, ?_, ?_⟩ ?_⟩) (by rw [hsz]; omega) (by show (acc.push (Value.ref h.objs.size)).size ≤ sizeLine + 1; rw [Array.size_push, hsz]; omega)
    · refine List.pairwise_append.mpr ⟨hG.rise, List.pairwise_singleton _ _, fun a ha b hb => ?_⟩
      rw [List.mem_singleton.mp hb]
      exact hG.there a ha
    · intro a ha
      rcases List.mem_append.mp ha with ha | ha
      · exact hG.above a ha
      · rw [List.mem_singleton.mp ha]; exact hIs
    · intro a ha
      rw [hsz2, hz]
      rcases List.mem_append.mp ha with ha | ha
      · exact Nat.lt_succ_of_lt (hG.there a ha)
      · rw [List.mem_singleton.mp ha]; exact Nat.lt_succ_self _
    · intro j b hj
      rcases Nat.lt_trichotomy j as.length with h1 | h1 | h1
      · rw [List.getElem?_append_left h1] at hj
        obtain ⟨x, y, e1, e2, e3⟩ := hG.pairs j b hj
        exact ⟨x, y, e1, e2, old b (List.mem_of_getElem? hj) _ e3⟩
      · subst h1
        have hb : h.objs.size = b := by simpa using hj
        subst hb
        rw [← hal] at y1 y2
        exact ⟨x1, x2, y1, y2, up _ _ (Nat.ne_of_gt hSlt) ht⟩
      · have hnone : (as ++ [h.objs.size])[j]? = none := List.getElem?_eq_none (by rw [List.length_append, List.length_singleton]; omega)
        rw [hnone] at hj; cases hj
    · rw [hsz2, hz]
      exact Nat.lt_succ_of_lt hIs
end
theorem zip_no_len : typeLookup (.type "zip") "__len__" = pure none := by rw [typeLookup_type, builtinLookup_eq_fast]; kernel_rfl
theorem zip_no_hint : typeLookup (.type "zip") "__length_hint__" = pure none := by rw [typeLookup_type, builtinLookup_eq_fast]; kernel_rfl
section
variable {prog : Program} {w : World} {A : Around} {E : Value → Shared → Prop} {s : Shared} {z TI TO i1 i2 : Addr} {fp1 fp2 : List Addr} {n1 n2 : Nat} {P1 P2 : Nat → Value → Prop} {St1 St2 : Nat → Heap → Prop}
theorem hintZ {Q : Bool → Shared → Prop} (hT : s.TypeIs (.ref z) "zip") (h : Q true s) : wpAny (model prog w) A (Builtin.List.listLengthHint (.ref z)) Q E s := by
  unfold Builtin.List.listLengthHint
  refine wpAny_bind (wpAny_specialOf hT zip_no_len ?_)
  show wpAny _ A (specialOf (Value.ref z) (Str.ofString "__length_hint__") >>= _) _ _ _
  refine wpAny_bind (wpAny_specialOf hT zip_no_hint ?_)
  exact wpAny_pure h
theorem extZ {R : Result → Shared → Prop} {S : Addr} (hh : A.handled = none) (Z : ZipSep2 z TI TO i1 i2 fp1 fp2) (D1 : Draws prog w A.in1.in1 i1 fp1 n1 P1 St1) (D2 : Draws prog w A.in1.in1 i2 fp2 n2 P2 St2) (hSz : S ≠ z) (hSI : S ≠ TI) (hSO : S ≠ TO) (hS1 : S ∉ fp1) (hS2 : S ∉ fp2)
    (lo : Addr) (hzl : z ≤ lo) (hTl : TO ≤ lo) (h1l : i1 ≤ lo) (h2l : i2 ≤ lo) (hSl : S ≤ lo) (hn : min n1 n2 ≤ sizeLine) (res : Value) (hz0 : IsZip s.heap z TI TO .none) (st : ZSt s.heap z TI TO i1 i2 S St1 St2 0) (hIs : lo < s.heap.objs.size) (hS : ∃ c₀, s.heap.get? S = some { cls := .type "list", data := .seq #[] c₀ })
    (hR : ∀ h' tk acc c as, (∀ b o, b ≠ S → b ≠ z → b ≠ TO → b ≠ i1 → b ≠ i2 → s.heap.get? b = some o → h'.get? b = some o) → h'.get? S = some { cls := .type "list", dict := none, data := .seq acc c, slots := #[] } → as.length = min n1 n2 → Made2 P1 P2 lo h' as →
      acc.toList = as.map Value.ref → R (.ok (.ret res)) { s with heap := h', toks := tk }) :
    wpAny (model prog w) A.in1 (Builtin.List.listExtendWith (.ref S) (.ref z) res)
      (fun fin s' => match fin with | .done f => R (.ok f) s' | .again c' => c'.quiet = true ∧ codeAny (model prog w) A c' R s') (fun e s' => R (.error e) s') s := by
  obtain ⟨c₀, hS⟩ := hS
  have key : ∀ (h : Heap) (c₁ tk : Nat), (∀ b o, b ≠ S → s.heap.get? b = some o → h.get? b = some o) → s.heap.objs.size ≤ h.objs.size →
      h.get? S = some { cls := .type "list", data := .seq #[] c₁ } → codeAny (model prog w) A (.builtin "list.extend.loop" ⟨[.ref S, .ref z, res], []⟩) R { s with heap := h, toks := tk } := by
    intro h c₁ tk hk hsz hS₁
    exact loopZ (s := s) (h₁ := s.heap) hh Z D1 D2 hSz hSI hSO hS1 hS2 lo hzl hTl h1l h2l hSl hn res hR
      (min n1 n2) 0 h tk c₁ #[] [] (Nat.sub_zero _) (Nat.zero_le _) (st.keep D1 D2 hk (Ne.symm hSz) (Ne.symm hSI) (Ne.symm hSO) hS1 hS2) (fun b o hb _ _ _ _ e => hk b o hb e) hS₁ rfl rfl
      ⟨List.Pairwise.nil, (fun _ ha => nomatch ha), (fun _ ha => nomatch ha), (fun j a hj => by simp at hj)⟩ (Nat.lt_of_lt_of_le hIs hsz)
  have hT : s.TypeIs (.ref z) "zip" := ⟨_, hz0, rfl⟩
  unfold Builtin.List.listExtendWith
  refine wpAny_bind (wpAny_typeOf (T := "zip") hT ?_)
  have h1 : Builtin.List.listSameRef (.ref S) (.ref z) = false := by simp [Builtin.List.listSameRef, hSz]
  have h2 : (Value.type "zip" == Value.type "list") = false := by decide
  have h3 : (Value.type "zip" == Value.type "tuple") = false := by decide
  simp only [h1, h2, h3, Bool.or_false, Bool.false_eq_true, if_false]
  refine wpAny_bind (wpAny_pyIter_zip hz0 ?_)
  refine wpAny_bind (wpAny_holding (hintZ hT ?_))
  refine wpAny_ite_split (fun _ => ?_) (fun _ => wpAny_pure ⟨plainId_quiet PySem.F.plain_extend_loop _, key _ c₀ _ (fun b o _ e => e) (Nat.le_refl _) hS⟩)
  refine wpAny_bind (wpAny_rule ?_)
  refine wpAny_bind ?_
  show wpAny _ _ (updateSeq S (·.push .none) >>= fun _ => updateSeq S (·.pop)) _ _ _
  refine wpAny_bind (wpAny_updateSeq hS rfl ?_)
  have hS₂ := Heap.get?_update_self (Obj.mapSeq (·.push Value.none)) hS rfl
  refine wpAny_updateSeq (hz := by seq_fits) hS₂ rfl ?_
  have hS₃ := Heap.get?_update_self (Obj.mapSeq (·.pop)) hS₂ rfl
  refine wpAny_pure ⟨plainId_quiet PySem.F.plain_extend_loop _, key _ _ _ (fun b o hb e => ?_) ?_ hS₃⟩
  · exact (Heap.get?_update_other _ _ (Ne.symm hb)).trans ((Heap.get?_update_other _ _ (Ne.symm hb)).trans e)
  · rw [(Heap.SameBut.update ..).1, (Heap.SameBut.update ..).1]
    exact Nat.le_refl _
/-- list(z), z a zip just made -/
theorem listZ {Q : Value → Shared → Prop} (hh : A.handled = none) (Z : ZipSep2 z TI TO i1 i2 fp1 fp2) (D1 : Draws prog w A.in1.in1.in1 i1 fp1 n1 P1 St1) (D2 : Draws prog w A.in1.in1.in1 i2 fp2 n2 P2 St2) (hz0 : IsZip s.heap z TI TO .none) (hTI : IsTupOf2 s.heap TI (.ref i1) (.ref i2)) (hTO : ∃ a1 a2, IsTupOf2 s.heap TO a1 a2) (st1 : St1 0 s.heap) (st2 : St2 0 s.heap)
    (hf1 : ∀ b ∈ fp1, b < s.heap.objs.size) (hf2 : ∀ b ∈ fp2, b < s.heap.objs.size) (hn : min n1 n2 ≤ sizeLine)
    (hQ : ∀ h' tk acc c as, (∀ b o, b ≠ z → b ≠ TO → b ≠ i1 → b ≠ i2 → s.heap.get? b = some o → h'.get? b = some o) → h'.get? s.heap.objs.size = some { cls := .type "list", dict := none, data := .seq acc c, slots := #[] } → as.length = min n1 n2 → Made2 P1 P2 s.heap.objs.size h' as →
      acc.toList = as.map Value.ref → Q (.ref s.heap.objs.size) { s with heap := h', toks := tk }) :
    wpAny (model prog w) A (call (.type "list") [.ref z]) Q E s := by
  refine callType_codes (Q₁ := fun obj s₁ => obj = .ref s.heap.objs.size ∧ s₁ = { s with heap := s.heap.push { cls := .type "list", data := .seq #[] } }) PySem.F.called_list (PySem.F.typeCall_list_1 _) PySem.F.entry_list_init
    (code_list_new _ ⟨rfl, rfl⟩) fun obj s₁ h₁ => ?_
  obtain ⟨rfl, rfl⟩ := h₁
  have hS : (s.heap.push { cls := .type "list", data := .seq #[] }).get? s.heap.objs.size = some { cls := .type "list", data := .seq #[] } := Heap.get?_push_size _ rfl
  have lz : z < s.heap.objs.size := Heap.lt_size hz0
  have lI : TI < s.heap.objs.size := Heap.lt_size hTI
  have lO : TO < s.heap.objs.size := let ⟨_, _, e⟩ := hTO; Heap.lt_size e
  have l1 : i1 < s.heap.objs.size := hf1 _ Z.mem1
  have l2 : i2 < s.heap.objs.size := hf2 _ Z.mem2
  have nS1 : s.heap.objs.size ∉ fp1 := fun e => Nat.lt_irrefl _ (hf1 _ e)
  have nS2 : s.heap.objs.size ∉ fp2 := fun e => Nat.lt_irrefl _ (hf2 _ e)
  have st : ZSt (s.heap.push { cls := .type "list", data := .seq #[] }) z TI TO i1 i2 s.heap.objs.size St1 St2 0 := by
    obtain ⟨a1, a2, e⟩ := hTO
    exact ⟨.inl (Heap.get?_push_of_some _ hz0), Heap.get?_push_of_some _ hTI, ⟨a1, a2, Heap.get?_push_of_some _ e⟩, D1.frame _ _ _ st1 fun b _ o e => Heap.get?_push_of_some _ e, D2.frame _ _ _ st2 fun b _ o e => Heap.get?_push_of_some _ e⟩
  refine ⟨⟨_, hS, rfl⟩, PySem.F.args_list_init_2 _ _, ?_⟩
  show wpAny _ _ (do let old ← Builtin.List.listItems (.ref s.heap.objs.size); Builtin.List.listUpdate (.ref s.heap.objs.size) (fun _ => #[]); letGo old.toList.reverse; Builtin.List.listExtendWith (.ref s.heap.objs.size) (.ref z) .none) _ _ _
  refine wpAny_bind ?_
  unfold Builtin.List.listItems
  refine wpAny_bind (wpAny_seqItems hS rfl (wpAny_pure ?_))
  show wpAny _ _ (updateSeq s.heap.objs.size (fun _ => #[]) >>= fun _ => letGo (#[] : Array Value).toList.reverse >>= fun _ => Builtin.List.listExtendWith (.ref s.heap.objs.size) (.ref z) .none) _ _ _
  refine wpAny_bind (wpAny_updateSeq hS rfl ?_)
  have hS₂ := Heap.get?_update_self (Obj.mapSeq (fun _ => (#[] : Array Value))) hS rfl
  have oth : ∀ b o, b ≠ s.heap.objs.size → (s.heap.push { cls := .type "list", data := .seq #[] }).get? b = some o → ((s.heap.push { cls := .type "list", data := .seq #[] }).update s.heap.objs.size (Obj.mapSeq (fun _ => (#[] : Array Value)))).get? b = some o :=
    fun b o hb e => (Heap.get?_update_other _ _ (Ne.symm hb)).trans e
  refine wpAny_bind (wpAny_letGo ?_)
  refine extZ (A := A.in1) hh Z D1 D2 (Nat.ne_of_gt lz) (Nat.ne_of_gt lI) (Nat.ne_of_gt lO) nS1 nS2 s.heap.objs.size (Nat.le_of_lt lz) (Nat.le_of_lt lO) (Nat.le_of_lt l1) (Nat.le_of_lt l2) (Nat.le_refl _) hn .none (oth _ _ (Nat.ne_of_lt lz) (Heap.get?_push_of_some _ hz0))
    (st.keep D1 D2 oth (Nat.ne_of_lt lz) (Nat.ne_of_lt lI) (Nat.ne_of_lt lO) nS1 nS2) (by rw [(Heap.SameBut.update ..).1, Heap.size_push]; exact Nat.lt_succ_self _) ⟨_, hS₂⟩ (fun h' tk acc c as hk hS' hl hG hacc => ?_)
  exact ⟨rfl, hQ h' tk acc c as (fun b o h1 h2 h3 h4 e => hk b o (Nat.ne_of_lt (Heap.lt_size e)) h1 h2 h3 h4 (oth b o (Nat.ne_of_lt (Heap.lt_size e)) (Heap.get?_push_of_some _ e))) hS' hl hG hacc⟩
end
end Dz

/-! Dx6: lists of pairs made at once. -/
namespace Dw
open PySem PySem.Spec PyProof.Rows L2
def putP : Hp → List Addr → List (V × V) → Hp
  | H, a :: as, p :: ps => putP (upd H a (.tup [p.1, p.2])) as ps
  | H, _, _ => H
theorem putP_off {b : Addr} : ∀ (as : List Addr) (ps : List (V × V)) (H : Hp), b ∉ as → putP H as ps b = H b
  | [], _, _, _ => rfl
  | _ :: _, [], _, _ => rfl
  | a :: as, p :: ps, H, h => by
    show putP (upd H a (.tup [p.1, p.2])) as ps b = H b
    rw [putP_off as ps _ (fun z => h (List.mem_cons_of_mem _ z)), upd_ne (fun z => h (by rw [z]; exact List.mem_cons_self))]
theorem putP_at : ∀ (as : List Addr) (ps : List (V × V)) (H : Hp), as.length = ps.length → as.Nodup → ∀ (j : Nat) (t : Addr) (p : V × V), as[j]? = some t → ps[j]? = some p → putP H as ps t = some (.tup [p.1, p.2])
  | [], _, _, _, _, j, t, p, e, _ => by simp at e
  | _ :: _, [], _, h, _, _, _, _, _, _ => by cases h
  | a :: as, q :: ps, H, h, hn, j, t, p, e1, e2 => by
    have hn' := List.nodup_cons.mp hn
    cases j with
    | zero =>
      have e1 : a = t := by simpa using e1
      have e2 : q = p := by simpa using e2
      subst e1 e2
      show putP (upd H a (.tup [q.1, q.2])) as ps a = some (.tup [q.1, q.2])
      rw [putP_off as ps _ hn'.1, upd_same]
    | succ j => exact putP_at as ps (upd H a (.tup [q.1, q.2])) (Nat.succ.inj h) hn'.2 j t p (by simpa using e1) (by simpa using e2)
/-- a list of new pairs -/
def rPairs (ps : List (V × V)) (H : Hp) (Q : VK) : Prop := ∀ (l : Addr) (ts : List Addr), H l = none → (∀ t ∈ ts, H t = none) → l ∉ ts → ts.Nodup → ts.length = ps.length → Q (.ref l) (putP (upd H l (.lst (ts.map V.ref))) ts ps)
/-- what the machine has laid -/
theorem pairs_laid {X : Cx} {pins : List (Addr × Obj)} {σ : L2.St} {H : Hp} {s : Shared} {h' : Heap} {tk : Nat} {ps : List (V × V)} {acc : Array Value} {c : Nat} {as : List Addr} (I : L2.Inv X pins σ H s) (hz : ps.length ≤ sizeLine)
    (hk : ∀ b o, s.heap.get? b = some o → h'.get? b = some o) {S : Addr} (hSs : s.heap.objs.size ≤ S) (hS : h'.get? S = some { cls := .type "list", dict := none, data := .seq acc c, slots := #[] }) (hl : as.length = ps.length) (rise : as.Pairwise (· < ·)) (above : ∀ a ∈ as, S < a)
    (hp : ∀ (j : Nat) (a : Addr) (p : V × V), as[j]? = some a → ps[j]? = some p → ∃ x y, RelV p.1 x ∧ RelV p.2 y ∧ h'.get? a = some { cls := .type "tuple", data := .seq #[x, y] }) (hacc : acc.toList = as.map Value.ref) :
    H S = none ∧ (∀ t ∈ as, H t = none) ∧ S ∉ as ∧ as.Nodup ∧ L2.Inv X pins σ (putP (upd H S (.lst (as.map V.ref))) as ps) { s with heap := h', toks := tk } := by
  have hSn : S ∉ as := fun z => Nat.lt_irrefl _ (above _ z)
  have nd : as.Nodup := List.Pairwise.imp (fun {a b} (h : a < b) => Nat.ne_of_lt h) rise
  have new : ∀ t ∈ as, H t = none := fun t ht => I.hok.fresh (Nat.le_trans hSs (Nat.le_of_lt (above t ht)))
  have newS : H S = none := I.hok.fresh hSs
  have off : ∀ b, b ∉ as → b ≠ S → putP (upd H S (.lst (as.map V.ref))) as ps b = H b := fun b h1 h2 => by rw [putP_off as ps _ h1, upd_ne h2]
  have low : ∀ b o, s.heap.get? b = some o → b ∉ as ∧ b ≠ S := fun b o e => ⟨fun z => absurd (Heap.lt_size e) (Nat.not_lt.mpr (Nat.le_trans hSs (Nat.le_of_lt (above b z)))), Nat.ne_of_lt (Nat.lt_of_lt_of_le (Heap.lt_size e) hSs)⟩
  have kp : ∀ b u, H b = some u → (putP (upd H S (.lst (as.map V.ref))) as ps) b = some u := fun b u e => by
    rw [off b (fun z => by rw [new b z] at e; cases e) (fun z => by rw [z, newS] at e; cases e)]
    exact e
  have eS : putP (upd H S (.lst (as.map V.ref))) as ps S = some (.lst (as.map V.ref)) := by rw [putP_off as ps _ hSn, upd_same]
  refine ⟨newS, new, hSn, nd, ?_⟩
  refine I.call' (ch := []) rfl ⟨fun b o q _ _ _ => hk b o q, fun b o q _ _ _ => ⟨o.slots, hk b o q⟩, fun b o q n _ => ?_, fun b o q _ => ⟨o, hk b o q⟩, fun b xs q => kp b _ q, fun b o u q => kp b _ q, fun b ps q => ⟨#[], by rw [kp b _ q]; simp⟩⟩ (fun b u q => ?_) I.bare fun b z => by simp at z
  · obtain ⟨z1, z2⟩ := low b o q
    rw [off b z1 z2]
    exact n
  · by_cases hb : b ∈ as
    · obtain ⟨j, hj⟩ := List.mem_iff_getElem?.mp hb
      have hlt : j < ps.length := by rw [← hl]; exact (List.getElem?_eq_some_iff.mp hj).1
      have e2 : ps[j]? = some ps[j] := List.getElem?_eq_getElem hlt
      rw [putP_at as ps _ hl nd j b _ hj e2] at q
      cases q
      obtain ⟨x, y, g1, g2, g3⟩ := hp j b _ hj e2
      exact ⟨by show 2 ≤ sizeLine; decide, [x, y], .cons g1 (.cons g2 .nil), ⟨_, g3, rfl, _, rfl⟩⟩
    · by_cases hb2 : b = S
      · rw [hb2] at q ⊢
        rw [eS] at q
        cases q
        refine ⟨by rw [List.length_map]; omega, acc.toList, c, by rw [hacc]; exact LiI.vals_refs as, ?_⟩
        rw [Array.toArray_toList]
        exact hS
      · rw [off b hb hb2] at q
        exact (I.hok b u q).stay (fun d v _ y => hk d v y) (fun d y => kp d _ y) fun d xs y => kp d _ y
section
variable {Tb : List (Addr × Str)} {K : PySem.W.Frag} {F R H : Hp} {σ : L2.St} {env : List Sl}
theorem EnvOk.newPs : ∀ (ts : List Addr) (ps : List (V × V)) {F H : Hp}, EnvOk K Tb F R H σ env → (∀ t ∈ ts, H t = none) → ts.Nodup → EnvOk K Tb (putP F ts ps) R (putP H ts ps) σ env ∧ Same F (putP F ts ps)
  | [], _, F, H, E, _, _ => ⟨E, Same.refl F⟩
  | _ :: _, [], F, H, E, _, _ => ⟨E, Same.refl F⟩
  | t :: ts, p :: ps, F, H, E, h, nd => by
    have nd' := List.nodup_cons.mp nd
    obtain ⟨E1, s1⟩ := E.newF (h t List.mem_cons_self) (.tup [p.1, p.2])
    obtain ⟨E2, s2⟩ := EnvOk.newPs ts ps E1 (fun t' ht => by
      rw [upd_ne (fun z => nd'.1 (by rw [← z]; exact ht))]
      exact h t' (List.mem_cons_of_mem _ ht)) nd'.2
    exact ⟨E2, s1.trans s2⟩
theorem repL_pairs {F' : Hp} {ds : List (PD × PD)} : ∀ {ts : List Addr} {ps : List (V × V)}, ts.length = ps.length → ds.length = ps.length → (∀ (j : Nat) (t : Addr) (p : V × V), ts[j]? = some t → ps[j]? = some p → F' t = some (.tup [p.1, p.2])) →
    (∀ (j : Nat) (d : PD × PD) (p : V × V), ds[j]? = some d → ps[j]? = some p → Rep K F' d.1 p.1 ∧ Rep K F' d.2 p.2) → RepL K F' (ds.map fun d => .tuple [d.1, d.2]) (ts.map V.ref) := by
  induction ds with
  | nil =>
    intro ts ps h1 h2 _ _
    have : ps = [] := List.eq_nil_of_length_eq_zero h2.symm
    subst this
    have : ts = [] := List.eq_nil_of_length_eq_zero h1
    subst this
    rfl
  | cons d ds ih =>
    intro ts ps h1 h2 h3 h4
    cases ps with
    | nil => cases h2
    | cons p ps =>
      cases ts with
      | nil => cases h1
      | cons t ts =>
        obtain ⟨r1, r2⟩ := h4 0 d p rfl rfl
        refine ⟨.ref t, ts.map V.ref, rfl, ⟨t, [p.1, p.2], rfl, .inl (.inl (h3 0 t p rfl rfl)), p.1, [p.2], rfl, r1, p.2, [], rfl, r2, rfl⟩, ?_⟩
        exact ih (Nat.succ.inj h1) (Nat.succ.inj h2) (fun j t' p' e1 e2 => h3 (j + 1) t' p' (by simpa using e1) (by simpa using e2)) (fun j d' p' e1 e2 => h4 (j + 1) d' p' (by simpa using e1) (by simpa using e2))
/-- a new list of new pairs of data -/
theorem EnvOk.pairs {ds : List (PD × PD)} {ps : List (V × V)} {P : VK} (E : EnvOk K Tb F R H σ env) (hl : ds.length = ps.length) (hr : ∀ (j : Nat) (d : PD × PD) (p : V × V), ds[j]? = some d → ps[j]? = some p → Rep K F d.1 p.1 ∧ Rep K F d.2 p.2)
    (k : ∀ (l : Addr) (F' H' : Hp), Same F F' → EnvOk K Tb F' R H' σ env → ResOk K F' R H' env (.ref l) (Sl.own l (.lst (ds.map fun d => .tuple [d.1, d.2]))) → P (.ref l) H') : rPairs ps H P := fun l ts h1 h2 h3 h4 h5 => by
  obtain ⟨f1, f2, f3⟩ := E.fresh h1
  have E1 := E.growU (p := l) (u := .lst (ts.map V.ref)) h1 noTb_lst
  obtain ⟨E2, s2⟩ := EnvOk.newPs ts ps E1 (fun t ht => by
    rw [upd_ne (fun z => h3 (by rw [← z]; exact ht))]
    exact h2 t ht) h4
  refine k l _ _ s2 E2 ⟨rfl, ?_, f2, f3, _, ?_, ts.map V.ref, rfl, ?_⟩
  · rw [putP_off ts ps F h3]; exact f1
  · rw [putP_off ts ps _ h3, upd_same]
  · exact repL_pairs h5 hl (fun j t p e1 e2 => putP_at ts ps F h5 h4 j t p e1 e2) fun j d p e1 e2 => ⟨(hr j d p e1 e2).1.mono s2, (hr j d p e1 e2).2.mono s2⟩
end
section
variable {X : Cx} {a b : Expr} {ta : TA} {p p2 pos pos2 : Pos}
def tListZip (K : PySem.W.Frag) (ta : TA) : TE := fun σ H Q => ta σ H fun vs H1 => ∃ u v xs ys, vs = [.ref u, .ref v] ∧ (SqL K H1 u xs ∨ SqT K H1 u xs) ∧ (SqL K H1 v ys ∨ SqT K H1 v ys) ∧ rPairs (xs.zip ys) H1 Q
/-- one of the two: it is walked, and stands -/
theorem src {pins : List (Addr × Obj)} {σ : L2.St} {H : Hp} {s : Shared} {u : Addr} {xs : List V} (I : L2.Inv X pins σ H s) (h : SqL X.K H u xs ∨ SqT X.K H u xs) : ∃ (us : List Value) (o : Obj) (B : Heap → Prop), Vals xs us ∧ xs.length ≤ sizeLine ∧ u < s.heap.objs.size ∧ Begins (.ref u) o B ∧ B s.heap ∧
    ∀ (A : Around) (it : Addr), A.handled = none → u ≠ it → ∃ (St : Nat → Heap → Prop), Draws X.prog X.w A it [it, u] us.length (fun i v => us.toArray[i]? = some v) St ∧ ∀ h' : Heap, (∀ c o, s.heap.get? c = some o → h'.get? c = some o) → h'.get? it = some o → St 0 h' := by
  rcases h with h | h
  · obtain ⟨us, r, hp, hz⟩ := I.list h
    have hl := hp.isList
    refine ⟨us, _, _, r, hz, hp.lt, begins_list u us.toArray, hl, fun A it hh hne => ⟨_, Draws.list hh it u hne us.toArray, fun h' hk hit => ⟨⟨_, hit, rfl, rfl⟩, hl.at fun o e => hk u o e⟩⟩⟩
  · obtain ⟨us, r, hp, hz⟩ := I.tuple h
    have hl : s.heap.IsTuple u us.toArray := hp
    have lt : u < s.heap.objs.size := let ⟨_, e, _⟩ := hp; Heap.lt_size e
    refine ⟨us, _, _, r, hz, lt, begins_tuple u us.toArray, hl, fun A it hh hne => ⟨_, Draws.tuple hh it u hne us.toArray, fun h' hk hit => ⟨⟨_, hit, rfl, rfl⟩, hl.at fun o e => hk u o e⟩⟩⟩
theorem pe_listZip (hc : X.calm = true) (ha : PA X [a, b] ta) (hg : Gl X "list") (hm : X.mg "list" = none) (hgz : Gl X "zip") (hmz : X.mg "zip" = none)
    (hs : starEach [.Call (.Name "zip" p2) [a, b] [] pos2] X.env = (false, eval (.Call (.Name "zip" p2) [a, b] [] pos2) X.env) :: starEach [] X.env := by rfl)
    (hs2 : starEach [a, b] X.env = (false, eval a X.env) :: starEach [b] X.env := by rfl) (hpl : (backTo pos2 (starEach [b] X.env)).any (·.1) = false := by rfl) :
    PE X (.Call (.Name "list" p) [.Call (.Name "zip" p2) [a, b] [] pos2] [] pos) (tListZip X.K ta) := by
  refine ⟨fun pins s σ H Q I hq => ?_⟩
  refine wpAny_Call_Name_kw (ld_blt I hg hm PyProof.Rows.boot_list ?_)
  refine PyProof.Rows.callWith_type1 ?_ hs rfl
  rw [hs]
  show wpAny _ _ (spliced ((false, eval (.Call (.Name "zip" p2) [a, b] [] pos2) X.env) :: backTo pos (starEach [] X.env))) _ _ s
  refine Calls.spliced_cons ?_
  refine Call_ (ld_blt I hgz hmz PyProof.Rows.boot_zip (PyProof.Rows.callWith_type1 (thn (ha.run pos2 pins s σ H _ I hq) fun us s1 ⟨vs, H1, I1, r1, q1⟩ => ?_) hs2 hpl))
  obtain ⟨u, v, xs, ys, ex, hx, hy, q⟩ := q1
  subst ex
  cases r1 with
  | cons ru rr =>
    cases rr with
    | cons rv rr =>
      cases rr
      cases ru
      cases rv
      obtain ⟨us, o1, B1, r1, z1, l1, b1, hb1, d1⟩ := src I1 hx
      obtain ⟨ws, o2, B2, r2, z2, l2, b2, hb2, d2⟩ := src I1 hy
      refine zip_begins2 b1 b2 hb1 hb2 fun h' hz hTI hTO h1 h2 hsz hk => ?_
      refine Calls.spliced_nil ?_
      obtain ⟨St1, D1, k1⟩ := d1 X.A.in1.in1.in1 s1.heap.objs.size (I1.ok.hd hc) (Nat.ne_of_lt l1)
      obtain ⟨St2, D2, k2⟩ := d2 X.A.in1.in1.in1 (s1.heap.objs.size + 1) (I1.ok.hd hc) (Nat.ne_of_lt (Nat.lt_succ_of_lt l2))
      have sep := zip_sep2 (N := s1.heap.objs.size) (fp1 := [u]) (fp2 := [v]) (fun c hcm => by rw [List.mem_singleton.mp hcm]; exact l1) (fun c hcm => by rw [List.mem_singleton.mp hcm]; exact l2)
      have I2 : Inv X pins σ H1 { s1 with heap := h' } := I1.kept (t' := s1.toks) hk
      have e1 : xs.length = us.length := r1.length
      have e2 : ys.length = ws.length := r2.length
      refine Dz.listZ (s := { s1 with heap := h' }) (I1.ok.hd hc) sep D1 D2 hz hTI ⟨_, _, hTO⟩ (k1 h' hk h1) (k2 h' hk h2) (fun c hcm => ?_) (fun c hcm => ?_) (by omega) fun h2' tk acc c as hkk hS hl hG hacc => ?_
      · show c < h'.objs.size
        rw [hsz]
        rcases List.mem_cons.mp hcm with e | e
        · rw [e]; exact Nat.lt_add_of_pos_right (by omega)
        · rw [List.mem_singleton.mp e]; exact Nat.lt_of_lt_of_le l1 (Nat.le_add_right _ _)
      · show c < h'.objs.size
        rw [hsz]
        rcases List.mem_cons.mp hcm with e | e
        · rw [e]; exact Nat.add_lt_add_left (by omega) _
        · rw [List.mem_singleton.mp e]; exact Nat.lt_of_lt_of_le l2 (Nat.le_add_right _ _)
      · have hkk2 : ∀ b o, s1.heap.get? b = some o → h2'.get? b = some o := fun b o e => by
          have lb := Heap.lt_size e
          have nb : ∀ k : Nat, b ≠ s1.heap.objs.size + k := fun k z => by
            have : (s1.heap.objs.size + k : Nat) < s1.heap.objs.size := by rw [← z]; exact lb
            omega
          exact hkk b o (nb 4) (nb 3) (nb 0) (nb 1) (hk b o e)
        have hlz : as.length = (xs.zip ys).length := by rw [hl, List.length_zip, e1, e2]
        obtain ⟨n1, n2, n3, n4, J⟩ := pairs_laid (tk := tk) I1 (ps := xs.zip ys) (by rw [List.length_zip]; omega) hkk2 (S := h'.objs.size) (by rw [hsz]; exact Nat.le_add_right _ _) hS hlz hG.rise hG.above (fun j t pr hj hp => by
          obtain ⟨x, y, f1, f2, f3⟩ := hG.pairs j t hj
          have hpz : xs[j]? = some pr.1 ∧ ys[j]? = some pr.2 := by
            rw [List.getElem?_zip_eq_some] at hp
            exact hp
          obtain ⟨x', g1, g2⟩ := r1.get hpz.1
          obtain ⟨y', g3, g4⟩ := r2.get hpz.2
          have f1' : us[j]? = some x := by simpa using f1
          have f2' : ws[j]? = some y := by simpa using f2
          rw [g1] at f1'; rw [g3] at f2'
          cases f1'; cases f2'
          exact ⟨_, _, g2, g4, f3⟩) hacc
        exact ⟨.ref _, _, J, rfl, q _ as n1 n2 n3 n4 hlz⟩
end
section
variable {Γ : Gm} {env : List Sl} {Q : PD → List Sl → Prop} {QX : RS → List Sl → Prop} {a b : Expr} {p p2 pos pos2 : Pos}
theorem ex_listZip (h : EVs Γ [a, b] env fun ds e1 => ∃ d1 d2 xs ys, ds = [d1, d2] ∧ items d1 = some xs ∧ items d2 = some ys ∧ ∀ l, QX (Sl.own l (.lst (zipP xs ys))) e1)
    (hg : Γ.sc.names.lookup ("list" : Str) = some .globalImplicit) (hm : Γ.mg ("list" : Str) = none) (hgz : Γ.sc.names.lookup ("zip" : Str) = some .globalImplicit) (hmz : Γ.mg ("zip" : Str) = none)
    (hs : NoStar (.Call (.Name "zip" p2) [a, b] [] pos2) [] := by intro _; rfl) (hs2 : NoStar a [b] := by intro _; rfl) (hpl : NoStarAny [b] pos2 := by intro _; rfl) : EX Γ (.Call (.Name "list" p) [.Call (.Name "zip" p2) [a, b] [] pos2] [] pos) env QX := .mk fun F R H σ P E w k =>
  ⟨tListZip Γ.K (WA Γ [a, b]), fun X g => by rw [← g.K]; exact pe_listZip g.calm (WA.pa g) (by unfold Gl Env.kindOf; rw [g.sc]; exact hg) (by rw [g.mg]; exact hm) (by unfold Gl Env.kindOf; rw [g.sc]; exact hgz) (by rw [g.mg]; exact hmz) (hs _) (hs2 _) (hpl _),
  h.run F R H σ _ E w fun ds e1 vs F1 H1 q s1 E1 r => by
    obtain ⟨d1, d2, xs, ys, rfl, i1, i2, q⟩ := q
    obtain ⟨v1, _, rfl, r1, v2, _, rfl, r2, rfl⟩ := r
    have sq : ∀ {d : PD} {ds : List PD} {v : V}, items d = some ds → Rep Γ.K F1 d v → ∃ u us, v = .ref u ∧ (SqL Γ.K H1 u us ∨ SqT Γ.K H1 u us) ∧ RepL Γ.K F1 ds us := by
      intro d ds v hd hr
      cases d with
      | list l =>
        cases hd
        obtain ⟨u, us, rfl, h1, h2⟩ := hr
        exact ⟨u, us, rfl, .inl (seqR E1.exF h1), h2⟩
      | tuple l =>
        cases hd
        obtain ⟨u, us, rfl, h1, h2⟩ := hr
        exact ⟨u, us, rfl, .inr (Same.sqt E1.exF h1), h2⟩
      | none => cases hd
      | bool _ => cases hd
      | int _ => cases hd
      | str _ => cases hd
      | dict _ => cases hd
    obtain ⟨u1, us1, rfl, g1, g2⟩ := sq i1 r1
    obtain ⟨u2, us2, rfl, g3, g4⟩ := sq i2 r2
    refine ⟨u1, u2, us1, us2, rfl, g1, g3, EnvOk.pairs (ds := xs.zip ys) E1 (by rw [List.length_zip, List.length_zip, g2.length, g4.length]) (fun j d p e1 e2 => ?_) fun l F' H' s' E' z => ?_⟩
    · rw [List.getElem?_zip_eq_some] at e1 e2
      obtain ⟨w1, h1, h2⟩ := g2.get e1.1
      obtain ⟨w2, h3, h4⟩ := g4.get e1.2
      rw [h1] at e2; rw [h3] at e2
      rw [← Option.some.inj e2.1, ← Option.some.inj e2.2]
      exact ⟨h2, h4⟩
    · have e : ((xs.zip ys).map fun d => PyData.tuple [d.1, d.2]) = zipP xs ys := by
        unfold zipP
        rw [List.zip, List.map_zipWith]
      rw [e] at z
      exact k _ e1 _ F' H' (q l) (s1.trans s') E' z⟩
end
end Dw

/-! Dx7: dicts: their items, what is made of pairs, stores, displays. -/
namespace Dw
open PySem PySem.Spec PyProof.Rows L2
/-- an object that is nobody's is changed -/
theorem EnvOk.other {Tb : List (Addr × Str)} {K : PySem.W.Frag} {F R H : Hp} {σ : L2.St} {env : List Sl} {p : Addr} {u u' : HO} (E : EnvOk K Tb F R H σ env) (f1 : F p = none) (f2 : R p = none) (f3 : p ∉ owns env) (hu : H p = some u) (n1 : NoTb u) (n2 : ∀ c q, u ≠ LamX.CodeO c q) (n3 : NoTb u') : EnvOk K Tb F R (upd H p u') σ env where
  exF := fun b o e => by
    rw [upd_ne (ne_of_none e f1)]
    exact E.exF b o e
  exR := fun b o e => by
    rw [upd_ne (ne_of_none e f2)]
    exact E.exR b o e
  dis := E.dis
  len := E.len
  nd := E.nd
  tb := fun t ht => by
    obtain ⟨ps, t1, t2, t3⟩ := E.tb t ht
    refine ⟨ps, by rw [upd_ne (fun z => by rw [z, hu] at t1; exact n1 ps (Option.some.inj t1))]; exact t1, t2, fun ps2 cv hc => ?_⟩
    obtain ⟨c, z1, z2⟩ := t3 ps2 cv hc
    exact ⟨c, z1, by rw [upd_ne (fun z => by rw [z, hu] at z2; exact n2 _ _ (Option.some.inj z2))]; exact z2⟩
  nt := fun b ps e => E.nt b ps (tb_upd n3 b ps e)
  slot := fun i v s e1 e2 => by
    refine SlotOk.grow (Same.refl F) (E.slot i v s e1 e2) fun q o e => ?_
    subst e
    refine ⟨(E.own_fr (owns_mem.mpr ⟨i, o, e2⟩)).1, upd_ne fun z => ?_⟩
    subst z
    exact f3 (owns_mem.mpr ⟨i, o, e2⟩)
section
variable {X : Cx} {e : Expr} {te : TE} {p apos cpos pos : Pos}
theorem dictR {pins : List (Addr × Obj)} {σ : L2.St} {H : Hp} {s : Shared} {d : Addr} {kvs : List (Key × V)} (I : L2.Inv X pins σ H s) (h : Rd H d (.dK kvs)) :
    kvs.length ≤ sizeLine ∧ (d == sysModules) = false ∧ ∃ (vs : List (Key × Value)) (ep : Nat), KV kvs vs ∧ s.heap.DictAt (mixKind X.prog X.w) d vs ep := by
  rcases h with h | ⟨o, h⟩
  · obtain ⟨hz, hs0, vs, kv, hdo⟩ := I.hok d _ h
    obtain ⟨ep, hat⟩ := hdo.dictAt
    exact ⟨hz, hs0, vs, ep, kv, hat⟩
  · obtain ⟨_, hz, _⟩ := I.hok d _ h
    obtain ⟨hs, _, _, es, ep, vs, hdt, hsz, kv, hm⟩ := I.frzK h
    exact ⟨hz, hs, vs, ep, kv, hm⟩
def tItemsP (te : TE) : TE := fun σ H Q => te σ H fun x H1 => ∃ d kvs, x = .ref d ∧ Rd H1 d (.dK kvs) ∧ rPairs (kvs.map fun q => (kV q.1, q.2)) H1 Q
theorem pe_itemsP (hc : X.calm = true) (he : PE X e te) (hg : Gl X "list") (hm : X.mg "list" = none) (hbase : attributeBase e "items" X.env (eval e X.env) = eval e X.env := by rfl) (hline : (apos.endLine == cpos.line) = true := by rfl)
    (hs : starEach [.Call (.Attribute e "items" apos) [] [] cpos] X.env = (false, eval (.Call (.Attribute e "items" apos) [] [] cpos) X.env) :: starEach [] X.env := by rfl) :
    PE X (.Call (.Name "list" p) [.Call (.Attribute e "items" apos) [] [] cpos] [] pos) (tItemsP te) := by
  refine ⟨fun pins s σ H Q I hq => ?_⟩
  refine wpAny_Call_Name_kw (ld_blt I hg hm PyProof.Rows.boot_list ?_)
  refine PyProof.Rows.callWith_type1 ?_ hs rfl
  rw [hs]
  show wpAny _ _ (spliced ((false, eval (.Call (.Attribute e "items" apos) [] [] cpos) X.env) :: backTo pos (starEach [] X.env))) _ _ s
  refine Calls.spliced_cons ?_
  refine wpAny_Call_method (T := "dict") (id := "dict.items") hbase rfl hline F.plainAttrs_dict F.slot_dict_items F.type_dict_items (thn (he.run pins s σ H _ I hq) fun u s1 ⟨x, H1, I1, rx, d, kvs, ex, hd, q⟩ => ?_)
  subst ex
  obtain rfl : u = Value.ref d := rx
  obtain ⟨hz, hs0, vs, ep, kv, hat⟩ := dictR I1 hd
  have lk : kvs.length = vs.length := Paired.length kv
  have I2 : L2.Inv X pins σ H1 { s1 with heap := s1.heap.push { cls := .type "dict_items", data := .fields #[.ref d] } } := I1.kept (t' := s1.toks) fun b ob q => Heap.get?_push_of_some _ q
  have hdo := hat.dictOf
  refine ⟨hdo.typeIs, hdo.mapOf.noDict, ?_⟩
  show wpAny _ _ (callWith cpos (.builtin "dict.items") [.ref d] [] []) _ X.xe s1
  refine method_meetsIn F.slot_dict_items F.entry_dict_items rfl (PySem.evalArgs_none ⟨rfl, hdo.typeIs, F.args_dict_items_1 _, _, meets_dict_items (mixKind X.prog X.w) d hs0, ⟨vs, hdo⟩, ?_⟩)
  refine Calls.spliced_nil ?_
  refine PySem.W.kdx_call (knd := mixKind X.prog X.w) (kvs := vs) (ep := ep) (I1.ok.hd hc) ⟨_, Heap.get?_push_size _ rfl, rfl, rfl⟩ (hat.push _) (by omega) fun h' tk acc c as hk hS hl hG hacc => ?_
  have hlz : as.length = (kvs.map fun q => (kV q.1, q.2)).length := by rw [List.length_map, hl, lk]
  obtain ⟨n1, n2, n3, n4, J⟩ := pairs_laid (tk := tk) I2 (ps := kvs.map fun q => (kV q.1, q.2)) (by rw [List.length_map]; exact hz) hk (S := _) (Nat.le_refl _) hS hlz hG.rise hG.above (fun j t pr hj hp => by
    rw [List.getElem?_map] at hp
    cases hk2 : kvs[j]? with
    | none => rw [hk2] at hp; cases hp
    | some q =>
      rw [hk2] at hp
      have hp := Option.some.inj hp
      subst hp
      obtain ⟨key, k, x, f1, f2, f3⟩ := hG.pairs j t hj
      obtain ⟨qv, g1, g2, g3⟩ := LiI.paired_get kv hk2
      rw [f1] at g1
      cases g1
      have rk : RelV (kV q.1) key := by
        rw [g2]
        exact relV_key (show keyIs k key = true from f2)
      exact ⟨key, x, rk, g3, f3⟩) hacc
  exact ⟨.ref _, _, J, rfl, q _ as n1 n2 n3 n4 hlz⟩
end
theorem keyD_rep {K : PySem.W.Frag} {F : Hp} {d : PD} {k : Key} (h : keyD d = some k) : Rep K F d (kV k) := by
  cases d with
  | int i => have e : k = .inl i := (Option.some.inj h).symm; rw [e]; exact rfl
  | str z => have e : k = .inr z := (Option.some.inj h).symm; rw [e]; exact rfl
  | none => cases h
  | bool _ => cases h
  | list _ => cases h
  | tuple _ => cases h
  | dict _ => cases h
theorem keyD_val {K : PySem.W.Frag} {F : Hp} {d : PD} {k : Key} {v : V} (h : keyD d = some k) (r : Rep K F d v) : v = kV k := by
  cases d with
  | int i => have e : k = .inl i := (Option.some.inj h).symm; rw [e]; exact r
  | str z => have e : k = .inr z := (Option.some.inj h).symm; rw [e]; exact r
  | none => cases h
  | bool _ => cases h
  | list _ => cases h
  | tuple _ => cases h
  | dict _ => cases h
theorem RepD.length {K : PySem.W.Frag} {F : Hp} : ∀ {ds : List (PD × PD)} {kv : List (Key × V)}, RepD K F ds kv → kv.length = ds.length
  | [], _, h => by rw [show _ = [] from h]; rfl
  | _ :: _, _, ⟨k, v, r, e, _, h⟩ => by rw [e, List.length_cons, List.length_cons, RepD.length h]
theorem RepD.get {K : PySem.W.Frag} {F : Hp} : ∀ {ds : List (PD × PD)} {kv : List (Key × V)} {j : Nat} {d : PD × PD}, RepD K F ds kv → ds[j]? = some d → ∃ k v, kv[j]? = some (k, v) ∧ keyD d.1 = some k ∧ Rep K F d.2 v
  | [], _, _, _, _, e => by simp at e
  | (a, b) :: ds, _, 0, d, ⟨k, v, r, e, ⟨h1, h2⟩, h⟩, e2 => by
    subst e
    have e2 : (a, b) = d := by simpa using e2
    subst e2
    exact ⟨k, v, rfl, h1, h2⟩
  | (a, b) :: ds, _, j + 1, d, ⟨k, v, r, e, _, h⟩, e2 => by
    subst e
    obtain ⟨k', v', g1, g2, g3⟩ := RepD.get (j := j) (d := d) h (by simpa using e2)
    exact ⟨k', v', by simpa using g1, g2, g3⟩
/-- the items of a dict, as pairs -/
def itemsP (kvs : List (PD × PD)) : List PD := kvs.map fun d => .tuple [d.1, d.2]
section
variable {Tb : List (Addr × Str)} {Γ : Gm} {env : List Sl} {Q : PD → List Sl → Prop} {QX : RS → List Sl → Prop} {D : EndsD} {a b c e : Expr} {es : List Expr} {p apos cpos pos : Pos}
/-- list(e.items()) -/
theorem ex_items (h : EV Γ e env fun d e1 => ∃ kvs, d = .dict kvs ∧ ∀ l, QX (Sl.own l (.lst (itemsP kvs))) e1)
    (hg : Γ.sc.names.lookup ("list" : Str) = some .globalImplicit) (hm : Γ.mg ("list" : Str) = none)
    (hbase : ∀ env : Env, attributeBase e "items" env (eval e env) = eval e env := by intro _; rfl) (hline : (apos.endLine == cpos.line) = true := by rfl) (hs : NoStar (.Call (.Attribute e "items" apos) [] [] cpos) [] := by intro _; rfl) :
    EX Γ (.Call (.Name "list" p) [.Call (.Attribute e "items" apos) [] [] cpos] [] pos) env QX := .mk fun F R H σ P E w k =>
  ⟨tItemsP (WE Γ e), fun X g => pe_itemsP g.calm (WE.pe g) (by unfold Gl Env.kindOf; rw [g.sc]; exact hg) (by rw [g.mg]; exact hm) (hbase _) hline (hs _), h.run F R H σ _ E w fun d e1 v F1 H1 q s1 E1 r => by
    obtain ⟨kvs, rfl, q⟩ := q
    obtain ⟨u, kv, rfl, h1, h2⟩ := r
    refine ⟨u, kv, rfl, Same.rd E1.exF h1, EnvOk.pairs (ds := kvs) E1 (by rw [List.length_map, h2.length]) (fun j d p e1 e2 => ?_) fun l F' H' s' E' z => k _ e1 _ F' H' (q l) (s1.trans s') E' z⟩
    obtain ⟨k', v', g1, g2, g3⟩ := h2.get e1
    rw [List.getElem?_map, g1] at e2
    have e2 := Option.some.inj e2
    subst e2
    exact ⟨keyD_rep g2, g3⟩⟩
/-! ### stores -/
def putD (kvs : List (PD × PD)) (k v : PD) : List (PD × PD) := if (kvs.any fun q => decide (keyD q.1 = keyD k)) = true then kvs.map (fun q => if keyD q.1 = keyD k then (q.1, v) else q) else kvs ++ [(k, v)]
theorem repD_any {K : PySem.W.Frag} {F : Hp} {k : Key} : ∀ {ds : List (PD × PD)} {kv : List (Key × V)}, RepD K F ds kv → (kv.any fun q => decide (q.1 = k)) = ds.any fun q => decide (keyD q.1 = some k)
  | [], _, h => by rw [show _ = [] from h]; rfl
  | (a, b) :: ds, _, ⟨k', v, r, e, ⟨h1, h2⟩, h⟩ => by
    subst e
    rw [List.any_cons, List.any_cons, repD_any h, h1]
    simp
theorem repD_map {K : PySem.W.Frag} {F : Hp} {k : Key} {dv : PD} {v : V} (rv : Rep K F dv v) : ∀ {ds : List (PD × PD)} {kv : List (Key × V)}, RepD K F ds kv → RepD K F (ds.map fun q => if keyD q.1 = some k then (q.1, dv) else q) (kv.map fun q => if q.1 = k then (q.1, v) else q)
  | [], _, h => by rw [show _ = [] from h]; rfl
  | (a, b) :: ds, _, ⟨k', v', r, e, ⟨h1, h2⟩, h⟩ => by
    subst e
    rw [List.map_cons, List.map_cons]
    by_cases hk : k' = k
    · subst hk
      rw [if_pos h1, if_pos rfl]
      exact ⟨_, _, _, rfl, ⟨h1, rv⟩, repD_map rv h⟩
    · rw [if_neg (show ¬ (keyD a = some k) from fun z => hk (by rw [h1] at z; exact Option.some.inj z)), if_neg hk]
      exact ⟨_, _, _, rfl, ⟨h1, h2⟩, repD_map rv h⟩
theorem RepD.append {K : PySem.W.Frag} {F : Hp} : ∀ {ds es : List (PD × PD)} {kv lw : List (Key × V)}, RepD K F ds kv → RepD K F es lw → RepD K F (ds ++ es) (kv ++ lw)
  | [], _, _, _, h, g => by rw [show _ = [] from h]; exact g
  | _ :: _, _, _, _, ⟨k, v, r, e, h1, h⟩, g => ⟨k, v, r ++ _, by rw [e]; rfl, h1, RepD.append h g⟩
theorem repD_put {K : PySem.W.Frag} {F : Hp} {k : Key} {dk dv : PD} {v : V} {ds : List (PD × PD)} {kv : List (Key × V)} (h : RepD K F ds kv) (hk : keyD dk = some k) (rv : Rep K F dv v) : RepD K F (putD ds dk dv) (putK kv k v) := by
  unfold putD putK
  rw [repD_any h, hk]
  split
  · exact repD_map rv h
  · exact h.append ⟨k, v, [], rfl, ⟨hk, rv⟩, rfl⟩
/-- x[e1] = e2, x one's own dict -/
theorem sd_dput {i : Nat} {x : Str} {npos tpos : Pos} {e1 e2 : Expr} (h : EV Γ e2 env fun d a1 => ∃ p kvs, a1[i]? = some (Sl.own p (.dct kvs)) ∧ EV Γ e1 a1 fun dk a2 => ∃ k kvs', keyD dk = some k ∧ a2[i]? = some (Sl.own p (.dct kvs')) ∧ kvs'.length < 100000 ∧ D.nx (a2.set i (Sl.own p (.dct (putD kvs' dk d)))))
    (hN : Γ.N[i]? = some x) (hv : Vis Γ.sc x) (hd : (x == ("__debug__" : Str)) = false := by decide +kernel) (hcd : (x == ("__classdict__" : Str)) = false := by decide +kernel)
    (hs : ∀ env : Env, swapsWith e2 (some (.Subscript (.Name x npos) e1 tpos)) pos.line env = pure false := by intro _; rfl) :
    SD Γ (.Assign [.Subscript (.Name x npos) e1 tpos] e2 pos) env D := .mk fun F R H σ E o w k =>
  ⟨sDPut (tVar i) (WE Γ e1) (WE Γ e2), fun X g => ps_dput (Nat.lt_of_le_of_lt (Nat.add_le_add_left (by decide : 1 ≤ 64) _) g.room.units) (pe_var (by rw [g.N]; exact hN) (by rw [g.sc]; exact hv) hd hcd) (WE.pe g) (WE.pe g) (hs _),
  h.run F R H σ _ o w fun d a1 v F1 H1 q s1 o1 r => by
    obtain ⟨p, kvs, h0, q⟩ := q
    obtain ⟨h1, _⟩ := o1.getOwn h0
    refine ⟨_, h1, q.run F1 R H1 σ _ o1 (w.mono s1) fun dk a2 v2 F2 H2 q2 s2 o2 r2 => ?_⟩
    obtain ⟨kk, kvs', hk, e2, hl, q2⟩ := q2
    obtain ⟨_, z2, z3, u, z4, kv, rfl, z5⟩ := o2.getOwn e2
    rw [keyD_val hk r2]
    exact ⟨p, _, rfl, DPut.k z4 (by rw [z5.length]; exact Nat.lt_of_lt_of_le hl (by decide)), k.1 _ σ F2 _ q2 (s1.trans s2) (o2.mut e2 ⟨_, rfl, repD_put z5 hk (r.mono s2)⟩)⟩⟩
/-! ### displays -/
theorem ex_dnew (q : ∀ l, QX (Sl.own l (.dct [])) env) : EX Γ (.Dict [] [] pos) env QX := .mk fun F R H σ P E w k =>
  ⟨tDNewK, fun X g => pe_dnewK, fun l hl => by
    obtain ⟨f1, f2, f3⟩ := E.fresh hl
    exact k _ env _ F _ (q l) (Same.refl F) (E.growU hl noTb_dK) ⟨rfl, f1, f2, f3, _, upd_same, [], rfl, rfl⟩⟩
/-- one key, one value -/
theorem ex_d1 {k1 v1 : Expr} (h : EV Γ k1 env fun dk e1 => EV Γ v1 e1 fun dv e2 => ∃ k, keyD dk = some k ∧ ∀ l, QX (Sl.own l (.dct [(dk, dv)])) e2) : EX Γ (.Dict [some k1] [v1] pos) env QX := .mk fun F R H σ P E w k =>
  ⟨tDisp [(WE Γ k1, WE Γ v1)], fun X g => pe_disp (pps_cons (WE.pe g) (WE.pe g) pps_nil) rfl rfl (fun z => by cases z) (Nat.le_of_ble_eq_true rfl), fun l hl => by
    obtain ⟨f1, f2, f3⟩ := E.fresh hl
    have E1 := E.growU hl (noTb_dK (xs := []))
    have E2 := E1.hold f1 f2 f3 upd_same noTb_dK
    refine h.run F _ _ σ _ E2 (w.more (same_updR f2)) fun dk e1 x F1 H1 q s1 o1 r1 => q.run F1 _ H1 σ _ o1 ((w.mono s1).more (same_updR f2)) fun dv e2 y F2 H2 q2 s2 o2 r2 => ?_
    obtain ⟨kk, hk, q2⟩ := q2
    obtain ⟨g1, g2, g3⟩ := o2.held
    refine ⟨g3, [(kk, y)], by rw [keyD_val hk r1]; rfl, Nat.le_of_ble_eq_true rfl, k _ e2 _ F2 _ (q2 l) (s1.trans s2) ?_ ⟨rfl, g1, f2, g2, _, upd_same, [(kk, y)], rfl, kk, y, [], rfl, ⟨hk, r2⟩, rfl⟩⟩
    exact (o2.less (same_updR f2)).other g1 f2 g2 g3 noTb_dK (fun c q z => by unfold LamX.CodeO at z; cases z) noTb_dK⟩
/-- dict(ps), ps pairs of keys and values -/
theorem repD_merge {K : PySem.W.Frag} {F : Hp} : ∀ {ps : List (PD × PD)} {ds : List (PD × PD)} {kv lw : List (Key × V)}, RepD K F ds kv → RepD K F ps lw → RepD K F (ps.foldl (fun acc q => putD acc q.1 q.2) ds) (mergeK kv lw)
  | [], _, _, _, h, g => by rw [show _ = [] from g]; exact h
  | (a, b) :: ps, ds, kv, _, h, ⟨k, v, r, e, ⟨h1, h2⟩, g⟩ => by
    subst e
    show RepD K F (ps.foldl (fun acc q => putD acc q.1 q.2) (putD ds a b)) (mergeK (putK kv k v) r)
    exact repD_merge (ps := ps) (ds := putD ds a b) (kv := putK kv k v) (repD_put h h1 h2) g
/-- data that are pairs of keys and values -/
theorem pairs_of {K : PySem.W.Frag} {F : Hp} : ∀ {kvs : List (PD × PD)} {vs : List V}, (∀ q ∈ kvs, ∃ k, keyD q.1 = some k) → RepL K F (itemsP kvs) vs → ∃ (ts : List Addr) (kv : List (Key × V)), vs = ts.map V.ref ∧ RepD K F kvs kv ∧ Paired (fun t q => SqT K F t [kV q.1, q.2]) ts kv
  | [], _, _, h => ⟨[], [], by rw [show _ = [] from h]; rfl, rfl, .nil⟩
  | (a, b) :: kvs, _, hk, ⟨v, r, e, ⟨t, us, e1, h1, x, us', e2, rx, y, us'', e3, ry, e4⟩, h⟩ => by
    subst e e1 e2 e3
    have e4 : us'' = [] := e4
    subst e4
    obtain ⟨k, hk0⟩ := hk (a, b) List.mem_cons_self
    obtain ⟨ts, kv, g1, g2, g3⟩ := pairs_of (fun q hq => hk q (List.mem_cons_of_mem _ hq)) h
    subst g1
    rw [keyD_val hk0 rx] at h1
    exact ⟨t :: ts, (k, y) :: kv, rfl, ⟨k, y, kv, rfl, ⟨hk0, ry⟩, g2⟩, .cons h1 g3⟩
theorem cd_dict {kvs : List (PD × PD)} (hk : ∀ q ∈ kvs, ∃ k, keyD q.1 = some k) : CallD Γ (.type "dict") [.list (itemsP kvs)] (fun r => ∃ p, r = Sl.own p (.dct (kvs.foldl (fun acc q => putD acc q.1 q.2) []))) := .mk fun F R H σ env vs P E rs k => by
  obtain ⟨v, rfl, u, us, rfl, h1, h2⟩ := repL1 rs
  obtain ⟨ts, kv, rfl, g2, g3⟩ := pairs_of hk h2
  refine ⟨fun xs H Q => ∃ (a : Addr) (ps : List Addr) (kvs : List (Key × V)), xs = [.ref a] ∧ SqL Γ.K H a (ps.map V.ref) ∧ Paired (fun p kv => SqT Γ.K H p [kV kv.1, kv.2]) ps kvs ∧ ∀ p, H p = none → Q (.ref p) (upd H p (.dK (mergeK [] kvs))), fun X g => by
    have := call_dictP (X := X) g.calm
    rw [g.K] at this
    exact this, u, ts, kv, rfl, seqR E.exF h1, ?_, fun p hp => ?_⟩
  · have : ∀ {ts : List Addr} {kv : List (Key × V)}, Paired (fun t q => SqT Γ.K F t [kV q.1, q.2]) ts kv → Paired (fun t q => SqT Γ.K H t [kV q.1, q.2]) ts kv := by
      intro ts kv h
      induction h with
      | nil => exact .nil
      | cons a _ ih => exact .cons (Same.sqt E.exF a) ih
    exact this g3
  · obtain ⟨f1, f2, f3⟩ := E.fresh hp
    exact k (Sl.own p _) _ F _ ⟨p, rfl⟩ (Same.refl F) (E.growU hp noTb_dK) ⟨rfl, f1, f2, f3, _, upd_same, _, rfl, repD_merge (K := Γ.K) (F := F) (ds := []) rfl g2⟩
end
end Dw

/-! Dx8: enumerate; the items of a dict, walked. -/
namespace Dw
open PySem PySem.Spec PyProof.Rows L2
section
variable {K : PySem.W.Frag} {H H' : Hp}
/-- what is read in the one is read in the other -/
def SameR (H H' : Hp) : Prop := ∀ a u, (∀ o x, u ≠ .frz o x) → Rd H a u → Rd H' a u
theorem SameR.sqt (e : SameR H H') {a : Addr} {xs : List V} (h : SqT K H a xs) : SqT K H' a xs := by
  rcases h with h | h
  · exact .inl (e a _ (fun _ _ z => nomatch z) h)
  · exact .inr h
mutual
theorem Rep.monoR (e : SameR H H') : ∀ {d : PD} {v : V}, Rep K H d v → Rep K H' d v
  | .none, _, h => h
  | .bool _, _, h => h
  | .int _, _, h => h
  | .str _, _, h => h
  | .list xs, _, ⟨a, vs, e1, e2, e3⟩ => ⟨a, vs, e1, e a _ (fun _ _ z => nomatch z) e2, RepL.monoR e e3⟩
  | .tuple xs, _, ⟨a, vs, e1, e2, e3⟩ => ⟨a, vs, e1, SameR.sqt e e2, RepL.monoR e e3⟩
  | .dict kvs, _, ⟨a, kv, e1, e2, e3⟩ => ⟨a, kv, e1, e a _ (fun _ _ z => nomatch z) e2, RepD.monoR e e3⟩
theorem RepL.monoR (e : SameR H H') : ∀ {ds : List PD} {vs : List V}, RepL K H ds vs → RepL K H' ds vs
  | [], _, h => h
  | _ :: _, _, ⟨v, r, e1, e2, e3⟩ => ⟨v, r, e1, Rep.monoR e e2, RepL.monoR e e3⟩
theorem RepD.monoR (e : SameR H H') : ∀ {ds : List (PD × PD)} {vs : List (Key × V)}, RepD K H ds vs → RepD K H' ds vs
  | [], _, h => h
  | (_, _) :: _, _, ⟨k, v, r, e1, ⟨e2, e4⟩, e3⟩ => ⟨k, v, r, e1, ⟨e2, Rep.monoR e e4⟩, RepD.monoR e e3⟩
end
theorem OkO.monoR (e : SameR H H') : ∀ {o : OD} {u : HO}, OkO K H o u → OkO K H' o u
  | .lst _, _, ⟨vs, e1, e2⟩ => ⟨vs, e1, e2.monoR e⟩
  | .dct _, _, ⟨vs, e1, e2⟩ => ⟨vs, e1, e2.monoR e⟩
theorem sameR_lock {d : Addr} {od : Obj} {kv : List (Key × V)} (h : H d = some (.dK kv)) : SameR H (upd H d (.frz od (.dK kv))) := fun a u hu r => by
  by_cases ha : a = d
  · subst ha
    rcases r with r | ⟨o, r⟩
    · rw [h] at r
      cases r
      exact .inr ⟨od, upd_same⟩
    · rw [h] at r
      cases r
  · rcases r with r | ⟨o, r⟩
    · exact .inl (by rw [upd_ne ha]; exact r)
    · exact .inr ⟨o, by rw [upd_ne ha]; exact r⟩
theorem sameR_unlock {d : Addr} {od : Obj} {kv : List (Key × V)} (h : H d = some (.frz od (.dK kv))) : SameR H (upd H d (.dK kv)) := fun a u hu r => by
  by_cases ha : a = d
  · subst ha
    rcases r with r | ⟨o, r⟩
    · rw [h] at r
      cases r
      exact absurd rfl (hu _ _)
    · rw [h] at r
      cases r
      exact .inl upd_same
  · rcases r with r | ⟨o, r⟩
    · exact .inl (by rw [upd_ne ha]; exact r)
    · exact .inr ⟨o, by rw [upd_ne ha]; exact r⟩
end
section
variable {K : PySem.W.Frag} {Tb : List (Addr × Str)} {F R H : Hp} {σ : L2.St} {env : List Sl}
theorem EnvOk.swap {d : Addr} {u u' : HO} (E : EnvOk K Tb F R H σ env) (h : F d = some u) (s : SameR F (upd F d u')) (n1 : NoTb u) (n2 : ∀ c q, u ≠ LamX.CodeO c q) (n3 : NoTb u') : EnvOk K Tb (upd F d u') R (upd H d u') σ env where
  exF := fun b o e => by
    by_cases hb : b = d
    · subst hb
      rw [upd_same] at e ⊢
      exact e
    · rw [upd_ne hb] at e ⊢
      exact E.exF b o e
  exR := fun b o e => by
    rw [upd_ne (fun z => by rw [z, E.dis d u h] at e; cases e)]
    exact E.exR b o e
  dis := fun p o e => by
    by_cases hb : p = d
    · subst hb
      exact E.dis p u h
    · rw [upd_ne hb] at e
      exact E.dis p o e
  len := E.len
  nd := E.nd
  tb := fun t ht => by
    have hu := E.exF d u h
    obtain ⟨ps, t1, t2, t3⟩ := E.tb t ht
    refine ⟨ps, by rw [upd_ne (fun z => by rw [z, hu] at t1; exact n1 ps (Option.some.inj t1))]; exact t1, t2, fun ps2 cv hc => ?_⟩
    obtain ⟨c, z1, z2⟩ := t3 ps2 cv hc
    exact ⟨c, z1, by rw [upd_ne (fun z => by rw [z, hu] at z2; exact n2 _ _ (Option.some.inj z2))]; exact z2⟩
  nt := fun b ps e => by
    by_cases hb : b = d
    · subst hb
      rw [upd_same] at e
      exact absurd (Option.some.inj e) (n3 ps)
    · rw [upd_ne hb] at e ⊢
      exact E.nt b ps e
  slot := fun i v sl e1 e2 => by
    have z := E.slot i v sl e1 e2
    cases sl with
    | no => cases v <;> trivial
    | raw w => cases v <;> exact z
    | sh x =>
      cases v with
      | none => exact z
      | some v => exact Rep.monoR s z
    | own p o =>
      cases v with
      | none => exact z
      | some v =>
        obtain ⟨z1, z2, z3, u2, z4, z5⟩ := z
        have hp : p ≠ d := fun y => by rw [y, h] at z2; cases z2
        exact ⟨z1, by rw [upd_ne hp]; exact z2, z3, u2, by rw [upd_ne hp]; exact z4, OkO.monoR s z5⟩
end
section
variable {K : PySem.W.Frag} {F R H : Hp} {σ : L2.St} {env : List Sl}
def LcQ (Γ : Gm) (tg : Expr) (ifs : List Expr) (scope : Scope) (elt : Expr) (own : List (Str × Nat)) (I : Nat → List PD → List Sl → Prop) (QX : RS → List Sl → Prop) (ds : List PD) (e1 : List Sl) : Prop :=
  ds.length ≤ 100000 ∧ I 0 [] (wipeE e1 (own.map (·.2))) ∧
      (∀ i acc e d, acc.length ≤ i → I i acc e → ds[i]? = some d → TG1 (Γ.blk scope) tg (own.map (·.2)) e d fun e2 => ETs (Γ.blk scope) ifs e2 fun t e3 =>
        if t = true then EV (Γ.blk scope) elt e3 fun y e4 => I (i + 1) (acc ++ [y]) (wipeE e4 (own.map (·.2))) else I (i + 1) acc (wipeE e3 (own.map (·.2)))) ∧
      ∀ acc e, acc.length ≤ ds.length → I ds.length acc e → ∀ p, p ∉ owns e → QX (Sl.own p (.lst acc)) e
/-- as ex_lc, over what is walked here and now -/
theorem lc_at {ifs : List Expr} {scope : Scope} (own : List (Str × Nat)) (I : Nat → List PD → List Sl → Prop) {F R H : Hp} {σ : L2.St} {P : VK} (E : EnvOk Γ.K Γ.Tb F R H σ env)
    (h : ∀ P' : It → Hp → Prop, (∀ ds env' J F' H', LcQ Γ tg ifs scope elt own I QX ds env' → Same F F' → EnvOk Γ.K Γ.Tb F' R H' σ env' → Walks Γ.K Γ.Tb F' J ds → P' J H') → WI Γ tg iter σ H P')
    (k : ∀ (r : RS) (env' : List Sl) (v : V) (F' H' : Hp), QX r env' → Same F F' → EnvOk Γ.K Γ.Tb F' R H' σ env' → ResOk Γ.K F' R H' env' v r → P v H')
    (hN : Γ.N.Nodup) (ok : blkC Γ.N Γ.sc scope own = true) (hs : ∀ (env : Env) x, foldedSetIterable iter env x = pure x := by intro _ _; rfl) :
    WE Γ (.ListComp elt [⟨tg, iter, ifs, 0⟩] scope pos) σ H P :=
  ⟨tLc (WI Γ tg iter) (WG (Γ.blk scope) tg) (WTs (Γ.blk scope) ifs) (WE (Γ.blk scope) elt) (own.map (·.2)), fun X g =>
    pe_lc g.calm (by rw [g.N]; exact hN) (WI.pi g) (blkOk_by (by rw [g.N, g.sc]; exact ok)) (fun _ _ _ _ _ => WG.pg (good_blk g)) (fun _ _ _ _ _ => WTs.pts (good_blk g)) (fun _ _ _ _ _ => WE.pe (good_blk g)) (hs _),
  h _ fun ds e1 J F1 H1 q s1 E1 wk Dl hD => by
    obtain ⟨hlen, q0, qs, qe⟩ := q
    let vs := own.map (·.2)
    obtain ⟨f1, f2, f3⟩ := E1.fresh hD
    refine ⟨fun i m H2 => m = ds.length - i ∧ i ≤ ds.length ∧ ∃ F2 e0 acc accV, Same F1 F2 ∧ EnvOk Γ.K Γ.Tb F2 (upd R Dl (.lst accV)) H2 (L2.wipe σ vs) (wipeE e0 vs) ∧ RepL Γ.K F2 acc accV ∧ acc.length ≤ i ∧ I i acc (wipeE e0 vs),
      ⟨ds.length, by omega, Nat.zero_le _, F1, e1, [], [], Same.refl F1, (E1.addR hD _).wipe vs, rfl, Nat.le_refl _, q0⟩, ?_⟩
    rintro i m H2 ⟨rfl, hi, F2, e0, acc, accV, s2, E2, rA, hacc, qi⟩
    obtain ⟨wstop, wgo⟩ := wk F2 _ H2 _ _ E2 s2 i
    by_cases hlt : i < ds.length
    · refine .inr ?_
      obtain ⟨g1, g2⟩ := wgo ds[i] (List.getElem?_eq_getElem hlt)
      refine ⟨g1, fun H' => ∃ F3 e3 acc' accV', Same F2 F3 ∧ EnvOk Γ.K Γ.Tb F3 (upd R Dl (.lst accV')) H' (L2.wipe σ vs) (wipeE e3 vs) ∧ RepL Γ.K F3 acc' accV' ∧ acc'.length ≤ i + 1 ∧ I (i + 1) acc' (wipeE e3 vs),
        fun H' ⟨F3, e3, acc', accV', s3, E3, r3, l3, q3⟩ => ⟨ds.length - (i + 1), by omega, rfl, hlt, F3, e3, acc', accV', s2.trans s3, E3, r3, l3, q3⟩, fun x H3 y => ?_⟩
      obtain ⟨F3, s3, E3, r3⟩ := g2 x H3 y
      refine (qs i acc _ ds[i] hacc qi (List.getElem?_eq_getElem hlt)).run F3 _ H3 (L2.wipe σ vs) x _ E3 r3 fun σ4 e4 q4 b4 E4 => ⟨?_, ?_⟩
      · rw [b4 vs fun j hj => hj]
        have key : ∀ ws : List Nat, L2.wipe (L2.wipe σ ws) ws = L2.wipe σ ws := by
          intro ws
          apply List.ext_getElem?
          intro n
          by_cases hn : n ∈ ws
          · have h1 : ∀ τ : L2.St, ∀ ws : List Nat, n ∈ ws → (L2.wipe τ ws)[n]? = if n < τ.length then some none else none := by
              intro τ ws
              induction ws with
              | nil => intro h; cases h
              | cons v r ih =>
                intro h
                show ((L2.wipe τ r).set v none)[n]? = _
                by_cases hv : v = n
                · subst hv
                  rw [List.getElem?_set]
                  simp only [if_true, L2.wipe_length]
                · rw [List.getElem?_set_ne hv]
                  rcases List.mem_cons.mp h with h | h
                  · exact absurd h.symm hv
                  · exact ih h
            rw [h1 _ ws hn, h1 _ ws hn, L2.wipe_length]
          · rw [wipe_get hn]
        exact key vs
      · refine q4.run F3 _ H3 σ4 _ E4 wok_blk fun t e5 F5 H5 q5 s5 E5 => ?_
        have hw4 : L2.wipe σ4 vs = L2.wipe σ vs := by
          rw [b4 vs fun j hj => hj]
          have key : ∀ ws : List Nat, L2.wipe (L2.wipe σ ws) ws = L2.wipe σ ws := by
            intro ws
            apply List.ext_getElem?
            intro n
            by_cases hn : n ∈ ws
            · have h1 : ∀ τ : L2.St, ∀ ws : List Nat, n ∈ ws → (L2.wipe τ ws)[n]? = if n < τ.length then some none else none := by
                intro τ ws
                induction ws with
                | nil => intro h; cases h
                | cons v r ih =>
                  intro h
                  show ((L2.wipe τ r).set v none)[n]? = _
                  by_cases hv : v = n
                  · subst hv
                    rw [List.getElem?_set]
                    simp only [if_true, L2.wipe_length]
                  · rw [List.getElem?_set_ne hv]
                    rcases List.mem_cons.mp h with h | h
                    · exact absurd h.symm hv
                    · exact ih h
              rw [h1 _ ws hn, h1 _ ws hn, L2.wipe_length]
            · rw [wipe_get hn]
          exact key vs
        cases t with
        | true =>
          refine q5.run F5 _ H5 σ4 _ E5 wok_blk fun yd e6 yv F6 H6 q6 s6 E6 r6 => ?_
          refine ⟨accV, E6.exR Dl _ upd_same, ?_, F6, e6, acc ++ [yd], accV ++ [yv], (s3.trans s5).trans s6, ?_, (rA.mono ((s3.trans s5).trans s6)).append (RepL.one r6), ?_, q6⟩
          · rw [rA.length]
            exact Nat.lt_of_lt_of_le (Nat.lt_of_le_of_lt hacc (Nat.lt_of_lt_of_le hlt hlen)) (by decide)
          · have := (E6.chgR (us' := accV ++ [yv])).wipe vs
            rw [hw4] at this
            exact this
          · rw [List.length_append]
            show acc.length + 1 ≤ i + 1
            omega
        | false =>
          refine ⟨F5, e5, acc, accV, s3.trans s5, ?_, rA.mono (s3.trans s5), by omega, q5⟩
          have := E5.wipe vs
          rw [hw4] at this
          exact this
    · have he : i = ds.length := by omega
      subst he
      obtain ⟨E3, z1, z2, z3⟩ := E2.dropR f2
      refine .inl ⟨wstop (Nat.le_refl _), k _ _ _ F2 H2 (qe acc _ hacc qi Dl z2) (s1.trans s2) E3.unwipe ⟨rfl, z1, f2, z2, _, z3, accV, rfl, rA⟩⟩⟩

end
section
variable {Tb : List (Addr × Str)} {Γ : Gm} {env : List Sl} {QX : RS → List Sl → Prop} {a b c e elt tg iter : Expr} {es : List Expr} {pos : Pos}
/-! ### enumerate -/
def enumP (xs : List PD) : List PD := (List.range xs.length).zipWith (fun (i : Nat) x => .tuple [.int i, x]) xs
theorem enumP_len {xs : List PD} : (enumP xs).length = xs.length := by
  unfold enumP
  rw [List.length_zipWith, List.length_range, Nat.min_self]
theorem enumP_get {xs : List PD} {i : Nat} {d : PD} (h : (enumP xs)[i]? = some d) : ∃ x, xs[i]? = some x ∧ d = .tuple [.int i, x] := by
  unfold enumP at h
  rw [List.getElem?_zipWith] at h
  cases hx : xs[i]? with
  | none => rw [hx] at h; cases hr : (List.range xs.length)[i]? with
    | none => rw [hr] at h; cases h
    | some _ => rw [hr] at h; cases h
  | some x =>
    have hi : i < xs.length := (List.getElem?_eq_some_iff.mp hx).1
    rw [hx, List.getElem?_range hi] at h
    exact ⟨x, rfl, (Option.some.inj h).symm⟩
theorem walks_enum {K : PySem.W.Frag} {F : Hp} {p : Addr} {us : List V} {xs : List PD} (h1 : Rd F p (.lst us)) (r1 : RepL K F xs us) : Walks K Tb F (Ite K p) (enumP xs) := fun F2 R2 H2 σ2 env2 E s i => by
  have k1 : SqL K H2 p us := seqR (s.trans E.exF) h1
  refine ⟨fun hi => ⟨us, k1, by rw [enumP_len] at hi; rw [r1.length]; omega⟩, fun d hd => ?_⟩
  obtain ⟨x, hx, rfl⟩ := enumP_get hd
  obtain ⟨v, hv, rv⟩ := r1.get hx
  refine ⟨⟨us, v, k1, hv⟩, fun z H3 yy => ?_⟩
  obtain ⟨T, x', rfl, hT, rfl, e1⟩ := yy
  have e1 := e1 us k1
  rw [hv] at e1
  cases e1
  obtain ⟨E3, s3⟩ := E.newF hT (.tup [.int i, v])
  exact ⟨_, s3, E3, T, _, rfl, .inl (.inl upd_same), .int i, [v], rfl, rfl, v, [], rfl, rv.mono (s.trans s3), rfl⟩
theorem it_enum {elts : List Expr} {kk : Nat} {p tpos : Pos} {Qi : List PD → List Sl → Prop} (h : EVs Γ [a] env fun ds e1 => ∃ xs, ds = [.list xs] ∧ Qi (enumP xs) e1)
    (hg : Γ.sc.names.lookup ("enumerate" : Str) = some .globalImplicit) (hm : Γ.mg ("enumerate" : Str) = none)
    (hs : NoStar a [] := by intro _; rfl) : IT Γ (.Tuple elts kk tpos) (.Call (.Name "enumerate" p) [a] [] pos) env Qi := .mk fun F R H σ P E w k =>
  ⟨iEnum Γ.K (WA Γ [a]), fun X g => by rw [← g.K]; exact pi_enum (by unfold Gl Env.kindOf; rw [g.sc]; exact hg) (by rw [g.mg]; exact hm) (WA.pa g) (hs _), h.run F R H σ _ E w fun ds e1 vs F1 H1 q s1 E1 r => by
    obtain ⟨xs, rfl, q⟩ := q
    obtain ⟨v, _, rfl, ⟨p1, us, rfl, h1, h2⟩, rfl⟩ := r
    exact ⟨p1, us, rfl, seqR E1.exF h1, k _ e1 _ F1 H1 q s1 E1 (walks_enum h1 h2)⟩⟩
/-! ### the items of a dict -/
theorem walks_items {K : PySem.W.Frag} {F : Hp} {d : Addr} {o : Obj} {kvs : List (PD × PD)} {kv : List (Key × V)} (h : F d = some (.frz o (.dK kv))) (r : RepD K F kvs kv) : Walks K Tb F (Iti d o kv) (itemsP kvs) := fun F2 R2 H2 σ2 env2 E s i => by
  have k1 : H2 d = some (.frz o (.dK kv)) := E.exF _ _ (s _ _ h)
  refine ⟨fun hi => ⟨k1, by unfold itemsP at hi; rw [List.length_map] at hi; rw [r.length]; exact hi⟩, fun x hx => ?_⟩
  unfold itemsP at hx
  rw [List.getElem?_map] at hx
  cases hq : kvs[i]? with
  | none => rw [hq] at hx; cases hx
  | some q =>
    rw [hq] at hx
    obtain rfl := Option.some.inj hx
    obtain ⟨k, v, g1, g2, g3⟩ := r.get hq
    refine ⟨⟨k1, (List.getElem?_eq_some_iff.mp g1).1⟩, fun z H3 yy => ?_⟩
    obtain ⟨T, k', v', e1, rfl, hT, rfl⟩ := yy
    rw [g1] at e1
    cases e1
    obtain ⟨E3, s3⟩ := E.newF hT (.tup [kV k, v])
    exact ⟨_, s3, E3, T, _, rfl, .inl (.inl upd_same), kV k, [v], rfl, keyD_rep g2, v, [], rfl, g3.mono (s.trans s3), rfl⟩
/-- the one reading or the other -/
def tOr (t1 t2 : TE) : TE := fun σ H Q => t1 σ H Q ∨ t2 σ H Q
theorem pe_or {X : Cx} {t1 t2 : TE} (h1 : PE X e t1) (h2 : PE X e t2) : PE X e (tOr t1 t2) := ⟨fun pins s σ H Q I hw => hw.elim (fun h => h1.run pins s σ H Q I h) fun h => h2.run pins s σ H Q I h⟩
/-- [elt for k, v in x.items() if ..], x data -/
theorem ex_lcItems {ifs elts : List Expr} {scope : Scope} {i kk : Nat} {x : Str} {npos apos cpos tpos : Pos} {kvs : List (PD × PD)} (own : List (Str × Nat)) (I : Nat → List PD → List Sl → Prop) (hx : env[i]? = some (.sh (.dict kvs)))
    (h : LcQ Γ (.Tuple elts kk tpos) ifs scope elt own I QX (itemsP kvs) env)
    (hN : Γ.N.Nodup) (ok : blkC Γ.N Γ.sc scope own = true) (hi : Γ.N[i]? = some x) (hv : Vis Γ.sc x) (hd : (x == ("__debug__" : Str)) = false := by decide +kernel) (hcd : (x == ("__classdict__" : Str)) = false := by decide +kernel)
    (hbase : ∀ env : Env, attributeBase (.Name x npos) "items" env (eval (.Name x npos) env) = eval (.Name x npos) env := by intro _; rfl) (hline : (apos.endLine == cpos.line) = true := by rfl)
    (hs' : ∀ (env : Env) y, foldedSetIterable (.Call (.Attribute (.Name x npos) "items" apos) [] [] cpos) env y = pure y := by intro _ _; rfl) :
    EX Γ (.ListComp elt [⟨.Tuple elts kk tpos, .Call (.Attribute (.Name x npos) "items" apos) [] [] cpos, ifs, 0⟩] scope pos) env QX := .mk fun F R H σ P E w k => by
  obtain ⟨v, hv1, d, kv, rfl, hF, hr⟩ := E.getSh hx
  have core : ∀ (F1 H1 : Hp) (o : Obj) (P1 : VK), EnvOk Γ.K Γ.Tb F1 R H1 σ env → F1 d = some (.frz o (.dK kv)) → RepD Γ.K F1 kvs kv →
      (∀ (r : RS) (env' : List Sl) (v : V) (F' H' : Hp), QX r env' → Same F1 F' → EnvOk Γ.K Γ.Tb F' R H' σ env' → ResOk Γ.K F' R H' env' v r → P1 v H') →
      WE Γ (.ListComp elt [⟨.Tuple elts kk tpos, .Call (.Attribute (.Name x npos) "items" apos) [] [] cpos, ifs, 0⟩] scope pos) σ H1 P1 := fun F1 H1 o P1 E1 f1 r1 k1 =>
    lc_at own I E1 (fun P' hP => ⟨iItems (tVar i), fun X g => pi_items (pe_var (by rw [g.N]; exact hi) (by rw [g.sc]; exact hv) hd hcd) (hbase _) hline,
      ⟨_, hv1, d, o, kv, rfl, E1.exF _ _ f1, hP _ env _ F1 H1 h (Same.refl F1) E1 (walks_items f1 r1)⟩⟩) k1 hN ok hs'
  rcases hF with hF | ⟨o, hF⟩
  · refine ⟨tLockE (WE Γ _), fun X g => pe_lock (WE.pe g), d, .dK kv, E.exF _ _ hF, trivial, fun od => ?_⟩
    refine core (upd F d (.frz od (.dK kv))) _ od _ (E.swap hF (sameR_lock hF) (fun ps z => by cases z) (fun c q z => by unfold LamX.CodeO at z; cases z) (fun ps z => by cases z)) upd_same (hr.monoR (sameR_lock hF)) fun r env' v F' H' q s E' ro => ?_
    have hF' : F' d = some (.frz od (.dK kv)) := s _ _ upd_same
    have sR := sameR_unlock (H := F') hF'
    refine ⟨E'.exF _ _ hF', k r env' v (upd F' d (.dK kv)) (upd H' d (.dK kv)) q (fun b u e => ?_) (E'.swap hF' sR (fun ps z => by cases z) (fun c q z => by unfold LamX.CodeO at z; cases z) (fun ps z => by cases z)) ?_⟩
    · by_cases hb : b = d
      · subst hb
        rw [hF] at e
        rw [upd_same]
        exact e
      · rw [upd_ne hb]
        exact s b u (by rw [upd_ne hb]; exact e)
    · cases r with
      | no => exact ro
      | raw _ => exact ro
      | sh y => exact Rep.monoR sR ro
      | own p o =>
        obtain ⟨z1, z2, z3, z4, u, z5, z6⟩ := ro
        have hp : p ≠ d := fun y => by rw [y, hF'] at z2; cases z2
        exact ⟨z1, by rw [upd_ne hp]; exact z2, z3, z4, u, by rw [upd_ne hp]; exact z5, z6.monoR sR⟩
  · exact core F H o P E hF hr k
end
end Dw

/-! Dx9: repr of data in lists: what is known of the objects is enough to read them off the heap, and none of them is the table of modules. -/
namespace Dw
open PySem PySem.Spec PyProof.Rows L2
section
variable {X : Cx} {pins : List (Addr × Obj)} {σ : L2.St} {F H : Hp} {s : Shared}
/-- the table of modules is not among what is known -/
theorem noSys (I : L2.Inv X pins σ H s) (h : ∃ o, X.base.get? sysModules = some o) : H sysModules = none := by
  obtain ⟨o, ho⟩ := h
  exact (I.bs _ o ho).2
theorem rd_some {a : Addr} {u : HO} (h : Rd H a u) : H a ≠ none := fun z => by
  rcases h with h | ⟨o, h⟩ <;> rw [z] at h <;> cases h
mutual
theorem rdOff (I : L2.Inv X pins σ H s) (sF : Same F H) : ∀ {d : PD} {v : V} {u : Value}, Rep X.K F d v → RelV v u → ∃ as, Reads s.heap u d as ∧ ∀ b ∈ as, H b ≠ none
  | .none, _, _, r, ru => by
    cases (show _ = V.non from r)
    cases (show _ = Value.none from ru)
    exact ⟨[], .none, by simp⟩
  | .bool b, _, _, r, ru => by
    cases (show _ = V.bl b from r)
    cases (show _ = Value.bool b from ru)
    exact ⟨[], .bool b, by simp⟩
  | .int i, _, _, r, ru => by
    cases (show _ = V.int i from r)
    obtain ⟨t, rfl⟩ := ru
    exact ⟨[], .int i t, by simp⟩
  | .str z, _, _, r, ru => by
    cases (show _ = V.str z from r)
    obtain ⟨t, rfl⟩ := ru
    exact ⟨[], .str z t, by simp⟩
  | .list xs, _, _, ⟨a, vs, e, h1, h2⟩, ru => by
    subst e
    cases (show _ = Value.ref a from ru)
    obtain ⟨its, rv, ⟨o, n, g1, g2, g4, g3⟩, _⟩ := I.list (seqR sF h1)
    obtain ⟨as, q1, q2⟩ := rdOffL I sF h2 rv
    exact ⟨a :: as, .list g1 g2 g3 q1, List.forall_mem_cons.mpr ⟨rd_some (Same.rd sF h1), q2⟩⟩
  | .tuple xs, _, _, ⟨a, vs, e, h1, h2⟩, ru => by
    subst e
    cases (show _ = Value.ref a from ru)
    obtain ⟨its, rv, ⟨o, g1, g2, n, g3⟩, _⟩ := I.tuple (Same.sqt sF h1)
    obtain ⟨as, q1, q2⟩ := rdOffL I sF h2 rv
    exact ⟨as, .tuple g1 g2 g3 q1, q2⟩
  | .dict kvs, _, _, ⟨a, kv, e, h1, h2⟩, ru => by
    subst e
    cases (show _ = Value.ref a from ru)
    obtain ⟨_, _, vs, ep, rk, o, es, g1, g2, g3, _, g5, _⟩ := dictR I (Same.rd sF h1)
    obtain ⟨as, bs, q1, q2, q3, q4⟩ := rdOffD I sF h2 rk g5
    exact ⟨a :: as ++ bs, .dict g1 g2.1 g3 q1 q2, List.forall_mem_append.mpr ⟨List.forall_mem_cons.mpr ⟨rd_some (Same.rd sF h1), q3⟩, q4⟩⟩
theorem rdOffL (I : L2.Inv X pins σ H s) (sF : Same F H) : ∀ {ds : List PD} {vs : List V} {us : List Value}, RepL X.K F ds vs → Vals vs us → ∃ as, ReadsAll s.heap us ds as ∧ ∀ b ∈ as, H b ≠ none
  | [], _, _, r, rv => by
    cases (show _ = [] from r)
    cases rv
    exact ⟨[], .nil, by simp⟩
  | d :: ds, _, _, ⟨v, rr, e, r1, r2⟩, rv => by
    subst e
    cases rv with
    | cons q rv =>
      obtain ⟨as, a1, a2⟩ := rdOff I sF r1 q
      obtain ⟨bs, b1, b2⟩ := rdOffL I sF r2 rv
      exact ⟨as ++ bs, .cons a1 b1, List.forall_mem_append.mpr ⟨a2, b2⟩⟩
theorem rdOffD (I : L2.Inv X pins σ H s) (sF : Same F H) : ∀ {kvs : List (PD × PD)} {kv : List (Key × V)} {vs : List (Key × Value)} {es : List DictEntry}, RepD X.K F kvs kv → KV kv vs → PySem.Pairs (mixKind X.prog X.w) es vs →
    ∃ as bs, ReadsAll s.heap (es.map (·.key)) (kvs.map (·.1)) as ∧ ReadsAll s.heap (es.map (·.val)) (kvs.map (·.2)) bs ∧ (∀ b ∈ as, H b ≠ none) ∧ ∀ b ∈ bs, H b ≠ none
  | [], _, _, _, r, rk, rp => by
    cases (show _ = [] from r)
    cases rk
    cases rp
    exact ⟨[], [], .nil, .nil, by simp, by simp⟩
  | (dk, dv) :: kvs, _, _, _, ⟨k, v, rr, e, ⟨g1, g2⟩, r2⟩, rk, rp => by
    subst e
    cases rk with
    | cons q rk =>
      cases rp with
      | cons c1 c2 rp =>
        obtain ⟨q1, q2⟩ := q
        rename_i kv0 vs0 e0 es0
        have rkk : RelV (kV k) e0.key := by
          rw [show k = kv0.1 from q1]
          exact relV_key (show keyIs kv0.1 e0.key = true from c1)
        have key : ∃ as, Reads s.heap e0.key dk as ∧ ∀ b ∈ as, H b ≠ none := by
          cases dk with
          | int i =>
            cases g1
            obtain ⟨t, ht⟩ := rkk
            exact ⟨[], by rw [ht]; exact .int i t, by simp⟩
          | str z =>
            cases g1
            obtain ⟨t, ht⟩ := rkk
            exact ⟨[], by rw [ht]; exact .str z t, by simp⟩
          | none => cases g1
          | bool _ => cases g1
          | list _ => cases g1
          | tuple _ => cases g1
          | dict _ => cases g1
        obtain ⟨a0, x1, x2⟩ := key
        obtain ⟨a1, y1, y2⟩ := rdOff I sF (u := e0.val) g2 (by rw [c2]; exact q2)
        obtain ⟨as, bs, z1, z2, z3, z4⟩ := rdOffD I sF r2 rk rp
        exact ⟨a0 ++ as, a1 ++ bs, .cons x1 z1, .cons y1 z2, List.forall_mem_append.mpr ⟨x2, z3⟩, List.forall_mem_append.mpr ⟨y2, z4⟩⟩
end
end
section
variable {Γ : Gm}
/-- repr(x), x a list -/
theorem cd_repr {xs : List PD} (hG : Γ.G.gd = true) (hm : ∃ o, Γ.base.get? sysModules = some o) (hs : (PyData.list xs).showable = true) (hd : (PyData.list xs).depth ≤ 60) (hz : (PyData.list xs).shown.length ≤ 100000) : CallD Γ (.builtin "repr") [.list xs] (· = .sh (.str (PyData.list xs).shown)) := .mk fun F R H σ env vs P E rs k => by
  obtain ⟨v, rfl, r⟩ := repL1 rs
  refine ⟨fun us H' Q => H' = H ∧ us = [v] ∧ Q (.str (PyData.list xs).shown) H, fun X g => ?_, rfl, rfl, k (.sh _) _ F H rfl (Same.refl F) E rfl⟩
  intro pins s σ' H' ys us Q I rv h
  obtain ⟨rfl, rfl, q⟩ := h
  obtain ⟨u, rfl, ru⟩ := vals1 rv
  rw [← g.K] at r
  obtain ⟨as, r0, r1⟩ := rdOff I E.exF r ru
  obtain ⟨a, vs, rfl, h1, h2⟩ := r
  cases (show _ = Value.ref a from ru)
  have hu := g.room.units
  refine repr_of_reads' r0 hs (fun _ hx => r1 _ hx (noSys I (by rw [g.base]; exact hm))) (g.gd hG) (by omega) (fun _ _ e => e) (fun h' u tk hk => ⟨.str _, _, I.kept (t' := tk) hk, ⟨u, rfl⟩, q⟩) (sz5 hz)
end
end Dw

/-! Dy1: several except clauses, each with a name. -/
namespace Dw
open PySem PySem.Spec PyProof.Rows L2
/-- what was let out is in the air over this frame, its flight told to nobody -/
structure Air (X : Cx) (B : Heap) (s0 : Shared) (pins : List (Addr × Obj)) (σ : L2.St) (H : Hp) (a : Addr) (cls : Value) (d : Option Addr) (s : Shared) : Prop where
  inv : L2.Inv X pins σ H s0
  keep : ∀ b o, s0.heap.get? b = some o → b ∉ frs X.stack → B.get? b = some o
  up : s0.heap.UpToSlots s.heap
  fly : HandSPX.FlyingZ B (X.env :: X.outer) a (Zc cls d) s.heap
  na : H a = none
  os : s.os = s0.os
  bare : AllBare s.gens
section
variable {X : Cx} {B : Heap} {s0 s : Shared} {pins : List (Addr × Obj)} {σ : L2.St} {H : Hp} {a : Addr} {cls : Value} {d : Option Addr}
theorem Air.step (A : Air X B s0 pins σ H a cls d s) {h : Heap} (f : HandSPX.FlyingZ B (X.env :: X.outer) a (Zc cls d) h) (u : s.heap.UpToSlots h) : Air X B s0 pins σ H a cls d { s with heap := h } :=
  { A with up := A.up.trans u, fly := f }
theorem Air.here (A : Air X B s0 pins σ H a cls d s) : L2.Inv X pins σ H s := A.inv.landed A.keep A.fly.1 A.up A.os A.bare
theorem Air.obj (A : Air X B s0 pins σ H a cls d s) : ∃ oe vs, s.heap.get? a = some oe ∧ Zc cls d oe ∧ oe.data = .fields vs := by
  obtain ⟨oe, vs, h1, h2, h3⟩ := A.fly.there
  exact ⟨oe, vs, h1, h2, h3⟩
theorem Air.apart (A : Air X B s0 pins σ H a cls d s) (hf : X.env.frame = some X.env.locals) : a ≠ X.env.locals ∧ a ∉ X.fs := by
  obtain ⟨oe, vs, h1, _, h3⟩ := A.obj
  have n : a ∉ frs (X.env :: X.outer) := fun hm => by
    obtain ⟨_, o, h, hn⟩ := A.fly.2.2.1.mem hm
    rw [h1] at h
    exact hn vs (by rw [← Option.some.inj h]; exact h3)
  exact ⟨fun z => n (List.mem_filterMap.mpr ⟨_, List.mem_cons_self, by rw [hf, z]⟩), fun hm => n (by
    obtain ⟨e, he, q⟩ := List.mem_filterMap.mp hm
    exact List.mem_filterMap.mpr ⟨e, List.mem_cons_of_mem _ he, q⟩)⟩
/-- no clause wants it -/
theorem Air.away (A : Air X B s0 pins σ H a cls d s) (hs : X.stack = X.env :: X.outer) (hf : X.env.frame = some X.env.locals) {W : WX} (tk : Takes X W) (w : W cls d σ H) {Q : Flow → Shared → Prop} : wpAny (model X.prog X.w) X.A (handleBy (.ref a) X.env []) Q X.xe s := by
  refine wpAny_handleBy_nil ?_
  have key : wpAny (model X.prog X.w) X.A (setFlight (.ref a) X.env.frame) (fun _ s1 => wpAny (model X.prog X.w) X.A (throw (.ref a) : Sem Flow) Q X.xe s1) X.xe s := by
    rw [hf]
    exact HandSPX.setFlight_upZ A.fly fun h1 g1 u1 => wpAny_throw (tk _ _ ⟨a, B, s0, pins, σ, H, cls, d, rfl, A.inv, A.keep, A.up.trans u1, .inr (.inr (by rw [hs]; exact g1)), A.na, A.os, A.bare, w⟩)
  obtain ⟨_, _, _, oe, vs, T, oT, ts, h1, _, h2, h3, _⟩ := A.fly
  unfold PySem.passOn
  refine wpAny_bind (wpAny_field h1 h2 h3 ?_)
  rw [if_neg (show ¬ ((Value.ref T == Value.none) = true) by simp)]
  first
    | exact wpAny_bind (wpAny_pure (wpAny_bind key))
    | exact wpAny_bind key
/-- the context of its suite -/
theorem Air.suite (A : Air X B s0 pins σ H a cls d s) (hf : X.env.frame = some X.env.locals) : ∃ oe, Zc cls d oe ∧ (∃ vs, oe.data = .fields vs) ∧ s.heap.get? a = some oe ∧ L2.Inv (X.suite a ((a, oe) :: (X.pn ++ pins))) [] σ H s := by
  obtain ⟨oe, vs, h1, h2, h3⟩ := A.obj
  exact ⟨oe, h2, ⟨vs, h3⟩, h1, A.here.suite h1 h3 A.na (A.apart hf).1 (A.apart hf).2⟩
/-- is it of that class -/
theorem Air.ask (A : Air X B s0 pins σ H a cls d s) (hf : X.env.frame = some X.env.locals) {x : Str} {c : Value} {np pos : Pos} {b : Bool} (hc : Names X x c) (he : PySem.W.exmOne X.K cls c = some b) {R : Except Value Flow → Shared → Prop} (h : R (.ok (if b then .brk else .next)) s) :
    codeAny (model X.prog X.w) (X.A.mark (some (.ref a))) (.handlers (.ref a) [.ExceptHandler (some (.Name x np)) none [] pos] X.env) R s := by
  obtain ⟨oe, hz, _, h1, S⟩ := A.suite hf
  have T : PySem.W.Looks (model X.prog X.w) s.heap (typeOf (.ref a)) cls := fun A' Q E s' k q => wpAny_typeOf_ref (k _ _ h1) (by rw [hz.1]; exact q)
  have M := PySem.W.exm_one (M := model X.prog X.w) A.here.kIn T he
  refine codeAny_handlers_test ?_
  rcases hc with ⟨g1, g2, g3 | ⟨g3, g4, g5⟩⟩
  · exact ld_glob (X := X.suite a ((a, oe) :: (X.pn ++ pins))) S g1 g3 (M.here h) g2
  · exact ld_blt (X := X.suite a ((a, oe) :: (X.pn ++ pins))) S g1 g3 g4 (M.here h) g5 g2
end
/-- the name of the clause goes -/
def goneA (D : Ends) (i : Nat) : Ends where
  nx := fun σ H => D.nx (σ.set i none) H
  rt := D.rt
  bk := fun σ H => D.bk (σ.set i none) H
  ct := fun σ H => D.ct (σ.set i none) H
/-- a clause: the class it names, its slot, its suite's reading -/
structure Cl where
  c : Value
  i : Nat
  t : Addr → Value → Option Addr → TS
def wishA (K : PySem.W.Frag) (n : Nat) (W : WX) (D : Ends) : List Cl → WX
  | [] => W
  | q :: l => fun cls d σ H => ∃ b, PySem.W.exmOne K cls q.c = some b ∧ if b = true then ∀ a, H a = none → σ.length = n → q.t a cls d (goneA D q.i) (σ.set q.i (some (.ref a))) H else wishA K n W D l cls d σ H
inductive ClsA (X : Cx) : List ExceptHandler → List Cl → Prop
  | nil : ClsA X [] []
  | cons {x n : Str} {q : Cl} {st : Stmt} {sts : List Stmt} {np pos : Pos} {hs : List ExceptHandler} {l : List Cl} (hc : Names X x q.c) (hi : X.N[q.i]? = some n) (hl : X.env.kindOf n = some .local)
      (hb : ∀ (a : Addr) (oe : Obj) (cls : Value) (d : Option Addr) (pn : List (Addr × Obj)), Zc cls d oe → (∃ vs, oe.data = .fields vs) → PSs (X.suite a ((a, oe) :: pn)) (st :: sts) (q.t a cls d)) (r : ClsA X hs l) : ClsA X (.ExceptHandler (some (.Name x np)) (some n) (st :: sts) pos :: hs) (q :: l)
section
variable {X : Cx} {B : Heap} {s0 s : Shared} {pins : List (Addr × Obj)} {σ : L2.St} {H : Hp} {a : Addr} {cls : Value} {d : Option Addr}
theorem Air.clauses (hs : X.stack = X.env :: X.outer) (hf : X.env.frame = some X.env.locals) (hN : X.N.Nodup) {W : WX} (tk : Takes X W) {D : Ends} {hds : List ExceptHandler} {l : List Cl} (c : ClsA X hds l) (A : Air X B s0 pins σ H a cls d s) (w : wishA X.K X.N.length W D l cls d σ H) :
    wpAny (model X.prog X.w) X.A (handleBy (.ref a) X.env hds) (SP X pins D) X.xe s := by
  induction c with
  | nil => exact A.away hs hf tk w
  | @cons x n q st sts np pos hs2 l2 hc hi hl hb r ih =>
    obtain ⟨b, hb1, w⟩ := w
    refine wpAny_handleBy_cons (A.ask hf hc hb1 ?_) (fun z => by cases z)
    cases b with
    | false => exact ih w
    | true =>
      refine codeAny_handlers_suite_as (HandSPX.lands_againZ A.fly fun h f u => ?_)
      have A2 := A.step f u
      obtain ⟨oe, z1, z2, _, S⟩ := A2.suite hf
      refine store_ok (X := X.suite a ((a, oe) :: (X.pn ++ pins))) (v := .ref a) S hN hi (.inl hl) rfl (fun s5 S5 => wpAny_mono ((hb a oe cls d _ z1 z2).run [] s5 _ H _ S5 (w a A.na A.inv.len)) (fun f s6 y => ?_) fun _ _ z => False.elim z) (.inr hl)
      have out : ∀ {σ6 : L2.St} {H6 : Hp} {Q : Shared → Prop}, L2.Inv (X.suite a ((a, oe) :: (X.pn ++ pins))) [] σ6 H6 s6 → (∀ s7, L2.Inv X pins (σ6.set q.i none) H6 s7 → Q s7) → wpAny (model X.prog X.w) X.A (do bindName X.env n .none; unbindBehindTheSuite X.env n pos) (fun _ s7 => Q s7) X.xe s6 :=
        fun S6 k => gone_ok (S6.unsuite A.inv.ok) hN hi hl k
      match f, y with
      | .ret _, ⟨_, _, _, S6, rv, q⟩ => exact out S6 fun _ J => ⟨_, _, _, J, rv, q⟩
      | .next, ⟨_, _, S6, q⟩ => exact out S6 fun _ J => ⟨_, _, J, q⟩
      | .brk, ⟨_, _, S6, q⟩ => exact out S6 fun _ J => ⟨_, _, J, q⟩
      | .cont, ⟨_, _, S6, q⟩ => exact out S6 fun _ J => ⟨_, _, J, q⟩
/-- try: body, then clauses with names -/
theorem ps_tryA {body : List Stmt} {h0 : ExceptHandler} {hds : List ExceptHandler} {l : List Cl} {pos : Pos} {tb : WX → TS} {W : WX} (hs : X.stack = X.env :: X.outer) (hf : X.env.frame = some X.env.locals) (hN : X.N.Nodup) (tk : Takes X W)
    (hb : ∀ (W : WX) (pn : List (Addr × Obj)) (xe : Value → Shared → Prop), Takes (X.tr pn xe) W → PSs (X.tr pn xe) body (tb W)) (c : ClsA X (h0 :: hds) l) : PS X (.Try body (h0 :: hds) [] [] pos) (fun D σ H => tb (wishA X.K X.N.length W D l) D σ H) := by
  refine ⟨fun pins s σ H D I h => wpAny_Try_except ?_⟩
  let xe1 : Value → Shared → Prop := fun e s1 => wpAny (model X.prog X.w) X.A (noteFrame e X.env) (fun _ s2 => wpAny (model X.prog X.w) X.A (setFlight e none) (fun _ s3 => wpAny (model X.prog X.w) X.A (handleBy e X.env (h0 :: hds)) (SP X pins D) X.xe s3) X.xe s2) X.xe s1
  have tk1 : Takes (X.tr (X.pn ++ pins) xe1) (wishA X.K X.N.length W D l) := fun u s' ⟨a, B, s0, pn, σ1, H1, cls, d, hu, J, keep, up, sky, na, os, bare, w⟩ => by
    subst hu
    have sky1 : Sky B (X.env :: X.outer) a (Zc cls d) X.env.locals s'.heap := by rw [← hs]; exact sky
    exact Sky.land Zc.steady (by rw [I.ok.frames, hs]) hf sky1 fun h f u => Air.clauses hs hf hN tk c ⟨J.ofTry I.ok, keep, up.trans u, f, na, os, bare⟩ w
  refine wpAny_mono ((hb _ _ xe1 tk1).run [] s σ H D (I.toTry _) h) (fun f s1 q => ?_) fun _ _ z => z
  match f, q with
  | .ret _, ⟨_, _, _, J, rv, q⟩ => exact ⟨_, _, _, J.ofTry I.ok, rv, q⟩
  | .next, ⟨_, _, J, q⟩ => exact wpAny_execs_nil ⟨_, _, J.ofTry I.ok, q⟩
  | .brk, ⟨_, _, J, q⟩ => exact ⟨_, _, J.ofTry I.ok, q⟩
  | .cont, ⟨_, _, J, q⟩ => exact ⟨_, _, J.ofTry I.ok, q⟩
end
end Dw

/-! Dy3: errors of one's own: made, let out, caught, asked. -/
namespace Dw
open PySem PySem.Spec PyProof.Rows L2 LamX
/-- __init__(self, y): self.f = y -/
def SpI (K : PySem.W.Frag) (C : Addr) (f : Str) : Sp := fun vs H Q _ => ∃ (a : Addr) (y : V), vs = [.ref a, y] ∧ OexC K C ∧ PySem.W.findIn K (.ref C) f = some none ∧ H a = some (exo a C none) ∧
  ∀ dx, H dx = none → dx ≠ a → Q .non (upd (upd H dx (exd dx [(f, y)])) a (exo a C (some dx)))
/-- the class stands under its name: its errors keep what they are made of under f -/
structure OwnX (G : Pg) (x : Str) (C : Addr) (f : Str) (k : Nat) : Prop where
  T : OexC G.K C
  no : PySem.W.findIn G.K (.ref C) f = some none
  ex : ∃ (fI : Addr) (fd : FuncData) (ps : List Str), PySem.W.findIn G.K (.ref C) "__init__" = some (some (.ref fI)) ∧ PySem.W.typeIn G.K (.ref fI) = some (.type "function") ∧
    FnOk G.P G.w G.K G.mg G.base CX0 k fI fd ps (SpI G.K C f) ∧ Binds G.K fd ps []
  mg : G.mg x = some (.ref C)
  xf : XfC G.K C
theorem del_upd {H : Hp} {a dx : Addr} {o1 o2 o3 u : HO} (hn : H a = none) (hne : dx ≠ a) : upd (del (upd (upd (upd H a o1) dx o2) a o3) a) dx u = upd H dx u := by
  funext b
  by_cases h1 : b = dx
  · rw [h1, upd_same, upd_same]
  · rw [upd_ne h1, upd_ne h1]
    by_cases h2 : b = a
    · rw [h2, del_same, hn]
    · rw [del_ne h2, upd_ne h2, upd_ne h1, upd_ne h2]
section
variable {Tb : List (Addr × Str)} {Γ : Gm} {env : List Sl} {Q : PD → List Sl → Prop} {QX : RS → List Sl → Prop} {D : EndsD} {a b c e : Expr} {es : List Expr} {pos : Pos}
/-- raise X(e) -/
theorem sd_raiseO {x f : Str} {C : Addr} {j : Nat} {p pos' : Pos} (o : OwnX Γ.G x C f j) (hj : j + 1 ≤ Γ.k) (h : EV Γ e env fun d e1 => Γ.Z C [(f, d)] e1) (hg : Γ.sc.names.lookup x = some .globalImplicit)
    (hdb : (x == ("__debug__" : Str)) = false := by decide +kernel) (he : NoStar e [] := by intro _; rfl) (hpl : NoStarAny [] pos := by intro _; rfl) :
    SD Γ (.Raise (some (.Call (.Name x p) [e] [] pos)) none pos') env D := .mk fun F R H σ E o1 w k => by
  obtain ⟨fI, fd, ps, iC, tI, F1, hb⟩ := o.ex
  have hh : EVs Γ [e] env fun ds e1 => ∃ d, ds = [d] ∧ Γ.Z C [(f, d)] e1 := evs_cons ⟨fun F R H σ P E w k => h.run F R H σ P E w fun d e1 v F' H' q => k d e1 v F' H' (evs_nil ⟨d, rfl, q⟩)⟩ he
  refine ⟨fun _ σ H => tMkO C (SpI Γ.K C f) [] (WA Γ [e]) σ H fun cls d H' => Γ.W cls d σ H', fun X g => ?_, ?_⟩
  · refine ps_raise g.calm g.takes ?_
    have T : OexC X.K C := by rw [g.K]; exact o.T
    have iC : PySem.W.findIn X.K (.ref C) "__init__" = some (some (.ref fI)) := by rw [g.K]; exact iC
    have tI : PySem.W.typeIn X.K (.ref fI) = some (.type "function") := by rw [g.K]; exact tI
    have hb : L2.Binds X.K fd ps [] := by rw [g.K]; exact hb
    have F1 : FnOk X.prog X.w X.K X.mg X.base CX0 j fI fd ps (SpI Γ.K C f) := by rw [g.P, g.w, g.K, g.mg, g.base]; exact F1
    exact pmk_oex T iC tI F1 (g.room.mono hj) hb .nil pass0 (by unfold Gl Env.kindOf; rw [g.sc]; exact hg) (by rw [g.mg]; exact o.mg) (WA.pa g) hdb (he _) (hpl _)
  · refine hh.run F R H σ _ o1 w fun ds e1 vs F1 H1 q s1 E1 r => ⟨?_, fun a ha => ?_⟩
    · rw [r.length]
      obtain ⟨d, rfl, _⟩ := q
      exact Nat.le_of_ble_eq_true rfl
    · obtain ⟨d, rfl, q⟩ := q
      obtain ⟨v, rfl, rv⟩ := repL1 r
      refine ⟨a, v, rfl, o.T, o.no, upd_same, fun dx hdx hne => ⟨rfl, dx, [(f, v)], upd_same, ?_, ?_, ?_⟩⟩
      · rw [upd_ne hne, upd_same]
      · rw [upd_ne hne] at hdx
        exact hdx
      · rw [upd_ne hne] at hdx
        rw [del_upd ha hne]
        obtain ⟨f1, f2, f3⟩ := E1.fresh hdx
        exact w C [(f, d)] e1 σ dx F1 _ q s1 (E1.growU hdx (fun ps z => by cases z)) ⟨[(f, v)], upd_same, v, [], rfl, rv, rfl⟩ f1 f2 f3
/-- def __init__(self, y): self.f = y -/
theorem fn_init {G : Pg} {nm qual : Str} {st : Stmt} {fI C : Addr} {fd : FuncData} {y f : Str} {k : Nat} {p1 p2 p3 p4 : Pos} (F : Fun G.K nm qual st fI fd) (S : FnScope ["self", y] ["self", y] (defScope st))
    (hb : defBody st = [.Assign [.Attribute (.Name "self" p1) f p2] (.Name y p3) p4]) (hv0 : Vis (defScope st) "self") (hv1 : Vis (defScope st) y)
    (hs : ∀ env : Env, swapsWith (.Name y p3) (some (.Attribute (.Name "self" p1) f p2)) p4.line env = pure false := by intro _; rfl) (hd : (y == ("__debug__" : Str)) = false := by decide +kernel) (hcd : (y == ("__classdict__" : Str)) = false := by decide +kernel) :
    FnOk G.P G.w G.K G.mg G.base CX0 (k + 1) fI fd ["self", y] (SpI G.K C f) := by
  refine F.ok S (fun vs H Q E h => ?_) fun cdv A outer s H vs Q E hr h => ?_
  · obtain ⟨a, y, rfl, _⟩ := h
    rfl
  · obtain ⟨a, v, rfl, T, no, ha, q⟩ := h
    rw [hb]
    refine ⟨_, pss_one (ps_ost (pe_var (i := 0) (x := "self") rfl hv0) (pe_var (i := 1) (x := y) rfl hv1 hd hcd) (hs _)), ?_⟩
    exact ⟨v, rfl, .ref a, rfl, a, C, rfl, T, no, .inl ⟨ha, fun dx h1 h2 => q dx h1 h2⟩⟩
end
end Dw

/-! Dy4: a def that asks what it got, and tells of two errors of one's own. -/
namespace Dw
open PySem PySem.Spec PyProof.Rows L2 LamX
/-- (t, err.f) is given back -/
def RdF (cls : Value) (d : Option Addr) (C : Addr) (f t : Str) (Q : VK) (H : Hp) : Prop := cls = .ref C ∧ ∃ (dd : Addr) (fs : List (Str × V)) (v : V), d = some dd ∧ H dd = some (.xd fs) ∧ fs.lookup f = some v ∧ ∀ T, H T = none → Q (.ref T) (upd H T (.tup [.str t, v]))
structure MetC where
  CS : Addr
  CV : Addr
  fS : Str
  fV : Str
  tT : Str
  tS : Str
  tV : Str
def EMet (K : PySem.W.Frag) (m : MetC) (Q : VK) : XK := fun cls d H => ∃ b, PySem.W.exmOne K cls (.ref m.CS) = some b ∧ if b = true then RdF cls d m.CS m.fS m.tS Q H else
  ∃ b2, PySem.W.exmOne K cls (.ref m.CV) = some b2 ∧ if b2 = true then RdF cls d m.CV m.fV m.tV Q H else False
def TMet (K : PySem.W.Frag) (m : MetC) : (XK → Hp → VK → Prop) → Hp → VK → Prop := fun tl H Q => tl (EMet K m Q) H fun v H1 => [V.str m.tT, v].length ≤ sizeLine ∧ ∀ T, H1 T = none → Q (.ref T) (upd H1 T (.tup [.str m.tT, v]))
/-- the reading of a suite that gives back (t, err.f) -/
def tSuite (C : Addr) (f t : Str) : Addr → Value → Option Addr → TS := fun a cls d => tRet (tTup (tCons (tC (.str t)) (tCons (tXf a cls d C f (tVar 1)) tNil)))
section
variable {X : Cx}
theorem met_gives {m : MetC} {Ng : List Str} {x a eS eV n q : Str} {sg : Scope} {g : Addr} {cdg : Value} {j1 j2 j3 k1 k2 k3 : Nat} {p1 p2 p3 p4 p5 p6 p7 p8 p9 p10 p11 p12 p13 p14 p15 p16 p17 p18 p19 p20 p21 : Pos}
    (hgS : sg.names.lookup eS = some .globalImplicit) (hmS : X.mg eS = some (.ref m.CS)) (hdS : (eS == ("__debug__" : Str)) = false) (hgV : sg.names.lookup eV = some .globalImplicit) (hmV : X.mg eV = some (.ref m.CV)) (hdV : (eV == ("__debug__" : Str)) = false)
    (xS : XfC X.K m.CS) (nS : PySem.W.findIn X.K (.ref m.CS) m.fS = some none) (xV : XfC X.K m.CV) (nV : PySem.W.findIn X.K (.ref m.CV) m.fV = some none)
    (hN : Ng.Nodup) (hn : Ng[1]? = some n) (hln : sg.names.lookup n = some .local) (hl : Ng.length = 2) (h0 : ∀ f : Addr, (L2.start Ng [V.ref f])[0]? = some (some (V.ref f)))
    (hdn : (n == ("__debug__" : Str)) = false := by decide +kernel) (hcn : (n == ("__classdict__" : Str)) = false := by decide +kernel) :
    GivesTo X Ng x sg g cdg [.Try [.Return (some (.Tuple [.Constant (.str m.tT) j1 p1, .Call (.Name a p2) [] [] p3] k1 p4)) p5]
      [.ExceptHandler (some (.Name eS p6)) (some n) [.Return (some (.Tuple [.Constant (.str m.tS) j2 p7, .Attribute (.Name n p8) m.fS p9] k2 p10)) p11] p12,
       .ExceptHandler (some (.Name eV p13)) (some n) [.Return (some (.Tuple [.Constant (.str m.tV) j3 p14, .Attribute (.Name n p15) m.fV p16] k3 p17)) p18] p19] [] [] p20] a q (TMet X.K m) := by
  intro f c' s H Q tl act hc h
  have hgl : Gl (cxOf C8.CX0 X.prog X.w X.K X.mg X.base Ng x sg g cdg X.A X.stack s H C8.E0).nox eS := hgS
  have hgl2 : Gl (cxOf C8.CX0 X.prog X.w X.K X.mg X.base Ng x sg g cdg X.A X.stack s H C8.E0).nox eV := hgV
  have suite : ∀ {C : Addr} {ff t : Str} {j k : Nat} {q1 q2 q3 q4 q5 : Pos}, XfC X.K C → PySem.W.findIn X.K (.ref C) ff = some none → ∀ (a : Addr) (oe : Obj) (cls : Value) (d : Option Addr) (pn : List (Addr × Obj)), Zc cls d oe → (∃ vs, oe.data = .fields vs) →
      PSs ((cxOf C8.CX0 X.prog X.w X.K X.mg X.base Ng x sg g cdg X.A X.stack s H C8.E0).nox.suite a ((a, oe) :: pn)) [.Return (some (.Tuple [.Constant (.str t) j q1, .Attribute (.Name n q2) ff q3] k q4)) q5] (tSuite C ff t a cls d) := fun xf nf a oe cls d pn hz hf =>
    pss_one (ps_ret (pe_tup (pa_cons pe_str (pa_cons (pe_xf (X := (cxOf C8.CX0 X.prog X.w X.K X.mg X.base Ng x sg g cdg X.A X.stack s H C8.E0).nox) xf nf hz hf (pe_var (i := 1) hn (.inl hln) hdn hcn)) pa_nil))))
  refine ⟨_, pss_one (ps_tryA (X := (cxOf C8.CX0 X.prog X.w X.K X.mg X.base Ng x sg g cdg X.A X.stack s H C8.E0).nox) (l := [⟨.ref m.CS, 1, tSuite m.CS m.fS m.tS⟩, ⟨.ref m.CV, 1, tSuite m.CV m.fV m.tV⟩])
      (tb := fun W D σ H => ∃ Ech : XK, (∀ cls d σ' H', Ech cls d H' → W cls d σ' H') ∧ σ[0]? = some (some (.ref f)) ∧ H c' = some (CodeO c' q) ∧ tl Ech H fun v H1 => [V.str m.tT, v].length ≤ sizeLine ∧ ∀ T, H1 T = none → D.rt (.ref T) (upd H1 T (.tup [.str m.tT, v])))
      rfl rfl hN LamX.takes0 (fun W pn xe tk => ?_) (.cons ⟨hgl, hdS, .inl hmS⟩ hn hln (suite xS nS) (.cons ⟨hgl2, hdV, .inl hmV⟩ hn hln (suite xV nV) .nil))), ?_⟩
  · refine ⟨fun pins s' σ H' D I h' => ?_⟩
    obtain ⟨Ech, hW, h1, h2, h3⟩ := h'
    have hp := act W pn xe Ech p2 p3 tk hW
    have hq := pss_one (ps_ret (pos := p5) (pe_tup (x1 := k1) (pos := p4) (pa_cons (pe_str (x := m.tT) (j := j1) (pos := p1)) (pa_cons hp pa_nil))))
    refine hq.run pins s' σ H' D I ⟨h1, h2, h3⟩
  · refine ⟨EMet X.K m Q, fun cls d σ' H' ⟨b, e1, e2⟩ => ?_, h0 f, hc, h⟩
    have rd : ∀ {C : Addr} {ff t : Str}, RdF cls d C ff t Q H' → ∀ a : Addr, H' a = none → σ'.length = Ng.length → tSuite C ff t a cls d (goneA { nx := fun _ H' => Q .non H', rt := Q } 1) (σ'.set 1 (some (.ref a))) H' := fun ⟨r1, dd, fs, v, r2, r3, r4, r5⟩ a ha hlen => by
      refine ⟨.ref a, ?_, rfl, r1, dd, fs, v, r2, r3, r4, Nat.le_of_ble_eq_true rfl, r5⟩
      rw [List.getElem?_set_self (by rw [hlen, hl]; decide)]
    refine ⟨b, e1, ?_⟩
    cases b with
    | true => exact fun a ha hlen => rd e2 a ha hlen
    | false =>
      obtain ⟨b2, g1, g2⟩ := e2
      refine ⟨b2, g1, ?_⟩
      cases b2 with
      | true => exact fun a ha hlen => rd g2 a ha hlen
      | false => exact g2.elim
end
end Dw

/-! Dy5: f(lambda: e), f a def that asks, over data. -/
namespace Dw
open PySem PySem.Spec PyProof.Rows L2 LamX
theorem EnvOk.extN {K : PySem.W.Frag} {Tb : List (Addr × Str)} {F R H H1 : Hp} {σ : L2.St} {env : List Sl} (E : EnvOk K Tb F R H σ env) (e : ExtN H H1) (t : Tabs Tb H1) : EnvOk K Tb F R H1 σ env where
  exF := fun b o h => e b o (E.exF b o h) fun ps z => by
    subst z
    rw [(E.nt b ps (E.exF b _ h)).1] at h
    cases h
  exR := fun b o h => e b o (E.exR b o h) fun ps z => by
    subst z
    rw [(E.nt b ps (E.exR b _ h)).2] at h
    cases h
  dis := E.dis
  len := E.len
  nd := E.nd
  tb := t
  nt := fun b ps h => by
    constructor
    · cases hb : F b with
      | none => rfl
      | some o =>
        have h1 := E.exF b o hb
        have : H1 b = some o := e b o h1 fun ps z => by
          subst z
          rw [(E.nt b ps h1).1] at hb
          cases hb
        rw [h] at this
        cases this
        rw [(E.nt b ps h1).1] at hb
        cases hb
    · cases hb : R b with
      | none => rfl
      | some o =>
        have h1 := E.exR b o hb
        have : H1 b = some o := e b o h1 fun ps z => by
          subst z
          rw [(E.nt b ps h1).2] at hb
          cases hb
        rw [h] at this
        cases this
        rw [(E.nt b ps h1).2] at hb
        cases hb
  slot := fun i v sl e1 e2 => by
    have z := E.slot i v sl e1 e2
    cases sl with
    | no => cases v <;> trivial
    | raw w => cases v <;> exact z
    | sh x => cases v <;> exact z
    | own p o =>
      cases v with
      | none => exact z
      | some v =>
        obtain ⟨z1, z2, z3, u2, z4, z5⟩ := z
        exact ⟨z1, z2, z3, u2, e p u2 z4 (OkO.kind z5).1, z5⟩
/-- the same slots again, behind something that was let out -/
theorem EnvOk.reS {K : PySem.W.Frag} {Tb : List (Addr × Str)} {F F' R H H' : Hp} {σ σ' : L2.St} {env : List Sl} (E : EnvOk K Tb F R H σ env) (E' : EnvOk K Tb F' R H' σ' env) (s : Same F F') : EnvOk K Tb F' R H' σ env where
  exF := E'.exF
  exR := E'.exR
  dis := E'.dis
  len := E.len
  nd := E.nd
  tb := E'.tb
  nt := E'.nt
  slot := fun i v sl e1 e2 => by
    have z := E.slot i v sl e1 e2
    obtain ⟨v', h1, h2⟩ := E'.get e2
    cases sl with
    | no => cases v <;> trivial
    | raw w => cases v <;> exact z
    | sh x =>
      cases v with
      | none => exact z
      | some v => exact Rep.mono s z
    | own p o =>
      cases v with
      | none => exact z
      | some v =>
        cases v' with
        | none => exact h2.elim
        | some v' =>
          obtain ⟨z1, _⟩ := z
          obtain ⟨_, y2, y3, y4⟩ := h2
          exact ⟨z1, y2, y3, y4⟩
/-- the context of a lambda's body -/
def Gm.lam (Γ : Gm) (scope : Scope) (E : XK) (c' : Addr) (k : Nat) (Z : Addr → List (Str × PD) → List Sl → Prop) : Gm := ⟨Γ.N, scope, { Γ.G with gd := false }, .ref c', Γ.qual ++ "<lambda>" ++ ".<locals>.", k, fun cls d _ H => E cls d H, Z, fun _ => False⟩
theorem good_lam {Γ : Gm} {X : Cx} {scope : Scope} {A : Around} {outer : List Env} {s : Shared} {H : Hp} {E : XK} {f c' : Addr} {k : Nat} {Z : Addr → List (Str × PD) → List Sl → Prop} (g : Good Γ X) (hr : Room k (A.deeper (lamEnv X scope s.heap.objs.size f c'))) :
    Good (Γ.lam scope E c' k Z) (lamCx X A outer s H E scope f c') where
  N := g.N
  sc := rfl
  K := g.K
  mg := g.mg
  P := g.P
  w := g.w
  base := g.base
  calm := rfl
  gd := fun z => by cases z
  code := rfl
  qual := by
    show X.env.qual ++ "<lambda>" ++ ".<locals>." = Γ.qual ++ "<lambda>" ++ ".<locals>."
    rw [g.qual]
  room := hr
  fn := fun x hx => hx.elim
  passes := passes_of rfl
  takes := takes_of rfl rfl rfl rfl
/-- a lambda can be made here -/
structure LamOk (Γ : Gm) : Prop where
  ex : ∃ c P : Addr, Γ.code = .ref c ∧ TabB Γ.base Γ.mg c P ∧ (P, Γ.qual ++ "<lambda>") ∈ Γ.Tb ∧ ∀ p ∈ Γ.Tb, p.1 = P → p.2 = Γ.qual ++ "<lambda>"
/-- the asking def, its two classes -/
structure MetOk (G : Pg) (m : MetC) (x : Str) : Prop where
  ex : ∃ (g : Addr) (pg : Arguments) (bg : List Stmt) (sg : Scope) (dV kV doc pm : Value) (an : Option Addr) (cdv ct oc : Value) (od : Option Addr) (osl : Array (Option Value)) (Ng : List Str) (a : Str),
    G.mg x = some (.ref g) ∧ PySem.W.keepIn G.K (.ref g) = true ∧ G.K.lookup g = some ⟨oc, od, .func (PySem.W.fnOf x x pg bg sg dV kV doc pm an cdv ct), osl⟩ ∧ PySem.W.codeIn G.K cdv x = true ∧ L2.Binds G.K (PySem.W.fnOf x x pg bg sg dV kV doc pm an cdv ct) [a] [] ∧
    FnScope Ng [a] sg ∧ Ng[0]? = some a ∧ Vis sg a ∧ (a == ("__debug__" : Str)) = false ∧ (a == ("__classdict__" : Str)) = false ∧ ∀ (X : Cx) (q : Str), X.K = G.K → X.mg = G.mg → GivesTo X Ng x sg g cdv bg a q (TMet X.K m)
  SS : PySem.W.exmOne G.K (.ref m.CS) (.ref m.CS) = some true
  VS : PySem.W.exmOne G.K (.ref m.CV) (.ref m.CS) = some false
  VV : PySem.W.exmOne G.K (.ref m.CV) (.ref m.CV) = some true
section
variable {Γ : Gm} {env : List Sl} {QX : RS → List Sl → Prop}
/-- f(lambda: body) -/
theorem ex_met {m : MetC} {x : Str} {params : Arguments} {body : Expr} {scope : Scope} {j : Nat} {p lpos pos : Pos} (M : MetOk Γ.G m x) (LO : LamOk Γ) (hj : j + 2 ≤ Γ.k)
    (h : ∀ (E : XK) (c' : Addr), EV (Γ.lam scope E c' j fun C ds env' => (C = m.CS ∧ env' = env ∧ ∃ d, ds = [(m.fS, d)] ∧ QX (.sh (.tuple [.str m.tS, d])) env) ∨ (C = m.CV ∧ env' = env ∧ ∃ d, ds = [(m.fV, d)] ∧ QX (.sh (.tuple [.str m.tV, d])) env)) body env fun d env' => QX (.sh (.tuple [.str m.tT, d])) env')
    (L : LamS Γ.sc scope) (hg : Γ.sc.names.lookup x = some .globalImplicit) (hdef : ∀ env : Env, defaultsOf params env = ([], []) := by intro _; rfl)
    (hbind : ∀ (q : Str) (cl : List (Str × Addr)) (pm cv ctv : Value), bindArgs (PySem.W.kla_fn "<lambda>" q params body scope cl pm cv ctv) ⟨[], []⟩ = pure [] := by intro _ _ _ _ _; rfl) (hdb : (x == ("__debug__" : Str)) = false := by decide +kernel) :
    EX Γ (.Call (.Name x p) [.Lambda params body scope lpos] [] pos) env QX := .mk fun F R H σ P E w k => by
  obtain ⟨g0, pg, bg, sg, dV, kV, doc, pm, an, cdv, ct, oc, od, osl, Ng, a, hm, hk, lk, hcg, hb, Sg, hNg, hva, hda, hca, hG⟩ := M.ex
  obtain ⟨c, PP, hcode, TB, hmT, hu⟩ := LO.ex
  let Zl : Addr → List (Str × PD) → List Sl → Prop := fun C ds env' => (C = m.CS ∧ env' = env ∧ ∃ d, ds = [(m.fS, d)] ∧ QX (.sh (.tuple [.str m.tS, d])) env) ∨ (C = m.CV ∧ env' = env ∧ ∃ d, ds = [(m.fV, d)] ∧ QX (.sh (.tuple [.str m.tV, d])) env)
  refine ⟨tLam Γ.Tb (TMet Γ.K m) fun E σ H Q => ∀ c', WE (Γ.lam scope E c' j Zl) body σ H Q, fun X g => ?_, E.tb, fun H1 eN T1 => ?_⟩
  · have hG' := hG X (X.env.qual ++ "<lambda>") g.K g.mg
    rw [g.K] at hG'
    exact pe_lamcall (T := Γ.Tb) (by unfold Gl Env.kindOf; rw [g.sc]; exact hg) (by rw [g.mg]; exact hm) (by rw [g.K]; exact hk) (by rw [g.K]; exact lk) (by rw [g.K]; exact hcg) (by rw [g.K]; exact hb) Sg hNg hva hG'
      (c := c) (P := PP) (by rw [g.base, g.mg]; exact TB) (g.code.trans hcode) (by rw [g.qual]; exact hmT) (by rw [g.qual]; exact hu) (k := j) (g.room.mono hj) (by rw [g.sc]; exact L) (hdef _) hbind
      (fun A outer s H E f c' hr => ⟨fun pins s' σ' H' Q I hq => (WE.pe (good_lam g hr)).run pins s' σ' H' Q I (hq c')⟩) hdb hda hca
  · have E1 := E.extN eN T1
    show ∀ c', WE (Γ.lam scope (EMet Γ.K m P) c' j Zl) body σ H1 _
    intro c'
    have rd : ∀ {C : Addr} {f t : Str} {d : PD} {env' : List Sl} {da : Addr} {F' H' : Hp}, QX (.sh (.tuple [.str t, d])) env' → Same F F' → EnvOk Γ.K Γ.Tb F' R H' σ env' → ExcOk Γ.K F' H' C [(f, d)] da → RdF (.ref C) (some da) C f t P H' := fun {C f t d env' da F' H'} q s e2 x => by
      obtain ⟨fs, x1, v, r, rfl, x2, x3⟩ := x
      cases x3
      refine ⟨rfl, da, _, v, rfl, x1, by simp [List.lookup], fun T hT => ?_⟩
      obtain ⟨E3, s3⟩ := e2.newF hT (.tup [.str t, v])
      exact k _ env' _ _ _ q (s.trans s3) E3 ⟨T, _, rfl, .inl (.inl upd_same), .str t, [v], rfl, rfl, v, [], rfl, x2.mono s3, rfl⟩
    refine (h (EMet Γ.K m P) c').run F R H1 σ _ E1 (fun C ds env' σ' da F' H' z s e2 x f1 f2 f3 => ?_) fun d e1 v F2 H2 q s2 E2 r => ⟨Nat.le_of_ble_eq_true rfl, fun T hT => ?_⟩
    · have ee : env' = env := z.elim (fun z => z.2.1) fun z => z.2.1
      rw [ee] at e2
      have e2 := E.reS e2 s
      rcases z with ⟨rfl, _, d, rfl, q⟩ | ⟨rfl, _, d, rfl, q⟩
      · exact ⟨true, M.SS, rd q s e2 x⟩
      · exact ⟨false, M.VS, true, M.VV, rd q s e2 x⟩
    · obtain ⟨E3, s3⟩ := E2.newF hT (.tup [.str m.tT, v])
      exact k _ e1 _ _ _ q (s2.trans s3) E3 ⟨T, _, rfl, .inl (.inl upd_same), .str m.tT, [v], rfl, rfl, v, [], rfl, r.mono s3, rfl⟩
end
end Dw

/-! Dy6: what is appended may come out of the list itself. -/
namespace Dw
open PySem PySem.Spec PyProof.Rows L2
variable {Tb : List (Addr × Str)}
variable {Γ : Gm} {env : List Sl} {Q : PD → List Sl → Prop} {QX : RS → List Sl → Prop} {QB : Bool → List Sl → Prop} {D : EndsD} {a b c e : Expr} {es : List Expr} {pos : Pos}
variable {i : Nat} {x : Str} {p : Addr} {xs : List PD} {npos apos : Pos}
/-- x.append(e), e may change x -/
theorem ex_append2 {xs0 : List PD} (h0 : env[i]? = some (Sl.own p (.lst xs0))) (h : EV Γ e env fun d e1 => ∃ xs, e1[i]? = some (Sl.own p (.lst xs)) ∧ xs.length < 100000 ∧ QX (.sh .none) (e1.set i (Sl.own p (.lst (xs ++ [d])))))
    (hN : Γ.N[i]? = some x) (hv : Vis Γ.sc x) (hd : (x == ("__debug__" : Str)) = false := by decide +kernel) (hcd : (x == ("__classdict__" : Str)) = false := by decide +kernel)
    (hbase : ∀ env : Env, attributeBase (.Name x npos) ("append" : Str) env (eval (.Name x npos) env) = eval (.Name x npos) env := by intro _; rfl)
    (hfew : ∀ env : Env, ((backTo pos (starEach (e :: []) env)).all (fun x => !x.1) && (backToKw pos (keywordEach [] env)).all (fun x => x.1.isSome) && decide ((e :: []).length + ([] : List Keyword).length + (if ([] : List Keyword).isEmpty then 0 else 1) < 30)) = true := by intro _; rfl)
    (hline : (apos.endLine == pos.line) = true := by rfl) (hs : NoStar e [] := by intro _; rfl) : EX Γ (.Call (.Attribute (.Name x npos) "append" apos) [e] [] pos) env QX := .mk fun F R H σ P E w k => by
  obtain ⟨h1, _, _, u0, h4, us0, rfl, _⟩ := E.getOwn h0
  refine ⟨tBM Γ.K "list" rAppend (tVar i) (tCons (WE Γ e) tNil), fun X g => by
    rw [← g.K]
    exact pe_bm PySem.F.plainAttrs_list PySem.F.slot_list_append PySem.F.type_list_append (mtM_mtR mt_append) (pe_var (by rw [g.N]; exact hN) (by rw [g.sc]; exact hv) hd hcd) (pa_cons (WE.pe g) pa_nil (hs _)) (hbase _) (hfew _) hline (hs _) rfl,
    _, h1, .inl ⟨rfl, us0, .inl (.inl h4)⟩, h.run F R H σ _ E w fun d e1 v F1 H1 q s1 E1 r => ?_⟩
  obtain ⟨xs, e2, hl, q⟩ := q
  obtain ⟨_, z2, z3, u, z4, us, rfl, z5⟩ := E1.getOwn e2
  refine ⟨_, us, v, rfl, rfl, z4, by rw [z5.length]; exact Nat.lt_of_lt_of_le hl (by decide), k _ _ _ F1 _ q s1 (E1.mut e2 ⟨_, rfl, z5.append (RepL.one r)⟩) rfl⟩
/-- while x != [] -/
theorem et_neNil {p2 : Pos} (h : env[i]? = some (Sl.own p (.lst xs))) (q : QB (!xs.isEmpty) env) (nd : noDictL xs = true) (sh : SeqAt.shaped (.list xs) = true) (hN : Γ.N[i]? = some x) (hv : Vis Γ.sc x)
    (hd : (x == ("__debug__" : Str)) = false := by decide +kernel) (hcd : (x == ("__classdict__" : Str)) = false := by decide +kernel) (hm : behindInMarks .NotEq (.List [] p2) = false := by first | exact nobehind _ (by decide) (by decide) | rfl) :
    ET Γ (.Compare (.Name x npos) [.NotEq] [.List [] p2] pos) env QB := .mk fun F R H σ P E w k => by
  obtain ⟨h1, h2, h3, u, h4, us, rfl, h5⟩ := E.getOwn h
  refine ⟨tTest (tOp (rNeD Γ.K) (tVar i) (tLst tNil)), fun X g => pt_cmpR (by rw [← g.K]; exact op_neD g.room.units) (pe_var (by rw [g.N]; exact hN) (by rw [g.sc]; exact hv) hd hcd) (pe_lst pa_nil) hm, _, h1, by show 0 ≤ sizeLine; decide, fun l hl => ?_⟩
  have s1 : Same H (upd H l (.lst [])) := same_upd hl
  have e : PyData.eqv (.list xs) (.list []) = xs.isEmpty := by cases xs <;> rfl
  refine ⟨.list xs, .list [], .lst (.inl (.inl (s1 _ _ h4))) (rep_dpL (E.exF.trans s1) nd h5), .lst (.inl (.inl upd_same)) .nil, sh, (by decide), ?_⟩
  rw [e]
  exact ⟨_, rfl, k _ env F _ q (Same.refl F) (E.growU hl noTb_lst)⟩
end Dw

/-! Dy7: a name set to a list comprehension on one line. -/
namespace Dw
open PySem PySem.Spec PyProof.Rows L2
section
variable {K : PySem.W.Frag} {F R H : Hp} {σ : L2.St} {env : List Sl}
/-- what a list comprehension's reading asks, over what is walked here and now -/
theorem lc_raw {ifs : List Expr} {scope : Scope} (own : List (Str × Nat)) (I : Nat → List PD → List Sl → Prop) {F R H : Hp} {σ : L2.St} {P : VK} (E : EnvOk Γ.K Γ.Tb F R H σ env)
    (h : ∀ P' : It → Hp → Prop, (∀ ds env' J F' H', LcQ Γ tg ifs scope elt own I QX ds env' → Same F F' → EnvOk Γ.K Γ.Tb F' R H' σ env' → Walks Γ.K Γ.Tb F' J ds → P' J H') → WI Γ tg iter σ H P')
    (k : ∀ (r : RS) (env' : List Sl) (v : V) (F' H' : Hp), QX r env' → Same F F' → EnvOk Γ.K Γ.Tb F' R H' σ env' → ResOk Γ.K F' R H' env' v r → P v H') :
    tLc (WI Γ tg iter) (WG (Γ.blk scope) tg) (WTs (Γ.blk scope) ifs) (WE (Γ.blk scope) elt) (own.map (·.2)) σ H P :=
  h _ fun ds e1 J F1 H1 q s1 E1 wk Dl hD => by
    obtain ⟨hlen, q0, qs, qe⟩ := q
    let vs := own.map (·.2)
    obtain ⟨f1, f2, f3⟩ := E1.fresh hD
    refine ⟨fun i m H2 => m = ds.length - i ∧ i ≤ ds.length ∧ ∃ F2 e0 acc accV, Same F1 F2 ∧ EnvOk Γ.K Γ.Tb F2 (upd R Dl (.lst accV)) H2 (L2.wipe σ vs) (wipeE e0 vs) ∧ RepL Γ.K F2 acc accV ∧ acc.length ≤ i ∧ I i acc (wipeE e0 vs),
      ⟨ds.length, by omega, Nat.zero_le _, F1, e1, [], [], Same.refl F1, (E1.addR hD _).wipe vs, rfl, Nat.le_refl _, q0⟩, ?_⟩
    rintro i m H2 ⟨rfl, hi, F2, e0, acc, accV, s2, E2, rA, hacc, qi⟩
    obtain ⟨wstop, wgo⟩ := wk F2 _ H2 _ _ E2 s2 i
    by_cases hlt : i < ds.length
    · refine .inr ?_
      obtain ⟨g1, g2⟩ := wgo ds[i] (List.getElem?_eq_getElem hlt)
      refine ⟨g1, fun H' => ∃ F3 e3 acc' accV', Same F2 F3 ∧ EnvOk Γ.K Γ.Tb F3 (upd R Dl (.lst accV')) H' (L2.wipe σ vs) (wipeE e3 vs) ∧ RepL Γ.K F3 acc' accV' ∧ acc'.length ≤ i + 1 ∧ I (i + 1) acc' (wipeE e3 vs),
        fun H' ⟨F3, e3, acc', accV', s3, E3, r3, l3, q3⟩ => ⟨ds.length - (i + 1), by omega, rfl, hlt, F3, e3, acc', accV', s2.trans s3, E3, r3, l3, q3⟩, fun x H3 y => ?_⟩
      obtain ⟨F3, s3, E3, r3⟩ := g2 x H3 y
      refine (qs i acc _ ds[i] hacc qi (List.getElem?_eq_getElem hlt)).run F3 _ H3 (L2.wipe σ vs) x _ E3 r3 fun σ4 e4 q4 b4 E4 => ⟨?_, ?_⟩
      · rw [b4 vs fun j hj => hj]
        have key : ∀ ws : List Nat, L2.wipe (L2.wipe σ ws) ws = L2.wipe σ ws := by
          intro ws
          apply List.ext_getElem?
          intro n
          by_cases hn : n ∈ ws
          · have h1 : ∀ τ : L2.St, ∀ ws : List Nat, n ∈ ws → (L2.wipe τ ws)[n]? = if n < τ.length then some none else none := by
              intro τ ws
              induction ws with
              | nil => intro h; cases h
              | cons v r ih =>
                intro h
                show ((L2.wipe τ r).set v none)[n]? = _
                by_cases hv : v = n
                · subst hv
                  rw [List.getElem?_set]
                  simp only [if_true, L2.wipe_length]
                · rw [List.getElem?_set_ne hv]
                  rcases List.mem_cons.mp h with h | h
                  · exact absurd h.symm hv
                  · exact ih h
            rw [h1 _ ws hn, h1 _ ws hn, L2.wipe_length]
          · rw [wipe_get hn]
        exact key vs
      · refine q4.run F3 _ H3 σ4 _ E4 wok_blk fun t e5 F5 H5 q5 s5 E5 => ?_
        have hw4 : L2.wipe σ4 vs = L2.wipe σ vs := by
          rw [b4 vs fun j hj => hj]
          have key : ∀ ws : List Nat, L2.wipe (L2.wipe σ ws) ws = L2.wipe σ ws := by
            intro ws
            apply List.ext_getElem?
            intro n
            by_cases hn : n ∈ ws
            · have h1 : ∀ τ : L2.St, ∀ ws : List Nat, n ∈ ws → (L2.wipe τ ws)[n]? = if n < τ.length then some none else none := by
                intro τ ws
                induction ws with
                | nil => intro h; cases h
                | cons v r ih =>
                  intro h
                  show ((L2.wipe τ r).set v none)[n]? = _
                  by_cases hv : v = n
                  · subst hv
                    rw [List.getElem?_set]
                    simp only [if_true, L2.wipe_length]
                  · rw [List.getElem?_set_ne hv]
                    rcases List.mem_cons.mp h with h | h
                    · exact absurd h.symm hv
                    · exact ih h
              rw [h1 _ ws hn, h1 _ ws hn, L2.wipe_length]
            · rw [wipe_get hn]
          exact key vs
        cases t with
        | true =>
          refine q5.run F5 _ H5 σ4 _ E5 wok_blk fun yd e6 yv F6 H6 q6 s6 E6 r6 => ?_
          refine ⟨accV, E6.exR Dl _ upd_same, ?_, F6, e6, acc ++ [yd], accV ++ [yv], (s3.trans s5).trans s6, ?_, (rA.mono ((s3.trans s5).trans s6)).append (RepL.one r6), ?_, q6⟩
          · rw [rA.length]
            exact Nat.lt_of_lt_of_le (Nat.lt_of_le_of_lt hacc (Nat.lt_of_lt_of_le hlt hlen)) (by decide)
          · have := (E6.chgR (us' := accV ++ [yv])).wipe vs
            rw [hw4] at this
            exact this
          · rw [List.length_append]
            show acc.length + 1 ≤ i + 1
            omega
        | false =>
          refine ⟨F5, e5, acc, accV, s3.trans s5, ?_, rA.mono (s3.trans s5), by omega, q5⟩
          have := E5.wipe vs
          rw [hw4] at this
          exact this
    · have he : i = ds.length := by omega
      subst he
      obtain ⟨E3, z1, z2, z3⟩ := E2.dropR f2
      refine .inl ⟨wstop (Nat.le_refl _), k _ _ _ F2 H2 (qe acc _ hacc qi Dl z2) (s1.trans s2) E3.unwipe ⟨rfl, z1, f2, z2, _, z3, accV, rfl, rA⟩⟩
end
section
variable {Γ : Gm} {env : List Sl} {D : EndsD} {elt tg iter : Expr} {pos py spos : Pos}
/-- x = [elt for tg in iter if ..] -/
theorem sd_setLc {ifs : List Expr} {scope : Scope} {i : Nat} {y : Str} (own : List (Str × Nat)) (I : Nat → List PD → List Sl → Prop)
    (h : IT Γ tg iter env fun ds e1 => LcQ Γ tg ifs scope elt own I (fun r e => D.nx (e.set i r)) ds e1)
    (hN : Γ.N.Nodup) (hy : Γ.N[i]? = some y) (hl : Γ.sc.names.lookup y = some .local) (hk : Γ.sc.kind = .function) (ok : blkC Γ.N Γ.sc scope own = true) (hp : (py.line == pos.line) = true) (ha : (scope.names.any fun (n, k) => n == y && (k == .local || k == .cell)) = false)
    (hs : ∀ (env : Env) x, foldedSetIterable iter env x = pure x := by intro _ _; rfl) :
    SD Γ (.Assign [.Name y py] (.ListComp elt [⟨tg, iter, ifs, 0⟩] scope pos) spos) env D := .mk fun F R H σ E o w k =>
  ⟨tAsg (tLc (WI Γ tg iter) (WG (Γ.blk scope) tg) (WTs (Γ.blk scope) ifs) (WE (Γ.blk scope) elt) (own.map fun q : Str × Nat => q.2)) (gName i), fun X g =>
    ps_setLc g.calm (by rw [g.N]; exact hN) (by rw [g.N]; exact hy) (by rw [g.sc]; exact hl) (sw_true (by rw [g.sc]; exact hk) (by rw [g.sc]; exact hl) hp ha) (WI.pi g) (blkOk_by (by rw [g.N, g.sc]; exact ok)) (fun _ _ _ _ _ => WG.pg (good_blk g)) (fun _ _ _ _ _ => WTs.pts (good_blk g)) (fun _ _ _ _ _ => WE.pe (good_blk g)) (hs _),
  lc_raw own I o (fun P' hP => h.run F R H σ P' o w hP) fun r env' v F' H' q s E' ro => k.1 _ _ F' H' q s (E'.put i ro)⟩
end
end Dw

namespace K8
open PySem PySem.Spec PyProof.Rows L2 Dw
theorem vis_of {sc : Scope} {x : Str} (h : (match sc.names.lookup x with | some .local => true | some .cell => true | some .free => true | _ => false) = true) : Vis sc x := by
  unfold Vis
  cases hl : sc.names.lookup x with
  | none => rw [hl] at h; cases h
  | some k => rw [hl] at h; cases k <;> first | exact .inl rfl | exact .inr (.inl rfl) | exact .inr (.inr rfl) | cases h
theorem loc_of {sc : Scope} {x : Str} (h : (match sc.names.lookup x with | some .local => true | some .cell => true | _ => false) = true) : L2.Loc sc x := by
  unfold L2.Loc
  cases hl : sc.names.lookup x with
  | none => rw [hl] at h; cases h
  | some k => rw [hl] at h; cases k <;> first | exact .inl rfl | exact .inr rfl | cases h
local macro_rules | `(tactic| walk_at "dwvis") => `(tactic| exact vis_of (by kernel_rfl))
local macro_rules | `(tactic| walk_at "dwbin") => `(tactic| first
  | refine ⟨_, od_eqS, ?_⟩ | refine ⟨_, od_neS, ?_⟩ | refine ⟨_, od_add, ?_⟩ | refine ⟨_, od_sub, ?_⟩ | refine ⟨_, od_lt, ?_⟩ | refine ⟨_, od_le, ?_⟩ | refine ⟨_, od_gt, ?_⟩ | refine ⟨_, od_ge, ?_⟩ | refine ⟨_, od_eqI, ?_⟩ | refine ⟨_, od_eqB, ?_⟩ | refine ⟨_, od_neB, ?_⟩
  | refine ⟨_, od_isN, ?_⟩ | refine ⟨_, od_notN, ?_⟩ | refine ⟨_, od_inSign, ?_⟩ | refine ⟨_, od_notInSign, ?_⟩)
local macro_rules | `(tactic| walk_at "dwcd") => `(tactic| first
  | refine ⟨_, cd_len (by assumption), ?_⟩ | refine ⟨_, cd_lenS (by assumption), ?_⟩ | refine ⟨_, cd_abs, ?_⟩ | refine ⟨_, cd_intI, ?_⟩ | refine ⟨_, cd_intB, ?_⟩ | refine ⟨_, cd_all, ?_⟩ | refine ⟨_, cd_any, ?_⟩ | refine ⟨_, cd_sum, ?_⟩)
local macro_rules | `(tactic| walk_at "dwname") => `(tactic| first
  | refine ev_name (i := 0) rfl ?_ rfl (by walk_at "dwvis") | refine ev_name (i := 1) rfl ?_ rfl (by walk_at "dwvis")
  | refine ev_name (i := 2) rfl ?_ rfl (by walk_at "dwvis") | refine ev_name (i := 3) rfl ?_ rfl (by walk_at "dwvis")
  | refine ev_name (i := 4) rfl ?_ rfl (by walk_at "dwvis") | refine ev_name (i := 5) rfl ?_ rfl (by walk_at "dwvis")
  | refine ev_globD (by assumption) ?_ (by kernel_rfl))
local macro_rules | `(tactic| walk_at "dwcall") => `(tactic| first
  | refine ev_callH (by assumption) (Nat.le_of_ble_eq_true rfl) ?_ (by kernel_rfl)
  | refine ev_ex (ex_callB (id := "len") (x := "len") ?_ (by kernel_rfl) (Blt.len (by assumption)) PySem.boot_len)
  | refine ev_isi2 (n1 := "list") (n2 := "tuple") (T1 := "list") (T2 := "tuple") ?_ (by decide) (by kernel_rfl) (Blt.isinstance (by assumption)) (by kernel_rfl) (Blt.list (by assumption)) PyProof.Rows.boot_list (by kernel_rfl) (Blt.tuple (by assumption)) PyProof.Rows.boot_tuple
  | refine ev_isi (n := "int") (T := "int") ?_ (by decide) (by kernel_rfl) (Blt.isinstance (by assumption)) (by kernel_rfl) (Blt.int (by assumption)) PyProof.Rows.boot_int
  | refine ev_isi (n := "bool") (T := "bool") ?_ (by decide) (by kernel_rfl) (Blt.isinstance (by assumption)) (by kernel_rfl) (Blt.bool (by assumption)) PyProof.Rows.boot_bool
  | refine ev_isi (n := "str") (T := "str") ?_ (by decide) (by kernel_rfl) (Blt.isinstance (by assumption)) (by kernel_rfl) (Blt.str (by assumption)) PyProof.Rows.boot_str
  | refine ev_isi (n := "dict") (T := "dict") ?_ (by decide) (by kernel_rfl) (Blt.isinstance (by assumption)) (by kernel_rfl) (Blt.dict (by assumption)) PyProof.Rows.boot_dict
  | refine ev_ex (ex_callB (id := "all") (x := "all") ?_ (by kernel_rfl) (Blt.all (by assumption)) PyProof.Rows.boot_all)
  | refine ev_ex (ex_callB (id := "any") (x := "any") ?_ (by kernel_rfl) (Blt.any (by assumption)) PyProof.Rows.boot_any)
  | refine ev_ex (ex_callB (id := "abs") (x := "abs") ?_ (by kernel_rfl) (Blt.abs (by assumption)) PyProof.Rows.boot_abs)
  | refine ev_ex (ex_callTy (T := "int") (x := "int") ?_ (by kernel_rfl) (Blt.int (by assumption)) PyProof.Rows.boot_int))
local macro_rules | `(tactic| walk_at "dwset") => `(tactic| first
  | refine sd_set (i := 0) ?_ rfl (of_decide_eq_true (by kernel_rfl)) (loc_of (by kernel_rfl)) (loc_of (by kernel_rfl)) | refine sd_set (i := 1) ?_ rfl (of_decide_eq_true (by kernel_rfl)) (loc_of (by kernel_rfl)) (loc_of (by kernel_rfl)) | refine sd_set (i := 2) ?_ rfl (of_decide_eq_true (by kernel_rfl)) (loc_of (by kernel_rfl)) (loc_of (by kernel_rfl)) | refine sd_set (i := 3) ?_ rfl (of_decide_eq_true (by kernel_rfl)) (loc_of (by kernel_rfl)) (loc_of (by kernel_rfl)) | refine sd_set (i := 4) ?_ rfl (of_decide_eq_true (by kernel_rfl)) (loc_of (by kernel_rfl)) (loc_of (by kernel_rfl)))
local macro_rules | `(tactic| walk_at "dwev") => `(tactic| first
  | (show EV _ (.Name _ _) _ _; walk_at "dwname")
  | (show EV _ (.Call _ _ _ _) _ _; walk_at "dwcall")
  | refine ev_int ?_ | refine ev_str ?_ | refine ev_ix ?_ | refine ev_tup ?_ | refine ev_ex (ex_cmp ?_) | refine ev_ex (ex_bin ?_)
  | refine ev_none ?_ | refine ev_bool ?_ | refine ev_and ?_ | refine ev_or ?_ | refine ev_one ?_ | refine ev_not ?_
  | refine ev_chain ?_ | refine ev_ex (ex_un ?_) | refine ev_ex (ex_ifExp ?_) | refine ev_ex (ex_lst ?_))
local macro_rules | `(tactic| walk_at "dw1") => `(tactic| first
  | (show SDs _ _ _ _; first | refine sds_cons ?_ | refine sds_nil ?_)
  | (show SD _ _ _ _; first | refine sd_ret ?_ | refine sd_if ?_ | walk_at "dwset")
  | (show EV _ _ _ _; walk_at "dwev")
  | (show EVs _ _ _ _; first | refine evs_nil ?_ | refine evs_cons ?_)
  | (show EX _ _ _ _; first | refine ex_ifExp ?_ | refine ex_lst ?_ | refine ex_ev ?_)
  | (show ET _ _ _ _; first | refine et_cmp ?_ | refine et_not ?_ | refine et_bo ?_ | refine et_val ?_)
  | (show EW _ _ _ _; first | refine ew_and ?_ | refine ew_or ?_ | refine ew_and1 ?_ | refine ew_or1 ?_)
  | (show ∃ d, IxD _ _ _ d ∧ _; refine ⟨_, ix_i (by first | rfl | assumption) (by first | exact atI0 | exact atI1 | exact atI2 | rfl | assumption), ?_⟩)
  | (show ∃ Qr, CallD _ _ _ Qr ∧ _; walk_at "dwcd")
  | (show ∃ Qr, BinD _ _ _ _ Qr ∧ _; walk_at "dwbin")
  | (show ∃ Qr, CmpD _ _ _ _ Qr ∧ _; walk_at "dwbin")
  | (show ∃ t, CmpD _ _ _ _ (· = .sh (.bool t)) ∧ _; walk_at "dwbin")
  | (show ∀ r, r = _ → _; intro r hr; subst hr) | refine fun (_ : ∀ (p : Addr) (o : OD), _ = Sl.own p o → _) => ?_
  | refine ⟨_, rfl, ?_⟩ | refine ⟨rfl, ?_⟩ | refine ⟨trivial, ?_⟩
  | refine ⟨by decide, ?_⟩)
local macro_rules | `(tactic| walk_at "dw") => `(tactic| repeat (walk_at "dw1"))
variable {G : Pg} {f : Addr} {fd : FuncData}
theorem atI0 {α : Type} {x : α} {xs : List α} : atI (x :: xs) 0 = some x := by
  have h : ixN (x :: xs).length 0 = some 0 := by simp [ixN]
  unfold atI; rw [h]; rfl
theorem atI1 {α : Type} {x y : α} {xs : List α} : atI (x :: y :: xs) 1 = some y := by
  have h : ixN (x :: y :: xs).length 1 = some 1 := by simp [ixN]; omega
  unfold atI; rw [h]; rfl
theorem atI2 {α : Type} {x y z : α} {xs : List α} : atI (x :: y :: z :: xs) 2 = some z := by
  have h : ixN (x :: y :: z :: xs).length 2 = some 2 := by simp [ixN]; omega
  unfold atI; rw [h]; rfl
theorem iteHT {t : Bool} {A B : Prop} (h : t = true) (a : A) : if t = true then A else B := by rw [h]; exact iteT a
theorem iteHF {t : Bool} {A B : Prop} (h : t = false) (b : B) : if t = true then A else B := by rw [h]; exact iteF b
def b1 (p : PD → Bool) : List PD → PD := fun ds => .bool (p (ds.getD 0 .none))
def b2 (p : PD → PD → Bool) : List PD → PD := fun ds => .bool (p (ds.getD 0 .none) (ds.getD 1 .none))
theorem retB {a b : Bool} (h : a = b) : (Sl.sh (.bool a)).pd? = some (.bool b) := by rw [h]; rfl
theorem tyI (d : PD) : isTy "int" d = (match d with | .int _ => true | .bool _ => true | _ => false) := by cases d <;> rfl
theorem tyB (d : PD) : isTy "bool" d = (match d with | .bool _ => true | _ => false) := by cases d <;> rfl
theorem tyS (d : PD) : isTy "str" d = (match d with | .str _ => true | _ => false) := by cases d <;> rfl
theorem tyD (d : PD) : isTy "dict" d = (match d with | .dict _ => true | _ => false) := by cases d <;> rfl
theorem tyLT (d : PD) : anyTy ["list", "tuple"] d = (match d with | .list _ => true | .tuple _ => true | _ => false) := by cases d <;> rfl
def isI : PD → Bool | .int _ => true | _ => false
theorem ok_is_integer (B : Blt G.mg) (F : Fun G.K "is_integer" "is_integer" s_is_integer f fd) : FnG G 1 f fd P_is_integer (SpD G.K G.Tb (PureN 1 (fun _ => True) (b1 isI))) := by
  refine fn_pure F sc_is_integer rfl fun W Z ds hl _ => ?_
  match ds, hl with
  | [d], _ =>
  walk_at "dw"
  refine iteD (fun h1 => ?_) fun h1 => ?_
  · walk_at "dw"
    refine retB ?_
    rw [tyI] at h1
    rw [tyB]
    cases d <;> first | rfl | cases h1
  · walk_at "dw"
    refine retB ?_
    rw [tyI] at h1
    cases d <;> first | rfl | cases h1
def isN : PD → Bool | .int i => decide (0 ≤ i) | _ => false
theorem ok_is_number (B : Blt G.mg) (h1 : Has G "is_integer" P_is_integer 1 (PureN 1 (fun _ => True) (b1 isI))) (F : Fun G.K "is_number" "is_number" s_is_number f fd) : FnG G 2 f fd P_is_number (SpD G.K G.Tb (PureN 1 (fun _ => True) (b1 isN))) := by
  refine fn_pure F sc_is_number rfl fun W Z ds hl _ => ?_
  match ds, hl with
  | [d], _ =>
  walk_at "dw"
  cases d with
  | int i =>
    walk_at "dw"
    rfl
  | _ =>
    refine iteF ?_
    walk_at "dw"
    rfl
def isNT (d m : PD) : Bool := match d, m with | .int i, .int j => decide (0 ≤ i) && decide (i ≤ j) | _, _ => false
theorem ok_is_number_to (B : Blt G.mg) (h1 : Has G "is_number" P_is_number 2 (PureN 1 (fun _ => True) (b1 isN))) (F : Fun G.K "is_number_to" "is_number_to" s_is_number_to f fd) : FnG G 3 f fd P_is_number_to (SpD G.K G.Tb (PureN 2 (fun ds => ∃ j, ds.getD 1 .none = .int j) (b2 isNT))) := by
  refine fn_pure F sc_is_number_to rfl fun W Z ds hl hC => ?_
  match ds, hl, hC with
  | [d, .int j], _, _ =>
  walk_at "dw"
  cases d with
  | int i =>
    show if decide (0 ≤ i) = true then _ else _
    refine iteD (fun h1 => ?_) fun h1 => ?_
    · walk_at "dw"
      refine retB ?_
      simp [isNT, of_decide_eq_true h1]
    · walk_at "dw"
      refine retB ?_
      simp [isNT, of_decide_eq_false h1]
  | _ =>
    refine iteF ?_
    walk_at "dw"
    rfl
def isL : PD → Bool | .list _ => true | .tuple _ => true | _ => false
theorem ok_is_listed (B : Blt G.mg) (F : Fun G.K "is_listed" "is_listed" s_is_listed f fd) : FnG G 1 f fd P_is_listed (SpD G.K G.Tb (PureN 1 (fun _ => True) (b1 isL))) := by
  refine fn_pure F sc_is_listed rfl fun W Z ds hl _ => ?_
  match ds, hl with
  | [d], _ =>
  walk_at "dw"
  refine retB ?_
  rw [tyLT]
  cases d <;> rfl
end K8

namespace K8
open PySem PySem.Spec PyProof.Rows L2 Dw
local macro_rules | `(tactic| walk_at "dwvis") => `(tactic| exact vis_of (by kernel_rfl))
local macro_rules | `(tactic| walk_at "dwbin") => `(tactic| first
  | refine ⟨_, od_eqS, ?_⟩ | refine ⟨_, od_neS, ?_⟩ | refine ⟨_, od_add, ?_⟩ | refine ⟨_, od_sub, ?_⟩ | refine ⟨_, od_lt, ?_⟩ | refine ⟨_, od_le, ?_⟩ | refine ⟨_, od_gt, ?_⟩ | refine ⟨_, od_ge, ?_⟩ | refine ⟨_, od_eqI, ?_⟩ | refine ⟨_, od_eqB, ?_⟩ | refine ⟨_, od_neB, ?_⟩
  | refine ⟨_, od_isN, ?_⟩ | refine ⟨_, od_notN, ?_⟩ | refine ⟨_, od_inSign, ?_⟩ | refine ⟨_, od_notInSign, ?_⟩)
local macro_rules | `(tactic| walk_at "dwcd") => `(tactic| first
  | refine ⟨_, cd_len (by assumption), ?_⟩ | refine ⟨_, cd_lenS (by assumption), ?_⟩ | refine ⟨_, cd_abs, ?_⟩ | refine ⟨_, cd_intI, ?_⟩ | refine ⟨_, cd_intB, ?_⟩ | refine ⟨_, cd_all, ?_⟩ | refine ⟨_, cd_any, ?_⟩ | refine ⟨_, cd_sum, ?_⟩)
local macro_rules | `(tactic| walk_at "dwname") => `(tactic| first
  | refine ev_name (i := 0) rfl ?_ rfl (by walk_at "dwvis") | refine ev_name (i := 1) rfl ?_ rfl (by walk_at "dwvis")
  | refine ev_name (i := 2) rfl ?_ rfl (by walk_at "dwvis") | refine ev_name (i := 3) rfl ?_ rfl (by walk_at "dwvis")
  | refine ev_name (i := 4) rfl ?_ rfl (by walk_at "dwvis") | refine ev_name (i := 5) rfl ?_ rfl (by walk_at "dwvis")
  | refine ev_globD (by assumption) ?_ (by kernel_rfl))
local macro_rules | `(tactic| walk_at "dwcall") => `(tactic| first
  | refine ev_callH (by assumption) (Nat.le_of_ble_eq_true rfl) ?_ (by kernel_rfl)
  | refine ev_ex (ex_callB (id := "len") (x := "len") ?_ (by kernel_rfl) (Blt.len (by assumption)) PySem.boot_len)
  | refine ev_isi2 (n1 := "list") (n2 := "tuple") (T1 := "list") (T2 := "tuple") ?_ (by decide) (by kernel_rfl) (Blt.isinstance (by assumption)) (by kernel_rfl) (Blt.list (by assumption)) PyProof.Rows.boot_list (by kernel_rfl) (Blt.tuple (by assumption)) PyProof.Rows.boot_tuple
  | refine ev_isi (n := "int") (T := "int") ?_ (by decide) (by kernel_rfl) (Blt.isinstance (by assumption)) (by kernel_rfl) (Blt.int (by assumption)) PyProof.Rows.boot_int
  | refine ev_isi (n := "bool") (T := "bool") ?_ (by decide) (by kernel_rfl) (Blt.isinstance (by assumption)) (by kernel_rfl) (Blt.bool (by assumption)) PyProof.Rows.boot_bool
  | refine ev_isi (n := "str") (T := "str") ?_ (by decide) (by kernel_rfl) (Blt.isinstance (by assumption)) (by kernel_rfl) (Blt.str (by assumption)) PyProof.Rows.boot_str
  | refine ev_isi (n := "dict") (T := "dict") ?_ (by decide) (by kernel_rfl) (Blt.isinstance (by assumption)) (by kernel_rfl) (Blt.dict (by assumption)) PyProof.Rows.boot_dict
  | refine ev_ex (ex_callB (id := "all") (x := "all") ?_ (by kernel_rfl) (Blt.all (by assumption)) PyProof.Rows.boot_all)
  | refine ev_ex (ex_callB (id := "any") (x := "any") ?_ (by kernel_rfl) (Blt.any (by assumption)) PyProof.Rows.boot_any)
  | refine ev_ex (ex_callB (id := "abs") (x := "abs") ?_ (by kernel_rfl) (Blt.abs (by assumption)) PyProof.Rows.boot_abs)
  | refine ev_ex (ex_callTy (T := "int") (x := "int") ?_ (by kernel_rfl) (Blt.int (by assumption)) PyProof.Rows.boot_int))
local macro_rules | `(tactic| walk_at "dwset") => `(tactic| first
  | refine sd_set (i := 0) ?_ rfl (of_decide_eq_true (by kernel_rfl)) (loc_of (by kernel_rfl)) (loc_of (by kernel_rfl)) | refine sd_set (i := 1) ?_ rfl (of_decide_eq_true (by kernel_rfl)) (loc_of (by kernel_rfl)) (loc_of (by kernel_rfl)) | refine sd_set (i := 2) ?_ rfl (of_decide_eq_true (by kernel_rfl)) (loc_of (by kernel_rfl)) (loc_of (by kernel_rfl)) | refine sd_set (i := 3) ?_ rfl (of_decide_eq_true (by kernel_rfl)) (loc_of (by kernel_rfl)) (loc_of (by kernel_rfl)) | refine sd_set (i := 4) ?_ rfl (of_decide_eq_true (by kernel_rfl)) (loc_of (by kernel_rfl)) (loc_of (by kernel_rfl)))
local macro_rules | `(tactic| walk_at "dwev") => `(tactic| first
  | (show EV _ (.Name _ _) _ _; walk_at "dwname")
  | (show EV _ (.Call _ _ _ _) _ _; walk_at "dwcall")
  | refine ev_int ?_ | refine ev_str ?_ | refine ev_ix ?_ | refine ev_tup ?_ | refine ev_ex (ex_cmp ?_) | refine ev_ex (ex_bin ?_)
  | refine ev_none ?_ | refine ev_bool ?_ | refine ev_and ?_ | refine ev_or ?_ | refine ev_one ?_ | refine ev_not ?_
  | refine ev_chain ?_ | refine ev_ex (ex_un ?_) | refine ev_ex (ex_ifExp ?_) | refine ev_ex (ex_lst ?_))
local macro_rules | `(tactic| walk_at "dw1") => `(tactic| first
  | (show SDs _ _ _ _; first | refine sds_cons ?_ | refine sds_nil ?_)
  | (show SD _ _ _ _; first | refine sd_ret ?_ | refine sd_if ?_ | walk_at "dwset")
  | (show EV _ _ _ _; walk_at "dwev")
  | (show EVs _ _ _ _; first | refine evs_nil ?_ | refine evs_cons ?_)
  | (show EX _ _ _ _; first | refine ex_ifExp ?_ | refine ex_lst ?_ | refine ex_ev ?_)
  | (show ET _ _ _ _; first | refine et_cmp ?_ | refine et_not ?_ | refine et_bo ?_ | refine et_val ?_)
  | (show EW _ _ _ _; first | refine ew_and ?_ | refine ew_or ?_ | refine ew_and1 ?_ | refine ew_or1 ?_)
  | (show ∃ d, IxD _ _ _ d ∧ _; refine ⟨_, ix_i (by first | rfl | assumption) (by first | exact atI0 | exact atI1 | exact atI2 | rfl | assumption), ?_⟩)
  | (show ∃ Qr, CallD _ _ _ Qr ∧ _; walk_at "dwcd")
  | (show ∃ Qr, BinD _ _ _ _ Qr ∧ _; walk_at "dwbin")
  | (show ∃ Qr, CmpD _ _ _ _ Qr ∧ _; walk_at "dwbin")
  | (show ∃ t, CmpD _ _ _ _ (· = .sh (.bool t)) ∧ _; walk_at "dwbin")
  | (show ∀ r, r = _ → _; intro r hr; subst hr) | refine fun (_ : ∀ (p : Addr) (o : OD), _ = Sl.own p o → _) => ?_
  | refine ⟨_, rfl, ?_⟩ | refine ⟨rfl, ?_⟩ | refine ⟨trivial, ?_⟩
  | refine ⟨by decide, ?_⟩)
local macro_rules | `(tactic| walk_at "dw") => `(tactic| repeat (walk_at "dw1"))
variable {G : Pg} {f : Addr} {fd : FuncData}
theorem items_isL {d : PD} {xs : List PD} (h : items d = some xs) : isL d = true := by cases d <;> first | rfl | cases h
theorem items_noL {d : PD} (h : items d = none) : isL d = false := by cases d <;> first | rfl | cases h
def wordL : List PD → Str | .str z :: _ => z | _ => ""
def wordP (d : PD) : Str := match items d with | some xs => wordL xs | none => ""
theorem retS {a b : Str} (h : a = b) : (Sl.sh (.str a)).pd? = some (.str b) := by rw [h]; rfl
theorem ok_word_of (B : Blt G.mg) (h1 : Has G "is_listed" P_is_listed 1 (PureN 1 (fun _ => True) (b1 isL))) (F : Fun G.K "word_of" "word_of" s_word_of f fd) : FnG G 2 f fd P_word_of (SpD G.K G.Tb (PureN 1 (fun _ => True) fun ds => .str (wordP (ds.getD 0 .none)))) := by
  refine fn_pure F sc_word_of rfl fun W Z ds hl _ => ?_
  match ds, hl with
  | [d], _ =>
  walk_at "dw"
  cases hi : items d with
  | none =>
    have h := items_noL hi
    refine iteHF h ?_
    walk_at "dw"
    refine retS ?_
    show _ = wordP d
    unfold wordP
    rw [hi]
  | some xs =>
    have h := items_isL hi
    refine iteHT h ?_
    cases xs with
    | nil =>
      walk_at "dw"
      refine retS ?_
      show _ = wordP d
      unfold wordP
      rw [hi]
      rfl
    | cons x xs =>
      walk_at "dw"
      refine iteHT (show decide ((0 : Int) < (x :: xs).length) = true from decide_eq_true (by simp)) ?_
      walk_at "dw"
      have hw : wordP d = wordL (x :: xs) := by unfold wordP; rw [hi]
      cases x with
      | str z =>
        refine iteHT rfl ?_
        walk_at "dw"
        refine retS ?_
        exact hw.symm
      | _ =>
        refine iteHF rfl ?_
        walk_at "dw"
        refine retS ?_
        exact hw.symm
/-- all signs of a text stand in another -/
def strOf (d : PD) (s : Str) : Bool := match d with | .str z => z.cps.toList.all fun c => decide (c ∈ s.cps.toList) | _ => false
def strAt (d : PD) : Str := match d with | .str s => s | _ => ""
def CStrOf : List PD → Prop := fun ds => (∀ z, ds.getD 0 .none = .str z → z.length ≤ 100000) ∧ ∃ s, ds.getD 1 .none = .str s
theorem ok_is_string_of (B : Blt G.mg) (F : Fun G.K "is_string_of" "is_string_of" s_is_string_of f fd) : FnG G 1 f fd P_is_string_of (SpD G.K G.Tb (PureN 2 CStrOf fun ds => .bool (strOf (ds.getD 0 .none) (strAt (ds.getD 1 .none))))) := by
  refine fn_pure F sc_is_string_of rfl fun W Z ds hl hC => ?_
  match ds, hl, hC with
  | [d, .str s], _, hC =>
  walk_at "dw"
  cases d with
  | str z =>
    have hz := hC.1 z rfl
    refine iteHF rfl ?_
    walk_at "dw"
    refine ev_ex (ex_lc [("sign", 2)] (fun i acc e => acc = (z.cps.toList.take i).map (fun c => .bool (decide (c ∈ s.cps.toList))) ∧ e = [.sh (.str z), .sh (.str s), .no]) (it_str ?_) (of_decide_eq_true (by kernel_rfl)) (by kernel_rfl))
    walk_at "dw"
    have hl : (signsOf z).length = z.length := by unfold signsOf; rw [List.length_map]; rfl
    refine ⟨by rw [hl]; exact hz, ⟨rfl, rfl⟩, fun i acc e d hacc hI hd => ?_, fun acc e hacc hI p hp => ⟨_, rfl, ?_⟩⟩
    · obtain ⟨rfl, rfl⟩ := hI
      unfold signsOf at hd
      rw [List.getElem?_map] at hd
      cases hc : z.cps.toList[i]? with
      | none => rw [hc] at hd; cases hd
      | some c =>
        rw [hc] at hd
        cases hd
        refine tg_name (i := 2) ?_ (by decide) rfl (of_decide_eq_true (by kernel_rfl)) (loc_of (by kernel_rfl)) (loc_of (by kernel_rfl))
        refine ets_nil (iteT ?_)
        walk_at "dw"
        refine ⟨?_, rfl⟩
        rw [List.take_succ, hc, List.map_append]
        rfl
    · obtain ⟨rfl, rfl⟩ := hI
      walk_at "dw"
      have e : (OD.lst (List.map (fun c => PyData.bool (decide (c ∈ s.cps.toList))) (List.take (signsOf z).length z.cps.toList))).pd = .list ((z.cps.toList.map fun c => decide (c ∈ s.cps.toList)).map .bool) := by
        rw [hl, List.take_of_length_le (by show z.cps.toList.length ≤ z.cps.size; simp), List.map_map]
        rfl
      rw [e]
      walk_at "dw"
      refine retB ?_
      show _ = z.cps.toList.all _
      rw [List.all_map]
      rfl
  | _ =>
    refine iteHT rfl ?_
    walk_at "dw"
    rfl
end K8

namespace K8
open PySem PySem.Spec PyProof.Rows L2 Dw
local macro_rules | `(tactic| walk_at "dwvis") => `(tactic| exact vis_of (by kernel_rfl))
local macro_rules | `(tactic| walk_at "dwbin") => `(tactic| first
  | refine ⟨_, od_eqS, ?_⟩ | refine ⟨_, od_neS, ?_⟩ | refine ⟨_, od_add, ?_⟩ | refine ⟨_, od_sub, ?_⟩ | refine ⟨_, od_lt, ?_⟩ | refine ⟨_, od_le, ?_⟩ | refine ⟨_, od_gt, ?_⟩ | refine ⟨_, od_ge, ?_⟩ | refine ⟨_, od_eqI, ?_⟩ | refine ⟨_, od_eqB, ?_⟩ | refine ⟨_, od_neB, ?_⟩
  | refine ⟨_, od_isN, ?_⟩ | refine ⟨_, od_addS (by assumption), ?_⟩ | refine ⟨_, od_inT, ?_⟩ | refine ⟨_, od_notN, ?_⟩ | refine ⟨_, od_inSign, ?_⟩ | refine ⟨_, od_notInSign, ?_⟩)
local macro_rules | `(tactic| walk_at "dwcd") => `(tactic| first
  | refine ⟨_, cd_len (by assumption), ?_⟩ | refine ⟨_, cd_lenS (by assumption), ?_⟩ | refine ⟨_, cd_abs, ?_⟩ | refine ⟨_, cd_intI, ?_⟩ | refine ⟨_, cd_intB, ?_⟩ | refine ⟨_, cd_all, ?_⟩ | refine ⟨_, cd_any, ?_⟩ | refine ⟨_, cd_sum, ?_⟩)
local macro_rules | `(tactic| walk_at "dwname") => `(tactic| first
  | refine ev_name (i := 0) rfl ?_ rfl (by walk_at "dwvis") | refine ev_name (i := 1) rfl ?_ rfl (by walk_at "dwvis")
  | refine ev_name (i := 2) rfl ?_ rfl (by walk_at "dwvis") | refine ev_name (i := 3) rfl ?_ rfl (by walk_at "dwvis")
  | refine ev_name (i := 4) rfl ?_ rfl (by walk_at "dwvis") | refine ev_name (i := 5) rfl ?_ rfl (by walk_at "dwvis")
  | refine ev_globD (by assumption) ?_ (by kernel_rfl))
local macro_rules | `(tactic| walk_at "dwcall") => `(tactic| first
  | refine ev_callH (by assumption) (Nat.le_of_ble_eq_true rfl) ?_ (by kernel_rfl)
  | refine ev_ex (ex_callB (id := "len") (x := "len") ?_ (by kernel_rfl) (Blt.len (by assumption)) PySem.boot_len)
  | refine ev_isi2 (n1 := "list") (n2 := "tuple") (T1 := "list") (T2 := "tuple") ?_ (by decide) (by kernel_rfl) (Blt.isinstance (by assumption)) (by kernel_rfl) (Blt.list (by assumption)) PyProof.Rows.boot_list (by kernel_rfl) (Blt.tuple (by assumption)) PyProof.Rows.boot_tuple
  | refine ev_isi (n := "int") (T := "int") ?_ (by decide) (by kernel_rfl) (Blt.isinstance (by assumption)) (by kernel_rfl) (Blt.int (by assumption)) PyProof.Rows.boot_int
  | refine ev_isi (n := "bool") (T := "bool") ?_ (by decide) (by kernel_rfl) (Blt.isinstance (by assumption)) (by kernel_rfl) (Blt.bool (by assumption)) PyProof.Rows.boot_bool
  | refine ev_isi (n := "str") (T := "str") ?_ (by decide) (by kernel_rfl) (Blt.isinstance (by assumption)) (by kernel_rfl) (Blt.str (by assumption)) PyProof.Rows.boot_str
  | refine ev_isi (n := "dict") (T := "dict") ?_ (by decide) (by kernel_rfl) (Blt.isinstance (by assumption)) (by kernel_rfl) (Blt.dict (by assumption)) PyProof.Rows.boot_dict
  | refine ev_ex (ex_callB (id := "all") (x := "all") ?_ (by kernel_rfl) (Blt.all (by assumption)) PyProof.Rows.boot_all)
  | refine ev_ex (ex_callB (id := "any") (x := "any") ?_ (by kernel_rfl) (Blt.any (by assumption)) PyProof.Rows.boot_any)
  | refine ev_ex (ex_callB (id := "abs") (x := "abs") ?_ (by kernel_rfl) (Blt.abs (by assumption)) PyProof.Rows.boot_abs)
  | refine ev_ex (ex_callTy (T := "int") (x := "int") ?_ (by kernel_rfl) (Blt.int (by assumption)) PyProof.Rows.boot_int))
local macro_rules | `(tactic| walk_at "dwset") => `(tactic| first
  | refine sd_set (i := 0) ?_ rfl (of_decide_eq_true (by kernel_rfl)) (loc_of (by kernel_rfl)) (loc_of (by kernel_rfl)) | refine sd_set (i := 1) ?_ rfl (of_decide_eq_true (by kernel_rfl)) (loc_of (by kernel_rfl)) (loc_of (by kernel_rfl)) | refine sd_set (i := 2) ?_ rfl (of_decide_eq_true (by kernel_rfl)) (loc_of (by kernel_rfl)) (loc_of (by kernel_rfl)) | refine sd_set (i := 3) ?_ rfl (of_decide_eq_true (by kernel_rfl)) (loc_of (by kernel_rfl)) (loc_of (by kernel_rfl)) | refine sd_set (i := 4) ?_ rfl (of_decide_eq_true (by kernel_rfl)) (loc_of (by kernel_rfl)) (loc_of (by kernel_rfl)))
local macro_rules | `(tactic| walk_at "dwev") => `(tactic| first
  | (show EV _ (.Name _ _) _ _; walk_at "dwname")
  | (show EV _ (.Call _ _ _ _) _ _; walk_at "dwcall")
  | refine ev_int ?_ | refine ev_str ?_ | refine ev_ix ?_ | refine ev_tup ?_ | refine ev_ex (ex_cmp ?_) | refine ev_ex (ex_bin ?_)
  | refine ev_none ?_ | refine ev_bool ?_ | refine ev_and ?_ | refine ev_or ?_ | refine ev_one ?_ | refine ev_not ?_
  | refine ev_chain ?_ | refine ev_ex (ex_un ?_) | refine ev_ex (ex_ifExp ?_) | refine ev_ex (ex_lst ?_))
local macro_rules | `(tactic| walk_at "dw1") => `(tactic| first
  | (show SDs _ _ _ _; first | refine sds_cons ?_ | refine sds_nil ?_)
  | (show SD _ _ _ _; first | refine sd_ret ?_ | refine sd_if ?_ | walk_at "dwset")
  | (show EV _ _ _ _; walk_at "dwev")
  | (show EVs _ _ _ _; first | refine evs_nil ?_ | refine evs_cons ?_)
  | (show EX _ _ _ _; first | refine ex_ifExp ?_ | refine ex_lst ?_ | refine ex_ev ?_)
  | (show ET _ _ _ _; first | refine et_cmp ?_ | refine et_not ?_ | refine et_bo ?_ | refine et_val ?_)
  | (show EW _ _ _ _; first | refine ew_and ?_ | refine ew_or ?_ | refine ew_and1 ?_ | refine ew_or1 ?_)
  | (show ∃ d, IxD _ _ _ d ∧ _; first | refine ⟨_, ix_i (by first | rfl | assumption) (by first | exact atI0 | exact atI1 | exact atI2 | rfl | assumption), ?_⟩ | refine ⟨_, ix_s (by assumption) (by first | assumption | rfl), ?_⟩)
  | (show ∃ Qr, CallD _ _ _ Qr ∧ _; walk_at "dwcd")
  | (show ∃ Qr, BinD _ _ _ _ Qr ∧ _; walk_at "dwbin")
  | (show ∃ Qr, CmpD _ _ _ _ Qr ∧ _; walk_at "dwbin")
  | (show ∃ t, CmpD _ _ _ _ (· = .sh (.bool t)) ∧ _; walk_at "dwbin")
  | (show ∀ r, r = _ → _; intro r hr; subst hr) | refine fun (_ : ∀ (p : Addr) (o : OD), _ = Sl.own p o → _) => ?_
  | refine ⟨_, rfl, ?_⟩ | refine ⟨rfl, ?_⟩ | refine ⟨trivial, ?_⟩
  | refine ⟨by decide, ?_⟩)
local macro_rules | `(tactic| walk_at "dw") => `(tactic| repeat (walk_at "dw1"))
variable {G : Pg} {f : Addr} {fd : FuncData} {SG LT FG : Str}
abbrev TStrOf : TD := PureN 2 CStrOf fun ds => .bool (strOf (ds.getD 0 .none) (strAt (ds.getD 1 .none)))
def CText : List PD → Prop := fun ds => ∀ z, ds.getD 0 .none = .str z → z.length ≤ 100000
def textP (SG : Str) (d : PD) : Bool := strOf d (SG ++ ("\n" : Str))
theorem ok_is_text (B : Blt G.mg) (hS : GlobD G.mg G.K "SIGNS" (.str SG)) (hl : SG.length ≤ 1000) (h1 : Has G "is_string_of" P_is_string_of 1 TStrOf) (F : Fun G.K "is_text" "is_text" s_is_text f fd) : FnG G 2 f fd P_is_text (SpD G.K G.Tb (PureN 1 CText (b1 (textP SG)))) := by
  refine fn_pure F sc_is_text rfl fun W Z ds hl' hC => ?_
  match ds, hl', hC with
  | [d], _, hC =>
  have hs : SG.length + ("\n" : Str).length ≤ 100000 := by
    rw [show ("\n" : Str).length = 1 by decide +kernel]
    omega
  walk_at "dw"
  refine ⟨⟨hC, _, rfl⟩, ?_⟩
  walk_at "dw"
  rfl
def nameZ (LT FG : Str) (z : Str) : Bool := strOf (.str z) (LT ++ FG) && (decide (1 ≤ z.length) && decide (z.length ≤ 8) && match z.cps.toList with | c :: _ => decide (c ∈ LT.cps.toList) | [] => false)
def nameP (LT FG : Str) (d : PD) : Bool := match d with | .str z => nameZ LT FG z | _ => false
theorem ok_is_name (B : Blt G.mg) (hL : GlobD G.mg G.K "LETTERS" (.str LT)) (hF : GlobD G.mg G.K "FIGURES" (.str FG)) (hs : LT.length + FG.length ≤ 100000) (h1 : Has G "is_string_of" P_is_string_of 1 TStrOf) (F : Fun G.K "is_name" "is_name" s_is_name f fd) : FnG G 2 f fd P_is_name (SpD G.K G.Tb (PureN 1 CText (b1 (nameP LT FG)))) := by
  refine fn_pure F sc_is_name rfl fun W Z ds hl' hC => ?_
  match ds, hl', hC with
  | [d], _, hC =>
  walk_at "dw"
  refine ⟨⟨hC, _, rfl⟩, ?_⟩
  walk_at "dw"
  cases d with
  | str z =>
    have hz := hC z rfl
    show if (!strOf (.str z) (LT ++ FG)) = true then _ else _
    refine iteD (fun hn => ?_) fun hn => ?_
    · walk_at "dw"
      refine retB ?_
      show _ = nameZ LT FG z
      unfold nameZ
      rw [Bool.not_eq_true'] at hn
      rw [hn]
      rfl
    · rw [Bool.not_eq_false'] at hn
      walk_at "dw"
      have e : nameZ LT FG z = (decide (1 ≤ z.length) && decide (z.length ≤ 8) && match z.cps.toList with | c :: _ => decide (c ∈ LT.cps.toList) | [] => false) := by
        unfold nameZ
        rw [hn, Bool.true_and]
      refine iteD (fun g1 => ?_) fun g1 => ?_
      · have g1 : 1 ≤ z.length := by
          have := of_decide_eq_true g1
          omega
        walk_at "dw"
        refine iteD (fun g2 => ?_) fun g2 => ?_
        · have g2 : z.length ≤ 8 := by
            have := of_decide_eq_true g2
            omega
          cases hc : z.cps.toList with
          | nil =>
            exfalso
            have : z.length = z.cps.toList.length := by simp; rfl
            rw [hc] at this
            simp at this
            omega
          | cons x xs =>
            have h0 : atI z.cps.toList 0 = some x := by rw [hc]; exact atI0
            walk_at "dw"
            refine retB ?_
            show _ = nameZ LT FG z
            rw [e, hc, decide_eq_true g1, decide_eq_true g2]
            rfl
        · have g2 : ¬ z.length ≤ 8 := by
            have := of_decide_eq_false g2
            omega
          walk_at "dw"
          refine retB ?_
          show _ = nameZ LT FG z
          rw [e, decide_eq_false g2, Bool.and_false]
          rfl
      · have g1 : ¬ 1 ≤ z.length := by
          have := of_decide_eq_false g1
          omega
        walk_at "dw"
        refine iteHF rfl ?_
        walk_at "dw"
        refine retB ?_
        show _ = nameZ LT FG z
        rw [e, decide_eq_false g1]
        rfl
  | _ =>
    walk_at "dw"
    rfl
end K8

namespace K8
open PySem PySem.Spec PyProof.Rows L2 Dw
local macro_rules | `(tactic| walk_at "dwvis") => `(tactic| exact vis_of (by kernel_rfl))
local macro_rules | `(tactic| walk_at "dwbin") => `(tactic| first
  | refine ⟨_, od_eqS, ?_⟩ | refine ⟨_, od_neS, ?_⟩ | refine ⟨_, od_add, ?_⟩ | refine ⟨_, od_sub, ?_⟩ | refine ⟨_, od_lt, ?_⟩ | refine ⟨_, od_le, ?_⟩ | refine ⟨_, od_gt, ?_⟩ | refine ⟨_, od_ge, ?_⟩ | refine ⟨_, od_eqI, ?_⟩ | refine ⟨_, od_eqB, ?_⟩ | refine ⟨_, od_neB, ?_⟩
  | refine ⟨_, od_isN, ?_⟩ | refine ⟨_, od_addS (by assumption), ?_⟩ | refine ⟨_, od_inT, ?_⟩ | refine ⟨_, od_notN, ?_⟩ | refine ⟨_, od_inSign, ?_⟩ | refine ⟨_, od_notInSign, ?_⟩)
local macro_rules | `(tactic| walk_at "dwcd") => `(tactic| first
  | refine ⟨_, cd_len (by assumption), ?_⟩ | refine ⟨_, cd_lenS (by assumption), ?_⟩ | refine ⟨_, cd_abs, ?_⟩ | refine ⟨_, cd_intI, ?_⟩ | refine ⟨_, cd_intB, ?_⟩ | refine ⟨_, cd_all, ?_⟩ | refine ⟨_, cd_any, ?_⟩ | refine ⟨_, cd_sum, ?_⟩)
local macro_rules | `(tactic| walk_at "dwname") => `(tactic| first
  | refine ev_name (i := 0) rfl ?_ rfl (by walk_at "dwvis") | refine ev_name (i := 1) rfl ?_ rfl (by walk_at "dwvis")
  | refine ev_name (i := 2) rfl ?_ rfl (by walk_at "dwvis") | refine ev_name (i := 3) rfl ?_ rfl (by walk_at "dwvis")
  | refine ev_name (i := 4) rfl ?_ rfl (by walk_at "dwvis") | refine ev_name (i := 5) rfl ?_ rfl (by walk_at "dwvis")
  | refine ev_globD (by assumption) ?_ (by kernel_rfl))
local macro_rules | `(tactic| walk_at "dwcall") => `(tactic| first
  | refine ev_callH (by assumption) (Nat.le_of_ble_eq_true rfl) ?_ (by kernel_rfl)
  | refine ev_ex (ex_callB (id := "len") (x := "len") ?_ (by kernel_rfl) (Blt.len (by assumption)) PySem.boot_len)
  | refine ev_isi2 (n1 := "list") (n2 := "tuple") (T1 := "list") (T2 := "tuple") ?_ (by decide) (by kernel_rfl) (Blt.isinstance (by assumption)) (by kernel_rfl) (Blt.list (by assumption)) PyProof.Rows.boot_list (by kernel_rfl) (Blt.tuple (by assumption)) PyProof.Rows.boot_tuple
  | refine ev_isi (n := "int") (T := "int") ?_ (by decide) (by kernel_rfl) (Blt.isinstance (by assumption)) (by kernel_rfl) (Blt.int (by assumption)) PyProof.Rows.boot_int
  | refine ev_isi (n := "bool") (T := "bool") ?_ (by decide) (by kernel_rfl) (Blt.isinstance (by assumption)) (by kernel_rfl) (Blt.bool (by assumption)) PyProof.Rows.boot_bool
  | refine ev_isi (n := "str") (T := "str") ?_ (by decide) (by kernel_rfl) (Blt.isinstance (by assumption)) (by kernel_rfl) (Blt.str (by assumption)) PyProof.Rows.boot_str
  | refine ev_isi (n := "dict") (T := "dict") ?_ (by decide) (by kernel_rfl) (Blt.isinstance (by assumption)) (by kernel_rfl) (Blt.dict (by assumption)) PyProof.Rows.boot_dict
  | refine ev_ex (ex_callB (id := "all") (x := "all") ?_ (by kernel_rfl) (Blt.all (by assumption)) PyProof.Rows.boot_all)
  | refine ev_ex (ex_callB (id := "any") (x := "any") ?_ (by kernel_rfl) (Blt.any (by assumption)) PyProof.Rows.boot_any)
  | refine ev_ex (ex_callB (id := "abs") (x := "abs") ?_ (by kernel_rfl) (Blt.abs (by assumption)) PyProof.Rows.boot_abs)
  | refine ev_ex (ex_callTy (T := "int") (x := "int") ?_ (by kernel_rfl) (Blt.int (by assumption)) PyProof.Rows.boot_int))
local macro_rules | `(tactic| walk_at "dwset") => `(tactic| first
  | refine sd_set (i := 0) ?_ rfl (of_decide_eq_true (by kernel_rfl)) (loc_of (by kernel_rfl)) (loc_of (by kernel_rfl)) | refine sd_set (i := 1) ?_ rfl (of_decide_eq_true (by kernel_rfl)) (loc_of (by kernel_rfl)) (loc_of (by kernel_rfl)) | refine sd_set (i := 2) ?_ rfl (of_decide_eq_true (by kernel_rfl)) (loc_of (by kernel_rfl)) (loc_of (by kernel_rfl)) | refine sd_set (i := 3) ?_ rfl (of_decide_eq_true (by kernel_rfl)) (loc_of (by kernel_rfl)) (loc_of (by kernel_rfl)) | refine sd_set (i := 4) ?_ rfl (of_decide_eq_true (by kernel_rfl)) (loc_of (by kernel_rfl)) (loc_of (by kernel_rfl)))
local macro_rules | `(tactic| walk_at "dwev") => `(tactic| first
  | (show EV _ (.Name _ _) _ _; walk_at "dwname")
  | (show EV _ (.Call _ _ _ _) _ _; walk_at "dwcall")
  | refine ev_int ?_ | refine ev_str ?_ | refine ev_ix ?_ | refine ev_tup ?_ | refine ev_ex (ex_cmp ?_) | refine ev_ex (ex_bin ?_)
  | refine ev_none ?_ | refine ev_bool ?_ | refine ev_and ?_ | refine ev_or ?_ | refine ev_one ?_ | refine ev_not ?_
  | refine ev_chain ?_ | refine ev_ex (ex_un ?_) | refine ev_ex (ex_ifExp ?_) | refine ev_ex (ex_lst ?_))
local macro_rules | `(tactic| walk_at "dw1") => `(tactic| first
  | (show SDs _ _ _ _; first | refine sds_cons ?_ | refine sds_nil ?_)
  | (show SD _ _ _ _; first | refine sd_ret ?_ | refine sd_if ?_ | walk_at "dwset")
  | (show EV _ _ _ _; walk_at "dwev")
  | (show EVs _ _ _ _; first | refine evs_nil ?_ | refine evs_cons ?_)
  | (show EX _ _ _ _; first | refine ex_ifExp ?_ | refine ex_lst ?_ | refine ex_ev ?_)
  | (show ET _ _ _ _; first | refine et_cmp ?_ | refine et_not ?_ | refine et_bo ?_ | refine et_val ?_)
  | (show EW _ _ _ _; first | refine ew_and ?_ | refine ew_or ?_ | refine ew_and1 ?_ | refine ew_or1 ?_)
  | (show ∃ d, IxD _ _ _ d ∧ _; first | refine ⟨_, ix_i (by first | rfl | assumption) (by first | exact atI0 | exact atI1 | exact atI2 | rfl | assumption), ?_⟩ | refine ⟨_, ix_s (by assumption) (by first | assumption | rfl), ?_⟩)
  | (show ∃ Qr, CallD _ _ _ Qr ∧ _; walk_at "dwcd")
  | (show ∃ Qr, BinD _ _ _ _ Qr ∧ _; walk_at "dwbin")
  | (show ∃ Qr, CmpD _ _ _ _ Qr ∧ _; walk_at "dwbin")
  | (show ∃ t, CmpD _ _ _ _ (· = .sh (.bool t)) ∧ _; walk_at "dwbin")
  | (show ∀ r, r = _ → _; intro r hr; subst hr) | refine fun (_ : ∀ (p : Addr) (o : OD), _ = Sl.own p o → _) => ?_
  | refine ⟨_, rfl, ?_⟩ | refine ⟨rfl, ?_⟩ | refine ⟨trivial, ?_⟩
  | refine ⟨Nat.le_of_ble_eq_true rfl, ?_⟩ | refine fun (_ : Addr) (_ : _ ∉ owns _) => ?_ | refine ⟨by decide, ?_⟩
  | refine iteHT rfl ?_ | refine iteHF rfl ?_)
local macro_rules | `(tactic| walk_at "dw") => `(tactic| repeat (walk_at "dw1"))
variable {G : Pg} {f : Addr} {fd : FuncData} {SG LT FG : Str} {GR : Int} {TW : List Str}
/-- the kinds of what stands in a sum -/
def kindsL (LT FG : Str) (GR : Int) (TW : List Str) : List PD → Option (List Str)
  | .str w :: r => if w = "number" then (match r with | [n] => if isNT n (.int GR) then some ["leaf", "leaf"] else none | _ => none) else
      if w = "name" then (match r with | [n] => if nameP LT FG n then some ["leaf", "leaf"] else none | _ => none) else
      if w = "less" then (match r with | [_] => some ["leaf", "sum"] | _ => none) else
      if inStrs w TW = true then (match r with | [_, _] => some ["leaf", "sum", "sum"] | _ => none) else none
  | _ => none
section
variable {LT FG : Str} {GR : Int} {TW : List Str} {r : List PD} {w : Str}
theorem kl_any : kindsL LT FG GR TW (.str w :: r) = (if w = "number" then (match r with | [n] => if isNT n (.int GR) then some ["leaf", "leaf"] else none | _ => none) else if w = "name" then (match r with | [n] => if nameP LT FG n then some ["leaf", "leaf"] else none | _ => none) else if w = "less" then (match r with | [_] => some ["leaf", "sum"] | _ => none) else if inStrs w TW = true then (match r with | [_, _] => some ["leaf", "sum", "sum"] | _ => none) else none : Option (List Str)) := rfl
theorem kl_num : kindsL LT FG GR TW (.str "number" :: r) = match r with | [n] => if isNT n (.int GR) then some ["leaf", "leaf"] else none | _ => none := by
  rw [kl_any, if_pos rfl]
theorem kl_name : kindsL LT FG GR TW (.str "name" :: r) = match r with | [n] => if nameP LT FG n then some ["leaf", "leaf"] else none | _ => none := by
  rw [kl_any, if_neg (by decide +kernel), if_pos rfl]
theorem kl_less : kindsL LT FG GR TW (.str "less" :: r) = match r with | [_] => some ["leaf", "sum"] | _ => none := by
  rw [kl_any, if_neg (by decide +kernel), if_neg (by decide +kernel), if_pos rfl]
theorem kl_two (h1 : w ≠ "number") (h2 : w ≠ "name") (h3 : w ≠ "less") : kindsL LT FG GR TW (.str w :: r) = (if inStrs w TW = true then (match r with | [_, _] => some ["leaf", "sum", "sum"] | _ => none) else none : Option (List Str)) := by
  rw [kl_any, if_neg h1, if_neg h2, if_neg h3]
end
def formPD : Option (List Str) → PD | some ks => .tuple [.bool false, .list (ks.map .str)] | none => .none
def sumForm (LT FG : Str) (GR : Int) (TW : List Str) (d : PD) : PD := formPD ((items d).bind (kindsL LT FG GR TW))
theorem word_some {d : PD} (h : wordP d ≠ "") : ∃ r, items d = some (.str (wordP d) :: r) := by
  unfold wordP at h ⊢
  cases hi : items d with
  | none => rw [hi] at h; exact absurd rfl h
  | some xs =>
    rw [hi] at h
    cases xs with
    | nil => exact absurd rfl h
    | cons x xs =>
      cases x with
      | str z => exact ⟨xs, rfl⟩
      | _ => exact absurd rfl h
theorem sf_of {LT FG : Str} {GR : Int} {TW : List Str} {d : PD} {xs : List PD} (h : items d = some xs) : sumForm LT FG GR TW d = formPD (kindsL LT FG GR TW xs) := by
  unfold sumForm
  rw [h]
  rfl
def CSum : List PD → Prop := fun ds => ∀ xs, items (ds.getD 0 .none) = some xs → ∀ x ∈ xs, ∀ z, x = .str z → z.length ≤ 100000
theorem ok_sum_form (B : Blt G.mg) (hG : GlobD G.mg G.K "GREATEST" (.int GR)) (hT : GlobD G.mg G.K "TWO_SUMS" (.tuple (TW.map .str))) (hE : inStrs "" TW = false)
    (h1 : Has G "word_of" P_word_of 2 (PureN 1 (fun _ => True) fun ds => .str (wordP (ds.getD 0 .none)))) (h2 : Has G "is_number_to" P_is_number_to 3 (PureN 2 (fun ds => ∃ j, ds.getD 1 .none = .int j) (b2 isNT))) (h3 : Has G "is_name" P_is_name 2 (PureN 1 CText (b1 (nameP LT FG))))
    (F : Fun G.K "sum_form" "sum_form" s_sum_form f fd) : FnG G 4 f fd P_sum_form (SpD G.K G.Tb (PureN 1 CSum fun ds => sumForm LT FG GR TW (ds.getD 0 .none))) := by
  refine fn_pure F sc_sum_form rfl fun W Z ds hl hC => ?_
  match ds, hl, hC with
  | [d], _, hC =>
  walk_at "dw"
  show if decide (wordP d = "number") = true then _ else _
  refine iteD (fun g => ?_) fun g1 => ?_
  · have g := of_decide_eq_true g
    obtain ⟨r, hi⟩ := word_some (d := d) (by rw [g]; decide +kernel)
    rw [g] at hi
    have e := sf_of (LT := LT) (FG := FG) (GR := GR) (TW := TW) hi
    rw [kl_num] at e
    walk_at "dw"
    match r, hi, e with
    | [], hi, e =>
      walk_at "dw"
      exact congrArg some e.symm
    | [n], hi, e =>
      walk_at "dw"
      refine ⟨⟨GR, rfl⟩, ?_⟩
      walk_at "dw"
      show if isNT n (.int GR) = true then _ else _
      refine iteD (fun q => ?_) fun q => ?_
      · walk_at "dw"
        refine congrArg some (e.trans ?_).symm
        show formPD (if isNT n (.int GR) = true then _ else _) = _
        rw [if_pos q]
        rfl
      · walk_at "dw"
        refine congrArg some (e.trans ?_).symm
        show formPD (if isNT n (.int GR) = true then _ else _) = _
        rw [if_neg (by rw [q]; decide)]
        rfl
    | n :: m :: r, hi, e =>
      refine iteHF (decide_eq_false (by simp; omega)) ?_
      walk_at "dw"
      exact congrArg some e.symm
  have g1 := of_decide_eq_false g1
  walk_at "dw"
  show if decide (wordP d = "name") = true then _ else _
  refine iteD (fun g => ?_) fun g2 => ?_
  · have g := of_decide_eq_true g
    obtain ⟨r, hi⟩ := word_some (d := d) (by rw [g]; decide +kernel)
    rw [g] at hi
    have e := sf_of (LT := LT) (FG := FG) (GR := GR) (TW := TW) hi
    rw [kl_name] at e
    walk_at "dw"
    match r, hi, e with
    | [], hi, e =>
      walk_at "dw"
      exact congrArg some e.symm
    | [n], hi, e =>
      walk_at "dw"
      refine ⟨fun z hz => hC _ hi n (List.mem_cons_of_mem _ List.mem_cons_self) z hz, ?_⟩
      walk_at "dw"
      show if nameP LT FG n = true then _ else _
      refine iteD (fun q => ?_) fun q => ?_
      · walk_at "dw"
        refine congrArg some (e.trans ?_).symm
        show formPD (if nameP LT FG n = true then _ else _) = _
        rw [if_pos q]
        rfl
      · walk_at "dw"
        refine congrArg some (e.trans ?_).symm
        show formPD (if nameP LT FG n = true then _ else _) = _
        rw [if_neg (by rw [q]; decide)]
        rfl
    | n :: m :: r, hi, e =>
      refine iteHF (decide_eq_false (by simp; omega)) ?_
      walk_at "dw"
      exact congrArg some e.symm
  have g2 := of_decide_eq_false g2
  walk_at "dw"
  show if decide (wordP d = "less") = true then _ else _
  refine iteD (fun g => ?_) fun g3 => ?_
  · have g := of_decide_eq_true g
    obtain ⟨r, hi⟩ := word_some (d := d) (by rw [g]; decide +kernel)
    rw [g] at hi
    have e := sf_of (LT := LT) (FG := FG) (GR := GR) (TW := TW) hi
    rw [kl_less] at e
    walk_at "dw"
    match r, hi, e with
    | [], hi, e =>
      walk_at "dw"
      exact congrArg some e.symm
    | [n], hi, e =>
      walk_at "dw"
      exact congrArg some e.symm
    | n :: m :: r, hi, e =>
      refine iteHF (decide_eq_false (by simp; omega)) ?_
      walk_at "dw"
      exact congrArg some e.symm
  have g3 := of_decide_eq_false g3
  walk_at "dw"
  show if inStrs (wordP d) TW = true then _ else _
  refine iteD (fun g => ?_) fun g => ?_
  · obtain ⟨r, hi⟩ := word_some (d := d) (fun z => by rw [z, hE] at g; cases g)
    have e := sf_of (LT := LT) (FG := FG) (GR := GR) (TW := TW) hi
    rw [kl_two g1 g2 g3, if_pos g] at e
    walk_at "dw"
    match r, hi, e with
    | [], hi, e =>
      walk_at "dw"
      exact congrArg some e.symm
    | [n], hi, e =>
      walk_at "dw"
      exact congrArg some e.symm
    | [n, m], hi, e =>
      walk_at "dw"
      exact congrArg some e.symm
    | n :: m :: k :: r, hi, e =>
      refine iteHF (decide_eq_false (by simp; omega)) ?_
      walk_at "dw"
      exact congrArg some e.symm
  · walk_at "dw"
    refine congrArg some (Eq.symm ?_)
    show sumForm LT FG GR TW d = .none
    by_cases hw : wordP d = ""
    · cases hi : items d with
      | none => unfold sumForm; rw [hi]; rfl
      | some xs =>
        rw [sf_of hi]
        cases xs with
        | nil => rfl
        | cons x xs =>
          cases x with
          | str w =>
            have : w = "" := by
              unfold wordP at hw
              rw [hi] at hw
              exact hw
            subst this
            rw [kl_two (by decide +kernel) (by decide +kernel) (by decide +kernel), if_neg (by rw [hE]; decide)]
            rfl
          | _ => rfl
    · obtain ⟨r, hi⟩ := word_some hw
      rw [sf_of hi, kl_two g1 g2 g3, if_neg (by rw [g]; decide)]
      rfl
end K8

namespace K8
open PySem PySem.Spec PyProof.Rows L2 Dw
local macro_rules | `(tactic| walk_at "dwvis") => `(tactic| exact vis_of (by kernel_rfl))
local macro_rules | `(tactic| walk_at "dwbin") => `(tactic| first
  | refine ⟨_, od_eqS, ?_⟩ | refine ⟨_, od_neS, ?_⟩ | refine ⟨_, od_add, ?_⟩ | refine ⟨_, od_sub, ?_⟩ | refine ⟨_, od_lt, ?_⟩ | refine ⟨_, od_le, ?_⟩ | refine ⟨_, od_gt, ?_⟩ | refine ⟨_, od_ge, ?_⟩ | refine ⟨_, od_eqI, ?_⟩ | refine ⟨_, od_eqB, ?_⟩ | refine ⟨_, od_neB, ?_⟩
  | refine ⟨_, od_isN, ?_⟩ | refine ⟨_, od_addS (by assumption), ?_⟩ | refine ⟨_, od_inT, ?_⟩ | refine ⟨_, od_notN, ?_⟩ | refine ⟨_, od_inSign, ?_⟩ | refine ⟨_, od_notInSign, ?_⟩)
local macro_rules | `(tactic| walk_at "dwcd") => `(tactic| first
  | refine ⟨_, cd_len (by assumption), ?_⟩ | refine ⟨_, cd_lenS (by assumption), ?_⟩ | refine ⟨_, cd_abs, ?_⟩ | refine ⟨_, cd_intI, ?_⟩ | refine ⟨_, cd_intB, ?_⟩ | refine ⟨_, cd_all, ?_⟩ | refine ⟨_, cd_any, ?_⟩ | refine ⟨_, cd_sum, ?_⟩)
local macro_rules | `(tactic| walk_at "dwname") => `(tactic| first
  | refine ev_name (i := 0) rfl ?_ rfl (by walk_at "dwvis") | refine ev_name (i := 1) rfl ?_ rfl (by walk_at "dwvis")
  | refine ev_name (i := 2) rfl ?_ rfl (by walk_at "dwvis") | refine ev_name (i := 3) rfl ?_ rfl (by walk_at "dwvis")
  | refine ev_name (i := 4) rfl ?_ rfl (by walk_at "dwvis") | refine ev_name (i := 5) rfl ?_ rfl (by walk_at "dwvis")
  | refine ev_globD (by assumption) ?_ (by kernel_rfl))
local macro_rules | `(tactic| walk_at "dwcall") => `(tactic| first
  | refine ev_callH (by assumption) (Nat.le_of_ble_eq_true rfl) ?_ (by kernel_rfl)
  | refine ev_ex (ex_callB (id := "len") (x := "len") ?_ (by kernel_rfl) (Blt.len (by assumption)) PySem.boot_len)
  | refine ev_isi2 (n1 := "list") (n2 := "tuple") (T1 := "list") (T2 := "tuple") ?_ (by decide) (by kernel_rfl) (Blt.isinstance (by assumption)) (by kernel_rfl) (Blt.list (by assumption)) PyProof.Rows.boot_list (by kernel_rfl) (Blt.tuple (by assumption)) PyProof.Rows.boot_tuple
  | refine ev_isi (n := "int") (T := "int") ?_ (by decide) (by kernel_rfl) (Blt.isinstance (by assumption)) (by kernel_rfl) (Blt.int (by assumption)) PyProof.Rows.boot_int
  | refine ev_isi (n := "bool") (T := "bool") ?_ (by decide) (by kernel_rfl) (Blt.isinstance (by assumption)) (by kernel_rfl) (Blt.bool (by assumption)) PyProof.Rows.boot_bool
  | refine ev_isi (n := "str") (T := "str") ?_ (by decide) (by kernel_rfl) (Blt.isinstance (by assumption)) (by kernel_rfl) (Blt.str (by assumption)) PyProof.Rows.boot_str
  | refine ev_isi (n := "dict") (T := "dict") ?_ (by decide) (by kernel_rfl) (Blt.isinstance (by assumption)) (by kernel_rfl) (Blt.dict (by assumption)) PyProof.Rows.boot_dict
  | refine ev_ex (ex_callB (id := "all") (x := "all") ?_ (by kernel_rfl) (Blt.all (by assumption)) PyProof.Rows.boot_all)
  | refine ev_ex (ex_callB (id := "any") (x := "any") ?_ (by kernel_rfl) (Blt.any (by assumption)) PyProof.Rows.boot_any)
  | refine ev_ex (ex_callB (id := "abs") (x := "abs") ?_ (by kernel_rfl) (Blt.abs (by assumption)) PyProof.Rows.boot_abs)
  | refine ev_ex (ex_callTy (T := "int") (x := "int") ?_ (by kernel_rfl) (Blt.int (by assumption)) PyProof.Rows.boot_int))
local macro_rules | `(tactic| walk_at "dwset") => `(tactic| first
  | refine sd_set (i := 0) ?_ rfl (of_decide_eq_true (by kernel_rfl)) (loc_of (by kernel_rfl)) (loc_of (by kernel_rfl)) | refine sd_set (i := 1) ?_ rfl (of_decide_eq_true (by kernel_rfl)) (loc_of (by kernel_rfl)) (loc_of (by kernel_rfl)) | refine sd_set (i := 2) ?_ rfl (of_decide_eq_true (by kernel_rfl)) (loc_of (by kernel_rfl)) (loc_of (by kernel_rfl)) | refine sd_set (i := 3) ?_ rfl (of_decide_eq_true (by kernel_rfl)) (loc_of (by kernel_rfl)) (loc_of (by kernel_rfl)) | refine sd_set (i := 4) ?_ rfl (of_decide_eq_true (by kernel_rfl)) (loc_of (by kernel_rfl)) (loc_of (by kernel_rfl)))
local macro_rules | `(tactic| walk_at "dwev") => `(tactic| first
  | (show EV _ (.Name _ _) _ _; walk_at "dwname")
  | (show EV _ (.Call _ _ _ _) _ _; walk_at "dwcall")
  | refine ev_int ?_ | refine ev_str ?_ | refine ev_ix ?_ | refine ev_tup ?_ | refine ev_ex (ex_cmp ?_) | refine ev_ex (ex_bin ?_)
  | refine ev_none ?_ | refine ev_bool ?_ | refine ev_and ?_ | refine ev_or ?_ | refine ev_one ?_ | refine ev_not ?_
  | refine ev_chain ?_ | refine ev_ex (ex_un ?_) | refine ev_ex (ex_ifExp ?_) | refine ev_ex (ex_lst ?_))
local macro_rules | `(tactic| walk_at "dw1") => `(tactic| first
  | (show SDs _ _ _ _; first | refine sds_cons ?_ | refine sds_nil ?_)
  | (show SD _ _ _ _; first | refine sd_ret ?_ | refine sd_if ?_ | walk_at "dwset")
  | (show EV _ _ _ _; walk_at "dwev")
  | (show EVs _ _ _ _; first | refine evs_nil ?_ | refine evs_cons ?_)
  | (show EX _ _ _ _; first | refine ex_ifExp ?_ | refine ex_lst ?_ | refine ex_ev ?_)
  | (show ET _ _ _ _; first | refine et_cmp ?_ | refine et_not ?_ | refine et_bo ?_ | refine et_val ?_)
  | (show EW _ _ _ _; first | refine ew_and ?_ | refine ew_or ?_ | refine ew_and1 ?_ | refine ew_or1 ?_)
  | (show ∃ d, IxD _ _ _ d ∧ _; first | refine ⟨_, ix_i (by first | rfl | assumption) (by first | exact atI0 | exact atI1 | exact atI2 | rfl | assumption), ?_⟩ | refine ⟨_, ix_s (by assumption) (by first | assumption | rfl), ?_⟩)
  | (show ∃ Qr, CallD _ _ _ Qr ∧ _; walk_at "dwcd")
  | (show ∃ Qr, BinD _ _ _ _ Qr ∧ _; walk_at "dwbin")
  | (show ∃ Qr, CmpD _ _ _ _ Qr ∧ _; walk_at "dwbin")
  | (show ∃ t, CmpD _ _ _ _ (· = .sh (.bool t)) ∧ _; walk_at "dwbin")
  | (show ∀ r, r = _ → _; intro r hr; subst hr) | refine fun (_ : ∀ (p : Addr) (o : OD), _ = Sl.own p o → _) => ?_
  | refine ⟨_, rfl, ?_⟩ | refine ⟨rfl, ?_⟩ | refine ⟨trivial, ?_⟩
  | refine ⟨Nat.le_of_ble_eq_true rfl, ?_⟩ | refine fun (_ : Addr) (_ : _ ∉ owns _) => ?_ | refine ⟨by decide, ?_⟩
  | refine iteHT rfl ?_ | refine iteHF rfl ?_)
local macro_rules | `(tactic| walk_at "dw") => `(tactic| repeat (walk_at "dw1"))
variable {G : Pg} {f fS : Addr} {fd fdS : FuncData} {SG LT FG : Str} {GR : Int} {TW : List Str} {look : Str → Option Addr} {all : Str → Bool}
theorem ok_is_form_in_word (B : Blt G.mg) (hW : GlobF G.mg G.K G.w "FORMS_wordforms" look all) (ha : all "sum" = true) (hs : look "sum" = some fS) (F : Fun G.K "is_form_in_word" "is_form_in_word" s_is_form_in_word f fd) :
    FnG G 1 f fd P_is_form_in_word (SpD G.K G.Tb (PureN 1 (fun ds => ds = [.str "sum"]) fun _ => .bool true)) := by
  refine fn_pure F sc_is_form_in_word rfl fun W Z ds hl hC => ?_
  subst hC
  refine sds_cons (sd_ret (ex_ev (ev_inF hW ?_ (by kernel_rfl))))
  walk_at "dw"
  refine ⟨ha, ?_⟩
  rw [hs]
  rfl
def CForm : List PD → Prop := fun ds => ∃ d, ds = [.str "sum", d] ∧ CSum [d]
theorem ok_form_in_word (B : Blt G.mg) (hW : GlobF G.mg G.K G.w "FORMS_wordforms" look all) (hs : look "sum" = some fS) (gS : FnG G 4 fS fdS P_sum_form (SpD G.K G.Tb (PureN 1 CSum fun ds => sumForm LT FG GR TW (ds.getD 0 .none)))) (kS : PySem.W.keepIn G.K (.ref fS) = true) (bS : Binds G.K fdS P_sum_form [])
    (F : Fun G.K "form_in_word" "form_in_word" s_form_in_word f fd) : FnG G 5 f fd P_form_in_word (SpD G.K G.Tb (PureN 2 CForm fun ds => sumForm LT FG GR TW (ds.getD 1 .none))) := by
  refine fn_pure F sc_form_in_word rfl fun W Z ds hl hC => ?_
  obtain ⟨d, rfl, hC⟩ := hC
  refine sds_cons (sd_set (i := 2) (ex_ixF hW ?_ (by kernel_rfl)) rfl (of_decide_eq_true (by kernel_rfl)) (loc_of (by kernel_rfl)) (loc_of (by kernel_rfl)))
  walk_at "dw"
  refine ⟨_, _, rfl, hs, ?_⟩
  refine sds_cons (sd_ret (ex_ev (ev_callL (i := 2) gS (Nat.le_refl _) rfl ?_ rfl (by walk_at "dwvis") kS bS)))
  walk_at "dw"
  refine ⟨hC, ?_⟩
  rfl
theorem ok_form_of (B : Blt G.mg) (h1 : Has G "is_form_in_word" P_is_form_in_word 1 (PureN 1 (fun ds => ds = [.str "sum"]) fun _ => .bool true)) (h2 : Has G "form_in_word" P_form_in_word 5 (PureN 2 CForm fun ds => sumForm LT FG GR TW (ds.getD 1 .none)))
    (F : Fun G.K "form_of" "form_of" s_form_of f fd) : FnG G 6 f fd P_form_of (SpD G.K G.Tb (PureN 2 CForm fun ds => sumForm LT FG GR TW (ds.getD 1 .none))) := by
  refine fn_pure F sc_form_of rfl fun W Z ds hl hC => ?_
  obtain ⟨d, rfl, hC⟩ := hC
  walk_at "dw"
  refine ⟨⟨_, rfl, hC⟩, ?_⟩
  rfl
def CKind : List PD → Prop := fun ds => ∃ k, ds.getD 0 .none = .str k ∧ (k = "leaf" ∨ k = "sum")
theorem ok_is_left_out (B : Blt G.mg) (F : Fun G.K "is_left_out" "is_left_out" s_is_left_out f fd) : FnG G 1 f fd P_is_left_out (SpD G.K G.Tb (PureN 2 CKind fun ds => .bool (decide (strAt (ds.getD 0 .none) = "leaf")))) := by
  refine fn_pure F sc_is_left_out rfl fun W Z ds hl hC => ?_
  obtain ⟨k, h1, h2⟩ := hC
  match ds, hl, h1 with
  | [.str k', d], _, h1 =>
  cases h1
  walk_at "dw"
  refine iteD (fun g => ?_) fun g => ?_
  · refine retB ?_
    exact g.symm
  · walk_at "dw"
    have n : k ≠ "list or none" := by
      rcases h2 with rfl | rfl <;> decide +kernel
    refine iteHF (decide_eq_false n) ?_
    refine retB ?_
    exact g.symm
theorem ok_kind_inside (B : Blt G.mg) (F : Fun G.K "kind_inside" "kind_inside" s_kind_inside f fd) : FnG G 1 f fd P_kind_inside (SpD G.K G.Tb (PureN 1 CKind fun ds => ds.getD 0 .none)) := by
  refine fn_pure F sc_kind_inside rfl fun W Z ds hl hC => ?_
  obtain ⟨k, h1, h2⟩ := hC
  match ds, hl, h1 with
  | [.str k'], _, h1 =>
  cases h1
  walk_at "dw"
  have n : k ≠ "list or none" := by
    rcases h2 with rfl | rfl <;> decide +kernel
  refine iteHF (decide_eq_false n) ?_
  walk_at "dw"
  rfl
end K8

namespace K8
open PySem PySem.Spec PyProof.Rows L2 Dw
local macro_rules | `(tactic| walk_at "dwvis") => `(tactic| exact vis_of (by kernel_rfl))
local macro_rules | `(tactic| walk_at "dwbin") => `(tactic| first
  | refine ⟨_, od_eqS, ?_⟩ | refine ⟨_, od_neS, ?_⟩ | refine ⟨_, od_add, ?_⟩ | refine ⟨_, od_sub, ?_⟩ | refine ⟨_, od_lt, ?_⟩ | refine ⟨_, od_le, ?_⟩ | refine ⟨_, od_gt, ?_⟩ | refine ⟨_, od_ge, ?_⟩ | refine ⟨_, od_eqI, ?_⟩ | refine ⟨_, od_eqB, ?_⟩ | refine ⟨_, od_neB, ?_⟩
  | refine ⟨_, od_isN, ?_⟩ | refine ⟨_, od_addS (by assumption), ?_⟩ | refine ⟨_, od_inT, ?_⟩ | refine ⟨_, od_notN, ?_⟩ | refine ⟨_, od_inSign, ?_⟩ | refine ⟨_, od_notInSign, ?_⟩)
local macro_rules | `(tactic| walk_at "dwcd") => `(tactic| first
  | refine ⟨_, cd_len (by assumption), ?_⟩ | refine ⟨_, cd_lenS (by assumption), ?_⟩ | refine ⟨_, cd_abs, ?_⟩ | refine ⟨_, cd_intI, ?_⟩ | refine ⟨_, cd_intB, ?_⟩ | refine ⟨_, cd_all, ?_⟩ | refine ⟨_, cd_any, ?_⟩ | refine ⟨_, cd_sum, ?_⟩)
local macro_rules | `(tactic| walk_at "dwname") => `(tactic| first
  | refine ev_name (i := 0) rfl ?_ rfl (by walk_at "dwvis") | refine ev_name (i := 1) rfl ?_ rfl (by walk_at "dwvis")
  | refine ev_name (i := 2) rfl ?_ rfl (by walk_at "dwvis") | refine ev_name (i := 3) rfl ?_ rfl (by walk_at "dwvis")
  | refine ev_name (i := 4) rfl ?_ rfl (by walk_at "dwvis") | refine ev_name (i := 5) rfl ?_ rfl (by walk_at "dwvis")
  | refine ev_globD (by assumption) ?_ (by kernel_rfl))
local macro_rules | `(tactic| walk_at "dwcall") => `(tactic| first
  | refine ev_callH (by assumption) (Nat.le_of_ble_eq_true rfl) ?_ (by kernel_rfl)
  | refine ev_ex (ex_callB (id := "len") (x := "len") ?_ (by kernel_rfl) (Blt.len (by assumption)) PySem.boot_len)
  | refine ev_isi2 (n1 := "list") (n2 := "tuple") (T1 := "list") (T2 := "tuple") ?_ (by decide) (by kernel_rfl) (Blt.isinstance (by assumption)) (by kernel_rfl) (Blt.list (by assumption)) PyProof.Rows.boot_list (by kernel_rfl) (Blt.tuple (by assumption)) PyProof.Rows.boot_tuple
  | refine ev_isi (n := "int") (T := "int") ?_ (by decide) (by kernel_rfl) (Blt.isinstance (by assumption)) (by kernel_rfl) (Blt.int (by assumption)) PyProof.Rows.boot_int
  | refine ev_isi (n := "bool") (T := "bool") ?_ (by decide) (by kernel_rfl) (Blt.isinstance (by assumption)) (by kernel_rfl) (Blt.bool (by assumption)) PyProof.Rows.boot_bool
  | refine ev_isi (n := "str") (T := "str") ?_ (by decide) (by kernel_rfl) (Blt.isinstance (by assumption)) (by kernel_rfl) (Blt.str (by assumption)) PyProof.Rows.boot_str
  | refine ev_isi (n := "dict") (T := "dict") ?_ (by decide) (by kernel_rfl) (Blt.isinstance (by assumption)) (by kernel_rfl) (Blt.dict (by assumption)) PyProof.Rows.boot_dict
  | refine ev_ex (ex_callB (id := "all") (x := "all") ?_ (by kernel_rfl) (Blt.all (by assumption)) PyProof.Rows.boot_all)
  | refine ev_ex (ex_callB (id := "any") (x := "any") ?_ (by kernel_rfl) (Blt.any (by assumption)) PyProof.Rows.boot_any)
  | refine ev_ex (ex_callB (id := "abs") (x := "abs") ?_ (by kernel_rfl) (Blt.abs (by assumption)) PyProof.Rows.boot_abs)
  | refine ev_ex (ex_callTy (T := "int") (x := "int") ?_ (by kernel_rfl) (Blt.int (by assumption)) PyProof.Rows.boot_int))
local macro_rules | `(tactic| walk_at "dwset") => `(tactic| first
  | refine sd_set (i := 0) ?_ rfl (of_decide_eq_true (by kernel_rfl)) (loc_of (by kernel_rfl)) (loc_of (by kernel_rfl)) | refine sd_set (i := 1) ?_ rfl (of_decide_eq_true (by kernel_rfl)) (loc_of (by kernel_rfl)) (loc_of (by kernel_rfl)) | refine sd_set (i := 2) ?_ rfl (of_decide_eq_true (by kernel_rfl)) (loc_of (by kernel_rfl)) (loc_of (by kernel_rfl)) | refine sd_set (i := 3) ?_ rfl (of_decide_eq_true (by kernel_rfl)) (loc_of (by kernel_rfl)) (loc_of (by kernel_rfl)) | refine sd_set (i := 4) ?_ rfl (of_decide_eq_true (by kernel_rfl)) (loc_of (by kernel_rfl)) (loc_of (by kernel_rfl)))
local macro_rules | `(tactic| walk_at "dwev") => `(tactic| first
  | (show EV _ (.Name _ _) _ _; walk_at "dwname")
  | (show EV _ (.Call _ _ _ _) _ _; walk_at "dwcall")
  | refine ev_int ?_ | refine ev_str ?_ | refine ev_ix ?_ | refine ev_tup ?_ | refine ev_ex (ex_cmp ?_) | refine ev_ex (ex_bin ?_)
  | refine ev_none ?_ | refine ev_bool ?_ | refine ev_and ?_ | refine ev_or ?_ | refine ev_one ?_ | refine ev_not ?_
  | refine ev_chain ?_ | refine ev_ex (ex_un ?_) | refine ev_ex (ex_ifExp ?_) | refine ev_ex (ex_lst ?_))
local macro_rules | `(tactic| walk_at "dw1") => `(tactic| first
  | (show SDs _ _ _ _; first | refine sds_cons ?_ | refine sds_nil ?_)
  | (show SD _ _ _ _; first | refine sd_ret ?_ | refine sd_if ?_ | walk_at "dwset")
  | (show EV _ _ _ _; walk_at "dwev")
  | (show EVs _ _ _ _; first | refine evs_nil ?_ | refine evs_cons ?_)
  | (show EX _ _ _ _; first | refine ex_ifExp ?_ | refine ex_lst ?_ | refine ex_ev ?_)
  | (show ET _ _ _ _; first | refine et_cmp ?_ | refine et_not ?_ | refine et_bo ?_ | refine et_val ?_)
  | (show EW _ _ _ _; first | refine ew_and ?_ | refine ew_or ?_ | refine ew_and1 ?_ | refine ew_or1 ?_)
  | (show ∃ d, IxD _ _ _ d ∧ _; first | refine ⟨_, ix_i (by first | rfl | assumption) (by first | exact atI0 | exact atI1 | exact atI2 | rfl | assumption), ?_⟩ | refine ⟨_, ix_s (by assumption) (by first | assumption | rfl), ?_⟩)
  | (show ∃ Qr, CallD _ _ _ Qr ∧ _; walk_at "dwcd")
  | (show ∃ Qr, BinD _ _ _ _ Qr ∧ _; walk_at "dwbin")
  | (show ∃ Qr, CmpD _ _ _ _ Qr ∧ _; walk_at "dwbin")
  | (show ∃ t, CmpD _ _ _ _ (· = .sh (.bool t)) ∧ _; walk_at "dwbin")
  | (show ∀ r, r = _ → _; intro r hr; subst hr) | refine fun (_ : ∀ (p : Addr) (o : OD), _ = Sl.own p o → _) => ?_
  | refine ⟨_, rfl, ?_⟩ | refine ⟨rfl, ?_⟩ | refine ⟨trivial, ?_⟩
  | refine ⟨Nat.le_of_ble_eq_true rfl, ?_⟩ | refine fun (_ : Addr) (_ : _ ∉ owns _) => ?_ | refine ⟨by decide, ?_⟩
  | refine iteHT rfl ?_ | refine iteHF rfl ?_)
local macro_rules | `(tactic| walk_at "dw") => `(tactic| repeat (walk_at "dw1"))
variable {G : Pg} {f : Addr} {fd : FuncData} {LT FG : Str} {GR : Int} {TW : List Str}
/-! how much stands in data -/
mutual
def szP : PD → Nat
  | .list xs => 1 + szL xs
  | .tuple xs => 1 + szL xs
  | .str z => 1 + z.length
  | .none => 1
  | .bool _ => 1
  | .int _ => 1
  | .dict _ => 1
def szL : List PD → Nat
  | [] => 0
  | x :: xs => szP x + szL xs
end
mutual
def fitsS (LT FG : Str) (GR : Int) (TW : List Str) : PD → Bool
  | .list xs => match kindsL LT FG GR TW xs with | some ks => fitsK LT FG GR TW ks xs | none => false
  | .tuple xs => match kindsL LT FG GR TW xs with | some ks => fitsK LT FG GR TW ks xs | none => false
  | .none => false
  | .bool _ => false
  | .int _ => false
  | .str _ => false
  | .dict _ => false
def fitsK (LT FG : Str) (GR : Int) (TW : List Str) (ks : List Str) : List PD → Bool
  | [] => true
  | x :: xs => match ks with | k :: ks => (decide (k = "leaf") || fitsS LT FG GR TW x) && fitsK LT FG GR TW ks xs | [] => true
end
theorem fitsS_items {d : PD} {xs : List PD} (h : items d = some xs) : fitsS LT FG GR TW d = match kindsL LT FG GR TW xs with | some ks => fitsK LT FG GR TW ks xs | none => false := by
  cases d <;> first | cases h | skip
  · unfold fitsS; rfl
  · unfold fitsS; rfl
theorem szP_items {d : PD} {xs : List PD} (h : items d = some xs) : szP d = 1 + szL xs := by
  cases d <;> first | cases h | skip
  · unfold szP; rfl
  · unfold szP; rfl
theorem szP_pos (d : PD) : 1 ≤ szP d := by cases d <;> simp [szP] <;> omega
theorem szL_mem {x : PD} : ∀ {xs : List PD}, x ∈ xs → szP x ≤ szL xs
  | _ :: _, h => by
    unfold szL
    rcases List.mem_cons.mp h with rfl | h
    · omega
    · have := szL_mem h
      omega
theorem szL_len : ∀ (xs : List PD), xs.length ≤ szL xs
  | [] => Nat.le_refl _
  | x :: xs => by
    unfold szL
    have := szL_len xs
    have := szP_pos x
    rw [List.length_cons]
    omega
def wsP (es : List (Str × PD)) : List PD := es.map fun q => .tuple [.str q.1, q.2]
def wsSz (es : List (Str × PD)) : Nat := szL (es.map (·.2))
def wsFit (LT FG : Str) (GR : Int) (TW : List Str) (es : List (Str × PD)) : Bool := es.all fun q => decide (q.1 = "leaf") || fitsS LT FG GR TW q.2
theorem wsP_zip : ∀ (ks : List Str) (xs : List PD), zipP (ks.map .str) xs = wsP (ks.zip xs)
  | [], xs => by cases xs <;> rfl
  | k :: ks, [] => rfl
  | k :: ks, x :: xs => by
    show PyData.tuple [.str k, x] :: zipP (ks.map .str) xs = .tuple [.str k, x] :: wsP (ks.zip xs)
    rw [wsP_zip ks xs]
theorem wsFit_zip : ∀ (ks : List Str) (xs : List PD), wsFit LT FG GR TW (ks.zip xs) = fitsK LT FG GR TW ks xs
  | ks, [] => by cases ks <;> (unfold fitsK; rfl)
  | [], x :: xs => by unfold fitsK; rfl
  | k :: ks, x :: xs => by
    unfold fitsK
    show _ = ((decide (k = "leaf") || fitsS LT FG GR TW x) && fitsK LT FG GR TW ks xs)
    rw [← wsFit_zip ks xs]
    rfl
theorem wsSz_zip : ∀ (ks : List Str) (xs : List PD), wsSz (ks.zip xs) ≤ szL xs
  | ks, [] => by cases ks <;> exact Nat.le_refl _
  | [], x :: xs => Nat.zero_le _
  | k :: ks, x :: xs => by
    have := wsSz_zip ks xs
    show szP x + wsSz (ks.zip xs) ≤ szP x + szL xs
    omega
theorem szL_app : ∀ (xs ys : List PD), szL (xs ++ ys) = szL xs + szL ys
  | [], ys => by simp [szL]
  | x :: xs, ys => by
    show szP x + szL (xs ++ ys) = szP x + szL xs + szL ys
    rw [szL_app xs ys]
    omega
theorem kinds_ok {xs : List PD} {ks : List Str} (h : kindsL LT FG GR TW xs = some ks) : ∀ k ∈ ks, k = "leaf" ∨ k = "sum" := by
  have one : ∀ {l : List Str}, (l = (["leaf", "leaf"] : List Str) ∨ l = (["leaf", "sum"] : List Str) ∨ l = (["leaf", "sum", "sum"] : List Str)) → ∀ k ∈ l, k = "leaf" ∨ k = "sum" := by
    rintro l (rfl | rfl | rfl) k hk <;> simp at hk <;> rcases hk with rfl | rfl | rfl <;> simp
  refine one ?_
  unfold kindsL at h
  split at h
  · repeat' (split at h)
    all_goals first | cases h | skip
    all_goals first | exact .inl rfl | exact .inr (.inl rfl) | exact .inr (.inr rfl)
  · cases h
def CFits : List PD → Prop := fun ds => ∃ d, ds = [.str "sum", d] ∧ szP d ≤ 100000
theorem ok_fits (B : Blt G.mg) (h1 : Has G "is_left_out" P_is_left_out 1 (PureN 2 CKind fun ds => .bool (decide (strAt (ds.getD 0 .none) = "leaf")))) (h2 : Has G "kind_inside" P_kind_inside 1 (PureN 1 CKind fun ds => ds.getD 0 .none)) (h3 : Has G "form_of" P_form_of 6 (PureN 2 CForm fun ds => sumForm LT FG GR TW (ds.getD 1 .none)))
    (F : Fun G.K "fits" "fits" s_fits f fd) : FnG G 7 f fd P_fits (SpD G.K G.Tb (PureN 2 CFits fun ds => .bool (fitsS LT FG GR TW (ds.getD 1 .none)))) := by
  refine fn_pure F sc_fits rfl fun W Z ds hl hC => ?_
  obtain ⟨t, rfl, ht⟩ := hC
  walk_at "dw"
  rename_i p0 np0
  refine sd_while (fun m e => ∃ kd td es p fo, e = [.sh kd, .sh td, .own p (.lst (wsP es)), fo] ∧ (∀ q ∈ es, q.1 = "leaf" ∨ q.1 = "sum") ∧ wsSz es ≤ 100000 ∧ m = wsSz es ∧ wsFit LT FG GR TW es = fitsS LT FG GR TW t)
    ⟨_, .str "sum", t, [("sum", t)], p0, .no, rfl, ?_, ?_, rfl, ?_⟩ ?_
  · intro q hq
    rw [List.mem_singleton] at hq
    rw [hq]
    exact .inr rfl
  · show szP t + 0 ≤ 100000
    omega
  · show ((decide (("sum" : Str) = "leaf") || fitsS LT FG GR TW t) && true) = _
    rw [decide_eq_false (by decide +kernel), Bool.false_or, Bool.and_true]
  · rintro m e ⟨kd, td, es, p, fo, rfl, hk, hz, rfl, hf⟩
    refine et_cmp (ev_lenO (i := 2) rfl ?_ rfl (by walk_at "dwvis") (by kernel_rfl) (Blt.len (by assumption)))
    walk_at "dw"
    rcases List.eq_nil_or_concat es with rfl | ⟨es0, q, rfl⟩
    · refine iteHF rfl ?_
      walk_at "dw"
      exact retB hf
    · rw [List.concat_eq_append] at *
      have hp : wsP (es0 ++ [q]) = wsP es0 ++ [.tuple [.str q.1, q.2]] := by unfold wsP; rw [List.map_append]; rfl
      have hq := hk q (List.mem_append_right _ List.mem_cons_self)
      have hk0 : ∀ r ∈ es0, r.1 = "leaf" ∨ r.1 = "sum" := fun r hr => hk r (List.mem_append_left _ hr)
      have hz0 : wsSz (es0 ++ [q]) = wsSz es0 + szP q.2 := by
        unfold wsSz
        rw [List.map_append, szL_app]
        show _ + (szP q.2 + 0) = _
        omega
      have hf0 : wsFit LT FG GR TW (es0 ++ [q]) = (wsFit LT FG GR TW es0 && (decide (q.1 = "leaf") || fitsS LT FG GR TW q.2)) := by
        unfold wsFit
        rw [List.all_append]
        simp
      have hpos := szP_pos q.2
      refine iteHT (decide_eq_true (by rw [hp, List.length_append]; simp)) ?_
      refine sds_cons (sd_unpack (js := [0, 1]) (ev_pop (i := 2) (xs := wsP (es0 ++ [q])) (y := .tuple [.str q.1, q.2]) rfl ?_ ?_ rfl (by walk_at "dwvis")) fun X g te gg he hg => ps_asg he hg)
      · rw [hp, List.length_append, List.getElem?_append_right (by simp)]
        simp
      refine tg_tup (tgs_cons (tg_name (i := 0) ?_ (by decide) rfl (of_decide_eq_true (by kernel_rfl)) (loc_of (by kernel_rfl)) (loc_of (by kernel_rfl)))) rfl (fun X g t h => pg_tup g.calm h)
      refine tgs_cons (tg_name (i := 1) ?_ (by decide) rfl (of_decide_eq_true (by kernel_rfl)) (loc_of (by kernel_rfl)) (loc_of (by kernel_rfl)))
      refine tgs_nil ?_
      have hd : (wsP (es0 ++ [q])).dropLast = wsP es0 := by rw [hp, List.dropLast_concat]
      rw [hd]
      show SDs _ _ [.sh (.str q.1), .sh q.2, .own p (.lst (wsP es0)), fo] _
      walk_at "dw"
      refine ⟨⟨q.1, rfl, hq⟩, ?_⟩
      walk_at "dw"
      show if decide (q.1 = "leaf") = true then _ else _
      refine iteD (fun g => ?_) fun g => ?_
      · refine sds_cons (sd_continue ⟨wsSz es0, by omega, _, _, es0, p, fo, rfl, hk0, by omega, rfl, ?_⟩)
        rw [← hf, hf0, g, Bool.true_or, Bool.and_true]
      · have hs : q.1 = "sum" := hq.resolve_left (of_decide_eq_false g)
        walk_at "dw"
        refine ⟨⟨q.1, rfl, hq⟩, ?_⟩
        walk_at "dw"
        have hCS : CSum [q.2] := fun xs hx x hm z hzz => by
          have e1 := szP_items (d := q.2) hx
          have e2 := szL_mem hm
          rw [hzz] at e2
          have e3 : szP (.str z) = 1 + z.length := by unfold szP; rfl
          omega
        refine ⟨⟨q.2, by rw [← hs]; rfl, hCS⟩, ?_⟩
        walk_at "dw"
        show if isNone (sumForm LT FG GR TW q.2) = true then _ else _
        have hfit : fitsS LT FG GR TW q.2 = match (items q.2).bind (kindsL LT FG GR TW) with | some ks => fitsK LT FG GR TW ks ((items q.2).getD []) | none => false := by
          cases hi : items q.2 with
          | none =>
            cases hqq : q.2 <;> first | (unfold fitsS; rfl) | (rw [hqq] at hi; cases hi)
          | some xs =>
            rw [fitsS_items hi]
            rfl
        unfold sumForm
        cases hko : (items q.2).bind (kindsL LT FG GR TW) with
        | none =>
          rw [hko] at hfit
          walk_at "dw"
          refine retB ?_
          show false = fitsS LT FG GR TW t
          rw [← hf, hf0, hfit, g]
          simp
        | some ks =>
          rw [hko] at hfit
          cases hi : items q.2 with
          | none => rw [hi] at hko; cases hko
          | some xs =>
            rw [hi] at hko hfit
            walk_at "dw"
            have hko' : (items ([[PyData.str q.1].getD 0 PyData.none, q.2].getD 1 PyData.none)).bind (kindsL LT FG GR TW) = some ks := by
              show (items q.2).bind (kindsL LT FG GR TW) = some ks
              rw [hi]
              exact hko
            rw [hko']
            show SD _ _ [.sh (.str q.1), .sh q.2, .own p (.lst (wsP es0)), .sh (.tuple [.bool false, .list (ks.map .str)])] _
            refine sd_expr (ex_extend (i := 2) ⟨_, _, rfl⟩ (ev_ex (ex_listZip ?_ (by kernel_rfl) (Blt.list (by assumption)) (by kernel_rfl) (Blt.zip (by assumption)))) rfl (by walk_at "dwvis"))
            refine evs_cons (ev_ix (ev_name (i := 3) rfl ?_ rfl (by walk_at "dwvis")))
            walk_at "dw"
            refine ⟨_, _, ks.map .str, xs, rfl, rfl, hi, fun l => ⟨_, rfl, ?_⟩⟩
            show ∃ p1 xs1 ys, PyData.list (zipP (ks.map .str) xs) = PyData.list ys ∧ _
            have hsz : szP q.2 = 1 + szL xs := szP_items hi
            have hzz := wsSz_zip ks xs
            rw [wsP_zip]
            have hap : wsP es0 ++ wsP (ks.zip xs) = wsP (es0 ++ ks.zip xs) := by unfold wsP; rw [List.map_append]
            have hsp : wsSz (es0 ++ ks.zip xs) = wsSz es0 + wsSz (ks.zip xs) := by
              unfold wsSz
              rw [List.map_append, szL_app]
            have hle : ∀ es : List (Str × PD), (wsP es).length ≤ wsSz es := fun es => by
              have := szL_len (es.map (·.2))
              rw [List.length_map] at this
              unfold wsP
              rw [List.length_map]
              exact this
            have l1 := hle es0
            have l2 := hle (ks.zip xs)
            refine ⟨p, wsP es0, wsP (ks.zip xs), rfl, rfl, rfl, by omega, ?_⟩
            rw [hap]
            refine sds_nil ⟨wsSz (es0 ++ ks.zip xs), by omega, _, _, es0 ++ ks.zip xs, p, _, rfl, ?_, by omega, rfl, ?_⟩
            · intro r hr
              rcases List.mem_append.mp hr with hr | hr
              · exact hk0 r hr
              · exact kinds_ok hko r.1 (List.of_mem_zip (a := r.1) (b := r.2) hr).1
            · rw [← hf, hf0, hfit, g, Bool.false_or]
              unfold wsFit
              rw [List.all_append]
              have := wsFit_zip (LT := LT) (FG := FG) (GR := GR) (TW := TW) ks xs
              unfold wsFit at this
              rw [this]
              rfl
end K8

namespace K8
open PySem PySem.Spec PyProof.Rows L2 Dw
local macro_rules | `(tactic| walk_at "dwvis") => `(tactic| exact vis_of (by kernel_rfl))
local macro_rules | `(tactic| walk_at "dwbin") => `(tactic| first
  | refine ⟨_, od_eqS, ?_⟩ | refine ⟨_, od_neS, ?_⟩ | refine ⟨_, od_add, ?_⟩ | refine ⟨_, od_sub, ?_⟩ | refine ⟨_, od_lt, ?_⟩ | refine ⟨_, od_le, ?_⟩ | refine ⟨_, od_gt, ?_⟩ | refine ⟨_, od_ge, ?_⟩ | refine ⟨_, od_eqI, ?_⟩ | refine ⟨_, od_eqB, ?_⟩ | refine ⟨_, od_neB, ?_⟩
  | refine ⟨_, od_isN, ?_⟩ | refine ⟨_, od_addS (by assumption), ?_⟩ | refine ⟨_, od_inT, ?_⟩ | refine ⟨_, od_notN, ?_⟩ | refine ⟨_, od_inSign, ?_⟩ | refine ⟨_, od_notInSign, ?_⟩)
local macro_rules | `(tactic| walk_at "dwcd") => `(tactic| first
  | refine ⟨_, cd_len (by assumption), ?_⟩ | refine ⟨_, cd_lenS (by assumption), ?_⟩ | refine ⟨_, cd_abs, ?_⟩ | refine ⟨_, cd_intI, ?_⟩ | refine ⟨_, cd_intB, ?_⟩ | refine ⟨_, cd_all, ?_⟩ | refine ⟨_, cd_any, ?_⟩ | refine ⟨_, cd_sum, ?_⟩)
local macro_rules | `(tactic| walk_at "dwname") => `(tactic| first
  | refine ev_name (i := 0) rfl ?_ rfl (by walk_at "dwvis") | refine ev_name (i := 1) rfl ?_ rfl (by walk_at "dwvis")
  | refine ev_name (i := 2) rfl ?_ rfl (by walk_at "dwvis") | refine ev_name (i := 3) rfl ?_ rfl (by walk_at "dwvis")
  | refine ev_name (i := 4) rfl ?_ rfl (by walk_at "dwvis") | refine ev_name (i := 5) rfl ?_ rfl (by walk_at "dwvis")
  | refine ev_globD (by assumption) ?_ (by kernel_rfl))
local macro_rules | `(tactic| walk_at "dwcall") => `(tactic| first
  | refine ev_callH (by assumption) (Nat.le_of_ble_eq_true rfl) ?_ (by kernel_rfl)
  | refine ev_ex (ex_callB (id := "len") (x := "len") ?_ (by kernel_rfl) (Blt.len (by assumption)) PySem.boot_len)
  | refine ev_isi2 (n1 := "list") (n2 := "tuple") (T1 := "list") (T2 := "tuple") ?_ (by decide) (by kernel_rfl) (Blt.isinstance (by assumption)) (by kernel_rfl) (Blt.list (by assumption)) PyProof.Rows.boot_list (by kernel_rfl) (Blt.tuple (by assumption)) PyProof.Rows.boot_tuple
  | refine ev_isi (n := "int") (T := "int") ?_ (by decide) (by kernel_rfl) (Blt.isinstance (by assumption)) (by kernel_rfl) (Blt.int (by assumption)) PyProof.Rows.boot_int
  | refine ev_isi (n := "bool") (T := "bool") ?_ (by decide) (by kernel_rfl) (Blt.isinstance (by assumption)) (by kernel_rfl) (Blt.bool (by assumption)) PyProof.Rows.boot_bool
  | refine ev_isi (n := "str") (T := "str") ?_ (by decide) (by kernel_rfl) (Blt.isinstance (by assumption)) (by kernel_rfl) (Blt.str (by assumption)) PyProof.Rows.boot_str
  | refine ev_isi (n := "dict") (T := "dict") ?_ (by decide) (by kernel_rfl) (Blt.isinstance (by assumption)) (by kernel_rfl) (Blt.dict (by assumption)) PyProof.Rows.boot_dict
  | refine ev_ex (ex_callB (id := "all") (x := "all") ?_ (by kernel_rfl) (Blt.all (by assumption)) PyProof.Rows.boot_all)
  | refine ev_ex (ex_callB (id := "any") (x := "any") ?_ (by kernel_rfl) (Blt.any (by assumption)) PyProof.Rows.boot_any)
  | refine ev_ex (ex_callB (id := "abs") (x := "abs") ?_ (by kernel_rfl) (Blt.abs (by assumption)) PyProof.Rows.boot_abs)
  | refine ev_ex (ex_callTy (T := "int") (x := "int") ?_ (by kernel_rfl) (Blt.int (by assumption)) PyProof.Rows.boot_int))
local macro_rules | `(tactic| walk_at "dwset") => `(tactic| first
  | refine sd_set (i := 0) ?_ rfl (of_decide_eq_true (by kernel_rfl)) (loc_of (by kernel_rfl)) (loc_of (by kernel_rfl)) | refine sd_set (i := 1) ?_ rfl (of_decide_eq_true (by kernel_rfl)) (loc_of (by kernel_rfl)) (loc_of (by kernel_rfl)) | refine sd_set (i := 2) ?_ rfl (of_decide_eq_true (by kernel_rfl)) (loc_of (by kernel_rfl)) (loc_of (by kernel_rfl)) | refine sd_set (i := 3) ?_ rfl (of_decide_eq_true (by kernel_rfl)) (loc_of (by kernel_rfl)) (loc_of (by kernel_rfl)) | refine sd_set (i := 4) ?_ rfl (of_decide_eq_true (by kernel_rfl)) (loc_of (by kernel_rfl)) (loc_of (by kernel_rfl)))
local macro_rules | `(tactic| walk_at "dwev") => `(tactic| first
  | (show EV _ (.Name _ _) _ _; walk_at "dwname")
  | (show EV _ (.Call _ _ _ _) _ _; walk_at "dwcall")
  | refine ev_int ?_ | refine ev_str ?_ | refine ev_ix ?_ | refine ev_tup ?_ | refine ev_ex (ex_cmp ?_) | refine ev_ex (ex_bin ?_)
  | refine ev_none ?_ | refine ev_bool ?_ | refine ev_and ?_ | refine ev_or ?_ | refine ev_one ?_ | refine ev_not ?_
  | refine ev_chain ?_ | refine ev_ex (ex_un ?_) | refine ev_ex (ex_ifExp ?_) | refine ev_ex (ex_lst ?_))
local macro_rules | `(tactic| walk_at "dw1") => `(tactic| first
  | (show SDs _ _ _ _; first | refine sds_cons ?_ | refine sds_nil ?_)
  | (show SD _ _ _ _; first | refine sd_ret ?_ | refine sd_if ?_ | walk_at "dwset")
  | (show EV _ _ _ _; walk_at "dwev")
  | (show EVs _ _ _ _; first | refine evs_nil ?_ | refine evs_cons ?_)
  | (show EX _ _ _ _; first | refine ex_ifExp ?_ | refine ex_lst ?_ | refine ex_ev ?_)
  | (show ET _ _ _ _; first | refine et_cmp ?_ | refine et_not ?_ | refine et_bo ?_ | refine et_val ?_)
  | (show EW _ _ _ _; first | refine ew_and ?_ | refine ew_or ?_ | refine ew_and1 ?_ | refine ew_or1 ?_)
  | (show ∃ d, IxD _ _ _ d ∧ _; first | refine ⟨_, ix_i (by first | rfl | assumption) (by first | exact atI0 | exact atI1 | exact atI2 | rfl | assumption), ?_⟩ | refine ⟨_, ix_s (by assumption) (by first | assumption | rfl), ?_⟩)
  | (show ∃ Qr, CallD _ _ _ Qr ∧ _; walk_at "dwcd")
  | (show ∃ Qr, BinD _ _ _ _ Qr ∧ _; walk_at "dwbin")
  | (show ∃ Qr, CmpD _ _ _ _ Qr ∧ _; walk_at "dwbin")
  | (show ∃ t, CmpD _ _ _ _ (· = .sh (.bool t)) ∧ _; walk_at "dwbin")
  | (show ∀ r, r = _ → _; intro r hr; subst hr) | refine fun (_ : ∀ (p : Addr) (o : OD), _ = Sl.own p o → _) => ?_
  | refine ⟨_, rfl, ?_⟩ | refine ⟨rfl, ?_⟩ | refine ⟨trivial, ?_⟩
  | refine ⟨Nat.le_of_ble_eq_true rfl, ?_⟩ | refine fun (_ : Addr) (_ : _ ∉ owns _) => ?_ | refine ⟨by decide, ?_⟩
  | refine iteHT rfl ?_ | refine iteHF rfl ?_)
local macro_rules | `(tactic| walk_at "dw") => `(tactic| repeat (walk_at "dw1"))
variable {G : Pg} {f : Addr} {fd : FuncData} {SG LT FG : Str}
/-- -i -/
theorem ud_neg {Γ : Gm} {i : Int} : UnD Γ (unaryOp .USub) (.int i) (.int (-i)) := .mk fun F R H σ env x P E rx k =>
  ⟨_, fun X g => un_neg, i, rx, k _ rfl⟩
/-- the text of these signs -/
abbrev Sx (l : List Nat) : Str := ⟨l.toArray⟩
def dig (c : Nat) : Bool := decide (48 ≤ c) && decide (c ≤ 57)
def numL : List Nat → Option Int
  | [] => some 0
  | c :: r => if c = 45 then (if r ≠ [] ∧ r.all dig = true then some (-((NumText.digitsVal r : Nat) : Int)) else none) else (if (c :: r).all dig = true then some ((NumText.digitsVal (c :: r) : Nat) : Int) else none)
def numPD : Option Int → PD | some n => .int n | none => .none
theorem starts_minus (l : List Nat) : Txt.startswith (Sx l) "-" = (match l with | c :: _ => decide (c = 45) | [] => false) := by
  have e : ("-" : Str) = Sx [45] := by decide +kernel
  rw [e]
  unfold Txt.startswith
  rw [PySem.StrLaws.subAt_eq]
  cases l with
  | nil => rfl
  | cons c r =>
    show (decide (0 + 1 ≤ (c :: r).length) && (List.take 1 (c :: r) == [45])) = decide (c = 45)
    simp
    by_cases h : c = 45 <;> simp [h]
theorem cut1 (c : Nat) (r : List Nat) : cutS (Sx (c :: r)) (some 1) none = Sx r := by
  unfold cutS
  have h1 : HT.sIx (Sx (c :: r)).length 0 (some 1) = 1 := by
    show HT.sIx (r.length + 1) 0 (some ((1 : Nat) : Int)) = 1
    rw [HT.sIx_nat]
    omega
  have h2 : HT.sIx (Sx (c :: r)).length (Sx (c :: r)).length none = r.length + 1 := rfl
  rw [h1, h2]
  simp
def CVals : List PD → Prop := fun ds => ∀ kvs, ds.getD 0 .none = .dict kvs → kvs.length ≤ 100000 ∧ ∀ q ∈ kvs, (∀ z, q.1 = .str z → z.length ≤ 100000) ∧ ∀ z, q.2 = .str z → z.length ≤ 100000
def valsP (LT FG SG : Str) : PD → Bool | .dict kvs => kvs.all fun q => nameP LT FG q.1 && textP SG q.2 | _ => false
theorem ok_is_values (B : Blt G.mg) (h1 : Has G "is_name" P_is_name 2 (PureN 1 CText (b1 (nameP LT FG)))) (h2 : Has G "is_text" P_is_text 2 (PureN 1 CText (b1 (textP SG)))) (F : Fun G.K "is_values" "is_values" s_is_values f fd) :
    FnG G 3 f fd P_is_values (SpD G.K G.Tb (PureN 1 CVals (b1 (valsP LT FG SG)))) := by
  refine fn_pure F sc_is_values rfl fun W Z ds hl hC => ?_
  match ds, hl, hC with
  | [d], _, hC =>
  walk_at "dw"
  cases d with
  | dict kvs =>
    obtain ⟨hl, hk⟩ := hC kvs rfl
    refine iteHF rfl ?_
    walk_at "dw"
    refine ev_ex (ex_lcItems (i := 0) [("name", 1), ("text", 2)] (fun i acc e => acc = (kvs.take i).map (fun q => .bool (nameP LT FG q.1 && textP SG q.2)) ∧ e = [.sh (.dict kvs), .no, .no]) rfl ⟨?_, ⟨rfl, rfl⟩, fun i acc e d hacc hI hd => ?_, fun acc e hacc hI p hp => ⟨_, rfl, ?_⟩⟩ (of_decide_eq_true (by kernel_rfl)) (by kernel_rfl) rfl (by walk_at "dwvis"))
    · unfold itemsP
      rw [List.length_map]
      exact hl
    · obtain ⟨rfl, rfl⟩ := hI
      unfold itemsP at hd
      rw [List.getElem?_map] at hd
      cases hc : kvs[i]? with
      | none => rw [hc] at hd; cases hd
      | some q =>
        rw [hc] at hd
        cases hd
        obtain ⟨hq1, hq2⟩ := hk q (List.mem_of_getElem? hc)
        refine tg_tup (tgs_cons (tg_name (i := 1) ?_ (by decide) rfl (of_decide_eq_true (by kernel_rfl)) (loc_of (by kernel_rfl)) (loc_of (by kernel_rfl)))) rfl (fun X g t h => pg_tup g.calm h)
        refine tgs_cons (tg_name (i := 2) ?_ (by decide) rfl (of_decide_eq_true (by kernel_rfl)) (loc_of (by kernel_rfl)) (loc_of (by kernel_rfl)))
        refine tgs_nil (ets_nil (iteT ?_))
        have fin : ∀ b, b = (nameP LT FG q.1 && textP SG q.2) → (List.map (fun q => PyData.bool (nameP LT FG q.1 && textP SG q.2)) (List.take i kvs) ++ [.bool b] = List.map (fun q => PyData.bool (nameP LT FG q.1 && textP SG q.2)) (List.take (i + 1) kvs)) := fun b hb => by
          rw [List.take_succ, hc, List.map_append, hb]
          rfl
        walk_at "dw"
        refine ⟨hq1, ?_⟩
        walk_at "dw"
        show if nameP LT FG q.1 = true then _ else _
        refine iteD (fun g => ?_) fun g => ?_
        · walk_at "dw"
          refine ⟨hq2, ?_⟩
          exact ⟨fin _ (by rw [g]; rfl), rfl⟩
        · exact ⟨fin _ (by rw [g]; rfl), rfl⟩
    · obtain ⟨rfl, rfl⟩ := hI
      walk_at "dw"
      have e : (OD.lst (List.map (fun q => PyData.bool (nameP LT FG q.1 && textP SG q.2)) (List.take (itemsP kvs).length kvs))).pd = .list ((kvs.map fun q => nameP LT FG q.1 && textP SG q.2).map .bool) := by
        unfold itemsP
        rw [List.length_map, List.take_of_length_le (Nat.le_refl _), List.map_map]
        rfl
      rw [e]
      walk_at "dw"
      refine retB ?_
      show _ = kvs.all _
      rw [List.all_map]
      rfl
  | _ =>
    walk_at "dw"
    rfl
theorem digs (hFG : ∀ c, decide (c ∈ FG.cps.toList) = dig c) (l : List Nat) : strOf (.str (Sx l)) FG = l.all dig := by
  unfold strOf
  show (Sx l).cps.toList.all _ = _
  have : (fun c => decide (c ∈ FG.cps.toList)) = dig := funext hFG
  rw [this]
theorem ok_number_of (B : Blt G.mg) (hF : GlobD G.mg G.K "FIGURES" (.str FG)) (hFG : ∀ c, decide (c ∈ FG.cps.toList) = dig c) (h1 : Has G "is_string_of" P_is_string_of 1 TStrOf) (F : Fun G.K "number_of" "number_of" s_number_of f fd) :
    FnG G 2 f fd P_number_of (SpD G.K G.Tb (PureN 1 (fun ds => ∃ l, ds = [.str (Sx l)] ∧ l.length ≤ 600) fun ds => numPD (numL (strAt (ds.getD 0 .none)).cps.toList))) := by
  refine fn_pure F sc_number_of rfl fun W Z ds hl hC => ?_
  obtain ⟨l, rfl, hl6⟩ := hC
  show SDs _ _ _ { nx := fun _ => numPD (numL l) = .none, rt := fun r _ => r.pd? = some (numPD (numL l)) }
  walk_at "dw"
  have hz : (Sx l).length ≤ 100000 := by show l.length ≤ 100000; omega
  cases l with
  | nil =>
    refine iteHT (by decide +kernel) ?_
    walk_at "dw"
    rfl
  | cons c r =>
    have hne : ∀ (x : Nat) (y : List Nat), Sx (x :: y) ≠ "" := fun x y z => by
      have : (Sx (x :: y)).cps.toList = (("" : Str)).cps.toList := by rw [z]
      rw [show (("" : Str)).cps.toList = [] by decide +kernel] at this
      cases this
    refine iteHF (decide_eq_false (hne c r)) ?_
    walk_at "dw"
    refine ev_startswith ?_
    walk_at "dw"
    rw [starts_minus]
    show if decide (c = 45) = true then _ else _
    have hl7 : r.length + 1 ≤ 600 := hl6
    by_cases h45 : c = 45
    · have eN : numL (c :: r) = if r ≠ [] ∧ r.all dig = true then some (-((NumText.digitsVal r : Nat) : Int)) else none := by
        show (if c = 45 then _ else _) = _
        rw [if_pos h45]
      rw [eN]
      refine iteHT (decide_eq_true h45) ?_
      refine ex_slice ?_
      walk_at "dw"
      refine ep_some ?_
      walk_at "dw"
      refine ep_none ⟨_, sd_str hz, ?_⟩
      walk_at "dw"
      rw [cut1]
      cases r with
      | nil =>
        refine iteHT (by decide +kernel) ?_
        refine iteHT rfl ?_
        walk_at "dw"
        rfl
      | cons c2 r2 =>
      refine iteHF (decide_eq_false (hne c2 r2)) ?_
      walk_at "dw"
      refine ⟨⟨fun z hz' => ?_, _, rfl⟩, ?_⟩
      · have hz' : PyData.str (Sx (c2 :: r2)) = .str z := hz'
        cases hz'
        show (c2 :: r2).length ≤ 100000
        omega
      walk_at "dw"
      show if (!strOf (.str (Sx (c2 :: r2))) FG) = true then _ else _
      rw [digs hFG]
      cases hd : (c2 :: r2).all dig with
      | false =>
        refine iteHT rfl ?_
        walk_at "dw"
        rw [if_neg (by simp)]
        rfl
      | true =>
        refine iteHF rfl ?_
        walk_at "dw"
        refine ev_startswith ?_
        walk_at "dw"
        rw [starts_minus]
        show if decide (c = 45) = true then _ else _
        refine iteHT (decide_eq_true h45) ?_
        walk_at "dw"
        refine ⟨_, cd_intS (SX.int_S hd (by simp) (by omega)) (by show (c2 :: r2).length ≤ 640; omega), ?_⟩
        walk_at "dw"
        refine ⟨_, ud_neg, _, rfl, ?_⟩
        show some (PyData.int _) = some (numPD _)
        rw [if_pos ⟨by simp, rfl⟩]
        rfl
    · have eN : numL (c :: r) = if (c :: r).all dig = true then some ((NumText.digitsVal (c :: r) : Nat) : Int) else none := by
        show (if c = 45 then _ else _) = _
        rw [if_neg h45]
      rw [eN]
      refine iteHF (decide_eq_false h45) ?_
      walk_at "dw"
      try refine iteHF (decide_eq_false (hne c r)) ?_
      walk_at "dw"
      refine ⟨⟨fun z hz' => ?_, _, rfl⟩, ?_⟩
      · have hz' : PyData.str (Sx (c :: r)) = .str z := hz'
        cases hz'
        show (c :: r).length ≤ 100000
        exact Nat.le_trans hl6 (by decide)
      walk_at "dw"
      show if (!strOf (.str (Sx (c :: r))) FG) = true then _ else _
      rw [digs hFG]
      cases hd : (c :: r).all dig with
      | false =>
        refine iteHT rfl ?_
        walk_at "dw"
        rw [if_neg (by simp)]
        rfl
      | true =>
        refine iteHF rfl ?_
        walk_at "dw"
        refine ev_startswith ?_
        walk_at "dw"
        rw [starts_minus]
        show if decide (c = 45) = true then _ else _
        refine iteHF (decide_eq_false h45) ?_
        walk_at "dw"
        refine ⟨_, cd_intS (SX.int_S hd (by simp) (by omega)) (by show (c :: r).length ≤ 640; omega), ?_⟩
        walk_at "dw"
        show some (PyData.int _) = some (numPD _)
        rw [if_pos rfl]
        rfl
end K8

namespace K8
open PySem PySem.Spec PyProof.Rows L2 Dw
local macro_rules | `(tactic| walk_at "dwvis") => `(tactic| exact vis_of (by kernel_rfl))
local macro_rules | `(tactic| walk_at "dwbin") => `(tactic| first
  | refine ⟨_, od_eqS, ?_⟩ | refine ⟨_, od_neS, ?_⟩ | refine ⟨_, od_add, ?_⟩ | refine ⟨_, od_sub, ?_⟩ | refine ⟨_, od_lt, ?_⟩ | refine ⟨_, od_le, ?_⟩ | refine ⟨_, od_gt, ?_⟩ | refine ⟨_, od_ge, ?_⟩ | refine ⟨_, od_eqI, ?_⟩ | refine ⟨_, od_eqB, ?_⟩ | refine ⟨_, od_neB, ?_⟩
  | refine ⟨_, od_isN, ?_⟩ | refine ⟨_, od_addS (by assumption), ?_⟩ | refine ⟨_, od_inT, ?_⟩ | refine ⟨_, od_notN, ?_⟩ | refine ⟨_, od_inSign, ?_⟩ | refine ⟨_, od_notInSign, ?_⟩)
local macro_rules | `(tactic| walk_at "dwcd") => `(tactic| first
  | refine ⟨_, cd_len (by assumption), ?_⟩ | refine ⟨_, cd_lenS (by assumption), ?_⟩ | refine ⟨_, cd_abs, ?_⟩ | refine ⟨_, cd_intI, ?_⟩ | refine ⟨_, cd_intB, ?_⟩ | refine ⟨_, cd_all, ?_⟩ | refine ⟨_, cd_any, ?_⟩ | refine ⟨_, cd_sum, ?_⟩)
local macro_rules | `(tactic| walk_at "dwname") => `(tactic| first
  | refine ev_name (i := 0) rfl ?_ rfl (by walk_at "dwvis") | refine ev_name (i := 1) rfl ?_ rfl (by walk_at "dwvis")
  | refine ev_name (i := 2) rfl ?_ rfl (by walk_at "dwvis") | refine ev_name (i := 3) rfl ?_ rfl (by walk_at "dwvis")
  | refine ev_name (i := 4) rfl ?_ rfl (by walk_at "dwvis") | refine ev_name (i := 5) rfl ?_ rfl (by walk_at "dwvis")
  | refine ev_globD (by assumption) ?_ (by kernel_rfl))
local macro_rules | `(tactic| walk_at "dwcall") => `(tactic| first
  | refine ev_callH (by assumption) (Nat.le_of_ble_eq_true rfl) ?_ (by kernel_rfl)
  | refine ev_ex (ex_callB (id := "len") (x := "len") ?_ (by kernel_rfl) (Blt.len (by assumption)) PySem.boot_len)
  | refine ev_isi2 (n1 := "list") (n2 := "tuple") (T1 := "list") (T2 := "tuple") ?_ (by decide) (by kernel_rfl) (Blt.isinstance (by assumption)) (by kernel_rfl) (Blt.list (by assumption)) PyProof.Rows.boot_list (by kernel_rfl) (Blt.tuple (by assumption)) PyProof.Rows.boot_tuple
  | refine ev_isi (n := "int") (T := "int") ?_ (by decide) (by kernel_rfl) (Blt.isinstance (by assumption)) (by kernel_rfl) (Blt.int (by assumption)) PyProof.Rows.boot_int
  | refine ev_isi (n := "bool") (T := "bool") ?_ (by decide) (by kernel_rfl) (Blt.isinstance (by assumption)) (by kernel_rfl) (Blt.bool (by assumption)) PyProof.Rows.boot_bool
  | refine ev_isi (n := "str") (T := "str") ?_ (by decide) (by kernel_rfl) (Blt.isinstance (by assumption)) (by kernel_rfl) (Blt.str (by assumption)) PyProof.Rows.boot_str
  | refine ev_isi (n := "dict") (T := "dict") ?_ (by decide) (by kernel_rfl) (Blt.isinstance (by assumption)) (by kernel_rfl) (Blt.dict (by assumption)) PyProof.Rows.boot_dict
  | refine ev_ex (ex_callB (id := "all") (x := "all") ?_ (by kernel_rfl) (Blt.all (by assumption)) PyProof.Rows.boot_all)
  | refine ev_ex (ex_callB (id := "any") (x := "any") ?_ (by kernel_rfl) (Blt.any (by assumption)) PyProof.Rows.boot_any)
  | refine ev_ex (ex_callB (id := "abs") (x := "abs") ?_ (by kernel_rfl) (Blt.abs (by assumption)) PyProof.Rows.boot_abs)
  | refine ev_ex (ex_callTy (T := "int") (x := "int") ?_ (by kernel_rfl) (Blt.int (by assumption)) PyProof.Rows.boot_int))
local macro_rules | `(tactic| walk_at "dwset") => `(tactic| first
  | refine sd_set (i := 0) ?_ rfl (of_decide_eq_true (by kernel_rfl)) (loc_of (by kernel_rfl)) (loc_of (by kernel_rfl)) | refine sd_set (i := 1) ?_ rfl (of_decide_eq_true (by kernel_rfl)) (loc_of (by kernel_rfl)) (loc_of (by kernel_rfl)) | refine sd_set (i := 2) ?_ rfl (of_decide_eq_true (by kernel_rfl)) (loc_of (by kernel_rfl)) (loc_of (by kernel_rfl)) | refine sd_set (i := 3) ?_ rfl (of_decide_eq_true (by kernel_rfl)) (loc_of (by kernel_rfl)) (loc_of (by kernel_rfl)) | refine sd_set (i := 4) ?_ rfl (of_decide_eq_true (by kernel_rfl)) (loc_of (by kernel_rfl)) (loc_of (by kernel_rfl)))
local macro_rules | `(tactic| walk_at "dwev") => `(tactic| first
  | (show EV _ (.Name _ _) _ _; walk_at "dwname")
  | (show EV _ (.Call _ _ _ _) _ _; walk_at "dwcall")
  | refine ev_int ?_ | refine ev_str ?_ | refine ev_ix ?_ | refine ev_tup ?_ | refine ev_ex (ex_cmp ?_) | refine ev_ex (ex_bin ?_)
  | refine ev_none ?_ | refine ev_bool ?_ | refine ev_and ?_ | refine ev_or ?_ | refine ev_one ?_ | refine ev_not ?_
  | refine ev_chain ?_ | refine ev_ex (ex_un ?_) | refine ev_ex (ex_ifExp ?_) | refine ev_ex (ex_lst ?_))
local macro_rules | `(tactic| walk_at "dw1") => `(tactic| first
  | (show SDs _ _ _ _; first | refine sds_cons ?_ | refine sds_nil ?_)
  | (show SD _ _ _ _; first | refine sd_ret ?_ | refine sd_if ?_ | walk_at "dwset")
  | (show EV _ _ _ _; walk_at "dwev")
  | (show EVs _ _ _ _; first | refine evs_nil ?_ | refine evs_cons ?_)
  | (show EX _ _ _ _; first | refine ex_ifExp ?_ | refine ex_lst ?_ | refine ex_ev ?_)
  | (show ET _ _ _ _; first | refine et_cmp ?_ | refine et_not ?_ | refine et_bo ?_ | refine et_val ?_)
  | (show EW _ _ _ _; first | refine ew_and ?_ | refine ew_or ?_ | refine ew_and1 ?_ | refine ew_or1 ?_)
  | (show ∃ d, IxD _ _ _ d ∧ _; first | refine ⟨_, ix_i (by first | rfl | assumption) (by first | exact atI0 | exact atI1 | exact atI2 | rfl | assumption), ?_⟩ | refine ⟨_, ix_s (by assumption) (by first | assumption | rfl), ?_⟩)
  | (show ∃ Qr, CallD _ _ _ Qr ∧ _; walk_at "dwcd")
  | (show ∃ Qr, BinD _ _ _ _ Qr ∧ _; walk_at "dwbin")
  | (show ∃ Qr, CmpD _ _ _ _ Qr ∧ _; walk_at "dwbin")
  | (show ∃ t, CmpD _ _ _ _ (· = .sh (.bool t)) ∧ _; walk_at "dwbin")
  | (show ∀ r, r = _ → _; intro r hr; subst hr) | refine fun (_ : ∀ (p : Addr) (o : OD), _ = Sl.own p o → _) => ?_
  | refine ⟨_, rfl, ?_⟩ | refine ⟨rfl, ?_⟩ | refine ⟨trivial, ?_⟩
  | refine ⟨Nat.le_of_ble_eq_true rfl, ?_⟩ | refine fun (_ : Addr) (_ : _ ∉ owns _) => ?_ | refine ⟨by decide, ?_⟩
  | refine iteHT rfl ?_ | refine iteHF rfl ?_)
local macro_rules | `(tactic| walk_at "dw") => `(tactic| repeat (walk_at "dw1"))
variable {G : Pg} {f : Addr} {fd : FuncData} {SG LT FG : Str}
def absI (i : Int) : Int := if i < 0 then -i else i
/-- parts toward nought -/
def twn (i j : Int) : Int := if decide (i < 0) = decide (j < 0) then absI i / absI j else -(absI i / absI j)
theorem absI_nat (i : Int) : absI i = i.natAbs := by unfold absI; split <;> omega
def fI (g : Int → Int → Int) : List PD → PD := fun ds => match ds with | [.int i, .int j] => .int (g i j) | _ => .none
def CTwn : List PD → Prop := fun ds => ∃ i j : Int, ds = [.int i, .int j] ∧ j ≠ 0 ∧ j.natAbs.log2 < 8000
theorem od_mulW {Γ : Gm} {i j : Int} (h : CMulW i j) : BinD Γ .Mult (.int i) (.int j) (· = .sh (.int (i * j))) := binD_of (fun X g => op_mulW) fun F H x y P _ rx ry k => ⟨i, j, rx, ry, h, k _ rfl⟩
theorem ok_toward_nought (B : Blt G.mg) (F : Fun G.K "toward_nought" "toward_nought" s_toward_nought f fd) : FnG G 1 f fd P_toward_nought (SpD G.K G.Tb (PureN 2 CTwn (fI twn))) := by
  refine fn_pure F sc_toward_nought rfl fun W Z ds hl hC => ?_
  obtain ⟨i, j, rfl, hj, hj2⟩ := hC
  walk_at "dw"
  have hd : CDivW (absI i) (absI j) := ⟨by rw [absI_nat]; omega, by rw [absI_nat, Int.natAbs_natCast]; omega⟩
  refine ⟨_, od_fdivW hd, ?_⟩
  walk_at "dw"
  refine iteD (fun g => ?_) fun g => ?_
  · walk_at "dw"
    show some (PyData.int _) = some (.int (twn i j))
    unfold twn
    rw [if_pos (of_decide_eq_true g)]
    rfl
  · refine ex_un ?_
    walk_at "dw"
    refine ⟨_, ud_neg, ?_⟩
    show some (PyData.int _) = some (.int (twn i j))
    unfold twn
    rw [if_neg (of_decide_eq_false g)]
    rfl
/-- two numbers joined -/
def joinI (w : Str) (i j : Int) : Int := if w = "+" then i + j else if w = "-" then i - j else if w = "*" then i * j else if w = "/" then twn i j else if w = "~" then i - twn i j * j else
  if w = "<" then (if decide (i < j) = true then 1 else 0) else if w = "<=" then (if decide (i ≤ j) = true then 1 else 0) else if decide (i = j) = true then 1 else 0
theorem twn_le (i j : Int) : (twn i j).natAbs ≤ i.natAbs := by
  have h : (absI i / absI j).natAbs ≤ i.natAbs := by
    rw [absI_nat, absI_nat]
    have : ((i.natAbs : Int) / (j.natAbs : Int)) = ((i.natAbs / j.natAbs : Nat) : Int) := by simp
    rw [this, Int.natAbs_natCast]
    exact Nat.div_le_self _ _
  unfold twn
  split
  · exact h
  · rw [Int.natAbs_neg]
    exact h
theorem log2_mono {a b : Nat} (h : a ≤ b) : a.log2 ≤ b.log2 := by
  by_cases ha : a = 0
  · subst ha; simp
  · exact (Nat.le_log2 (by omega)).mpr (Nat.le_trans (Nat.log2_self_le ha) h)
def CJoin : List PD → Prop := fun ds => ∃ (w : Str) (i j : Int), ds = [.str w, .int i, .int j] ∧ ((w = "/" ∨ w = "~") → j ≠ 0) ∧ i.natAbs.log2 < 8000 ∧ j.natAbs.log2 < 8000
def fJ : List PD → PD := fun ds => match ds with | [.str w, .int i, .int j] => .int (joinI w i j) | _ => .none
theorem ok_joined_numbers (B : Blt G.mg) (h1 : Has G "toward_nought" P_toward_nought 1 (PureN 2 CTwn (fI twn))) (F : Fun G.K "joined_numbers" "joined_numbers" s_joined_numbers f fd) : FnG G 2 f fd P_joined_numbers (SpD G.K G.Tb (PureN 3 CJoin fJ)) := by
  refine fn_pure F sc_joined_numbers rfl fun W Z ds hl hC => ?_
  obtain ⟨w, i, j, rfl, h0, hi, hj⟩ := hC
  show SDs _ _ _ { nx := fun _ => PyData.int (joinI w i j) = .none, rt := fun r _ => r.pd? = some (.int (joinI w i j)) }
  unfold joinI
  walk_at "dw"
  refine iteD (fun g => ?_) fun g => ?_ <;> (first | have g1 := of_decide_eq_true g | have g1 := of_decide_eq_false g)
  · rw [if_pos g1]
    walk_at "dw"
    rfl
  rw [if_neg g1]
  walk_at "dw"
  refine iteD (fun g => ?_) fun g => ?_ <;> (first | have g2 := of_decide_eq_true g | have g2 := of_decide_eq_false g)
  · rw [if_pos g2]
    walk_at "dw"
    rfl
  rw [if_neg g2]
  walk_at "dw"
  refine iteD (fun g => ?_) fun g => ?_ <;> (first | have g3 := of_decide_eq_true g | have g3 := of_decide_eq_false g)
  · rw [if_pos g3]
    walk_at "dw"
    refine ⟨_, od_mulW (by unfold CMulW; omega), ?_⟩
    walk_at "dw"
    rfl
  rw [if_neg g3]
  walk_at "dw"
  refine iteD (fun g => ?_) fun g => ?_ <;> (first | have g4 := of_decide_eq_true g | have g4 := of_decide_eq_false g)
  · rw [if_pos g4]
    walk_at "dw"
    refine ⟨⟨i, j, rfl, h0 (.inl g4), hj⟩, ?_⟩
    rfl
  rw [if_neg g4]
  walk_at "dw"
  refine iteD (fun g => ?_) fun g => ?_ <;> (first | have g5 := of_decide_eq_true g | have g5 := of_decide_eq_false g)
  · rw [if_pos g5]
    walk_at "dw"
    refine ⟨⟨i, j, rfl, h0 (.inr g5), hj⟩, ?_⟩
    walk_at "dw"
    show ∃ Qr, BinD _ _ (.int (twn i j)) (.int j) Qr ∧ _
    refine ⟨_, od_mulW (by have := log2_mono (twn_le i j); unfold CMulW; omega), ?_⟩
    walk_at "dw"
    rfl
  rw [if_neg g5]
  walk_at "dw"
  refine iteD (fun g => ?_) fun g => ?_ <;> (first | have g6 := of_decide_eq_true g | have g6 := of_decide_eq_false g)
  · rw [if_pos g6]
    walk_at "dw"
    refine iteD (fun q => ?_) fun q => ?_
    · rw [if_pos q]
      walk_at "dw"
      rfl
    · rw [if_neg (by rw [q]; decide)]
      walk_at "dw"
      rfl
  rw [if_neg g6]
  walk_at "dw"
  refine iteD (fun g => ?_) fun g => ?_ <;> (first | have g7 := of_decide_eq_true g | have g7 := of_decide_eq_false g)
  · rw [if_pos g7]
    walk_at "dw"
    refine iteD (fun q => ?_) fun q => ?_
    · rw [if_pos q]
      walk_at "dw"
      rfl
    · rw [if_neg (by rw [q]; decide)]
      walk_at "dw"
      rfl
  rw [if_neg g7]
  walk_at "dw"
  refine iteD (fun q => ?_) fun q => ?_
  · rw [if_pos q]
    walk_at "dw"
    rfl
  · rw [if_neg (by rw [q]; decide)]
    walk_at "dw"
    rfl
end K8

/-! K8j: sums as trees, their worth, the state of the machine that counts. -/
namespace K8
open PySem PySem.Spec PyProof.Rows L2 Dw
inductive Tm where
  | num (n : Int)
  | nam (z : Str)
  | less (a : Tm)
  | two (w : Str) (a b : Tm)
def Is : Tm → PD → Prop
  | .num n, d => items d = some [.str "number", .int n]
  | .nam z, d => items d = some [.str "name", .str z]
  | .less a, d => ∃ x, items d = some [.str "less", x] ∧ Is a x
  | .two w a b, d => ∃ x y, items d = some [.str w, x, y] ∧ Is a x ∧ Is b y
def Okt (nm : Str → Bool) (GR : Int) (TW : List Str) : Tm → Prop
  | .num n => 0 ≤ n ∧ n ≤ GR
  | .nam z => nm z = true
  | .less a => Okt nm GR TW a
  | .two w a b => (inStrs w TW = true ∧ w ≠ "number" ∧ w ≠ "name" ∧ w ≠ "less") ∧ Okt nm GR TW a ∧ Okt nm GR TW b
def sizeT : Tm → Nat
  | .num _ => 1
  | .nam _ => 1
  | .less a => 1 + sizeT a
  | .two _ a b => 1 + sizeT a + sizeT b
def lvT : Tm → Nat
  | .num _ => 1
  | .nam _ => 1
  | .less a => lvT a
  | .two _ a b => lvT a + lvT b
theorem lvT_pos : ∀ t : Tm, 1 ≤ lvT t
  | .num _ => Nat.le_refl _
  | .nam _ => Nat.le_refl _
  | .less a => lvT_pos a
  | .two _ a b => by
    have := lvT_pos a
    show 1 ≤ lvT a + lvT b
    omega
theorem sizeT_pos : ∀ t : Tm, 1 ≤ sizeT t
  | .num _ => Nat.le_refl _
  | .nam _ => Nat.le_refl _
  | .less a => by show 1 ≤ 1 + sizeT a; omega
  | .two _ a b => by show 1 ≤ 1 + sizeT a + sizeT b; omega
def badW (w : Str) (y : Int) : Bool := decide (y = 0) && inStrs w ["/", "~"]
abbrev Res := Except PD Int
def evT (N : Str → Option Int) : Tm → Res
  | .num n => .ok n
  | .nam z => match N z with | some n => .ok n | none => .error (.tuple [.str "number", .str z])
  | .less a => match evT N a with | .ok x => .ok (-x) | .error e => .error e
  | .two w a b => match evT N a with
    | .error e => .error e
    | .ok x => match evT N b with
      | .error e => .error e
      | .ok y => if badW w y = true then .error (.tuple [.str "nought"]) else .ok (joinI w x y)
def resPD : Res → PD
  | .ok n => .tuple [.str "number", .int n]
  | .error e => .tuple [.str "refused", e]
/-! ### how great -/
theorem joinI_lt {w : Str} {x y : Int} {a b : Nat} (ha : 1 ≤ a) (hb : 1 ≤ b) (hx : x.natAbs < 2 ^ a) (hy : y.natAbs < 2 ^ b) : (joinI w x y).natAbs < 2 ^ (a + b) := by
  have e : 2 ^ (a + b) = 2 ^ a * 2 ^ b := Nat.pow_add 2 a b
  have pa : 2 ≤ 2 ^ a := by
    calc 2 = 2 ^ 1 := rfl
      _ ≤ 2 ^ a := Nat.pow_le_pow_right (by decide) ha
  have pb : 2 ≤ 2 ^ b := by
    calc 2 = 2 ^ 1 := rfl
      _ ≤ 2 ^ b := Nat.pow_le_pow_right (by decide) hb
  have s : 2 ^ a + 2 ^ b ≤ 2 ^ a * 2 ^ b := by
    have h1 : 2 ^ a * 2 ≤ 2 ^ a * 2 ^ b := Nat.mul_le_mul_left _ pb
    have h2 : 2 * 2 ^ b ≤ 2 ^ a * 2 ^ b := Nat.mul_le_mul_right _ pa
    omega
  have m : 2 ^ a * 2 ≤ 2 ^ a * 2 ^ b := Nat.mul_le_mul_left _ pb
  have t := twn_le x y
  rw [e]
  unfold joinI
  repeat' split
  · omega
  · omega
  · rw [Int.natAbs_mul]
    by_cases h0 : y.natAbs = 0
    · rw [h0, Nat.mul_zero]
      omega
    · exact Nat.mul_lt_mul'' hx hy
  · omega
  · have k : (twn x y * y).natAbs ≤ x.natAbs := by
      rw [Int.natAbs_mul]
      have h : (twn x y).natAbs = x.natAbs / y.natAbs := by
        have q : (absI x / absI y).natAbs = x.natAbs / y.natAbs := by
          rw [absI_nat, absI_nat]
          have : ((x.natAbs : Int) / (y.natAbs : Int)) = ((x.natAbs / y.natAbs : Nat) : Int) := by simp
          rw [this, Int.natAbs_natCast]
        unfold twn
        split
        · exact q
        · rw [Int.natAbs_neg]
          exact q
      rw [h]
      exact Nat.div_mul_le_self _ _
    omega
  all_goals (first | (show (1 : Int).natAbs < _; simp; omega) | (show (0 : Int).natAbs < _; simp; omega))
theorem evT_lt {N : Str → Option Int} {GR : Int} {nm : Str → Bool} {TW : List Str} (hG : GR < 2 ^ 100) (hN : ∀ z n, N z = some n → n.natAbs < 2 ^ 250) : ∀ {t : Tm} {v : Int}, Okt nm GR TW t → evT N t = .ok v → v.natAbs < 2 ^ (250 * lvT t)
  | .num m, v, h, e => by
    have e : m = v := by injection e
    rw [← e]
    have h1 : m ≤ GR := h.2
    have h2 : 0 ≤ m := h.1
    have : m.natAbs < 2 ^ 100 := by omega
    exact Nat.lt_of_lt_of_le this (Nat.pow_le_pow_right (by decide) (by show 100 ≤ 250 * 1; decide))
  | .nam z, v, h, e => by
    unfold evT at e
    cases hz : N z with
    | none => rw [hz] at e; cases e
    | some n =>
      rw [hz] at e
      cases e
      exact hN z _ hz
  | .less a, v, h, e => by
    unfold evT at e
    cases ha : evT N a with
    | error _ => rw [ha] at e; cases e
    | ok x =>
      rw [ha] at e
      cases e
      rw [Int.natAbs_neg]
      exact evT_lt hG hN (t := a) h ha
  | .two w a b, v, h, e => by
    unfold evT at e
    cases ha : evT N a with
    | error _ => rw [ha] at e; cases e
    | ok x =>
      cases hb : evT N b with
      | error _ => rw [ha, hb] at e; cases e
      | ok y =>
        rw [ha, hb] at e
        have e : (if badW w y = true then (.error (.tuple [.str "nought"]) : Res) else .ok (joinI w x y)) = .ok v := e
        by_cases hw : badW w y = true
        · rw [if_pos hw] at e; cases e
        · rw [if_neg hw] at e
          cases e
          have l1 := lvT_pos a
          have l2 := lvT_pos b
          have h1 := evT_lt hG hN (t := a) h.2.1 ha
          have h2 := evT_lt hG hN (t := b) h.2.2 hb
          have := joinI_lt (w := w) (by omega) (by omega) h1 h2
          rw [show 250 * lvT (.two w a b) = 250 * lvT a + 250 * lvT b from by show 250 * (lvT a + lvT b) = _; omega]
          exact this
theorem log2_of {x : Nat} {n : Nat} (h : x < 2 ^ n) (hn : n ≤ 7000) : x.log2 < 8000 := by
  by_cases h0 : x = 0
  · subst h0; decide
  · have := (Nat.log2_lt h0).mpr h
    omega
/-! ### the machine: waiting (the next one first), numbers (the last one first), what it ends with -/
def R (N : Str → Option Int) : List (Tm × Bool) → List Int → Res → Prop
  | [], ns, r => ∃ v, ns = [v] ∧ r = .ok v
  | (t, false) :: ws, ns, r => match evT N t with | .error e => r = .error e | .ok v => R N ws (v :: ns) r
  | (.less a, true) :: ws, ns, r => ∃ x ns', ns = x :: ns' ∧ evT N a = .ok x ∧ R N ws (-x :: ns') r
  | (.two w a b, true) :: ws, ns, r => ∃ y x ns', ns = y :: x :: ns' ∧ evT N a = .ok x ∧ evT N b = .ok y ∧ if badW w y = true then r = .error (.tuple [.str "nought"]) else R N ws (joinI w x y :: ns') r
  | _, _, _ => False
def wtE : Tm × Bool → Nat
  | (t, false) => 2 * sizeT t
  | (_, true) => 1
def wtL (ws : List (Tm × Bool)) : Nat := (ws.map wtE).sum
theorem R_start {N : Str → Option Int} (t : Tm) : R N [(t, false)] [] (evT N t) := by
  unfold R
  split
  · rename_i e h; exact h
  · rename_i v h
    unfold R
    exact ⟨v, rfl, h⟩
theorem R_less {N : Str → Option Int} {a : Tm} {ws : List (Tm × Bool)} {ns : List Int} {r : Res} (h : R N ((.less a, false) :: ws) ns r) : R N ((a, false) :: (.less a, true) :: ws) ns r := by
  unfold R at h ⊢
  unfold evT at h
  cases ha : evT N a with
  | error e => rw [ha] at h; exact h
  | ok x =>
    rw [ha] at h
    show R N ((.less a, true) :: ws) (x :: ns) r
    unfold R
    exact ⟨x, ns, rfl, ha, h⟩
theorem R_two {N : Str → Option Int} {w : Str} {a b : Tm} {ws : List (Tm × Bool)} {ns : List Int} {r : Res} (h : R N ((.two w a b, false) :: ws) ns r) : R N ((a, false) :: (b, false) :: (.two w a b, true) :: ws) ns r := by
  unfold R at h ⊢
  unfold evT at h
  cases ha : evT N a with
  | error e => rw [ha] at h; exact h
  | ok x =>
    rw [ha] at h
    show R N ((b, false) :: (.two w a b, true) :: ws) (x :: ns) r
    unfold R
    cases hb : evT N b with
    | error e => rw [hb] at h; exact h
    | ok y =>
      rw [hb] at h
      show R N ((.two w a b, true) :: ws) (y :: x :: ns) r
      unfold R
      refine ⟨y, x, ns, rfl, ha, hb, ?_⟩
      have h : (match (if badW w y = true then (.error (.tuple [.str "nought"]) : Res) else .ok (joinI w x y)) with | .error e => r = .error e | .ok v => R N ws (v :: ns) r) := h
      by_cases hw : badW w y = true
      · rw [if_pos hw] at h ⊢
        exact h
      · rw [if_neg hw] at h ⊢
        exact h
end K8

namespace K8
open PySem PySem.Spec PyProof.Rows L2 Dw
local macro_rules | `(tactic| walk_at "dwvis") => `(tactic| exact vis_of (by kernel_rfl))
local macro_rules | `(tactic| walk_at "dwbin") => `(tactic| first
  | refine ⟨_, od_eqS, ?_⟩ | refine ⟨_, od_neS, ?_⟩ | refine ⟨_, od_add, ?_⟩ | refine ⟨_, od_sub, ?_⟩ | refine ⟨_, od_lt, ?_⟩ | refine ⟨_, od_le, ?_⟩ | refine ⟨_, od_gt, ?_⟩ | refine ⟨_, od_ge, ?_⟩ | refine ⟨_, od_eqI, ?_⟩ | refine ⟨_, od_eqB, ?_⟩ | refine ⟨_, od_neB, ?_⟩
  | refine ⟨_, od_isN, ?_⟩ | refine ⟨_, od_addS (by assumption), ?_⟩ | refine ⟨_, od_inT, ?_⟩ | refine ⟨_, od_notN, ?_⟩ | refine ⟨_, od_inSign, ?_⟩ | refine ⟨_, od_notInSign, ?_⟩)
local macro_rules | `(tactic| walk_at "dwcd") => `(tactic| first
  | refine ⟨_, cd_len (by assumption), ?_⟩ | refine ⟨_, cd_lenS (by assumption), ?_⟩ | refine ⟨_, cd_abs, ?_⟩ | refine ⟨_, cd_intI, ?_⟩ | refine ⟨_, cd_intB, ?_⟩ | refine ⟨_, cd_all, ?_⟩ | refine ⟨_, cd_any, ?_⟩ | refine ⟨_, cd_sum, ?_⟩)
local macro_rules | `(tactic| walk_at "dwname") => `(tactic| first
  | refine ev_name (i := 0) rfl ?_ rfl (by walk_at "dwvis") | refine ev_name (i := 1) rfl ?_ rfl (by walk_at "dwvis")
  | refine ev_name (i := 2) rfl ?_ rfl (by walk_at "dwvis") | refine ev_name (i := 3) rfl ?_ rfl (by walk_at "dwvis")
  | refine ev_name (i := 4) rfl ?_ rfl (by walk_at "dwvis") | refine ev_name (i := 5) rfl ?_ rfl (by walk_at "dwvis")
  | refine ev_globD (by assumption) ?_ (by kernel_rfl))
local macro_rules | `(tactic| walk_at "dwcall") => `(tactic| first
  | refine ev_callH (by assumption) (Nat.le_of_ble_eq_true rfl) ?_ (by kernel_rfl)
  | refine ev_ex (ex_callB (id := "len") (x := "len") ?_ (by kernel_rfl) (Blt.len (by assumption)) PySem.boot_len)
  | refine ev_isi2 (n1 := "list") (n2 := "tuple") (T1 := "list") (T2 := "tuple") ?_ (by decide) (by kernel_rfl) (Blt.isinstance (by assumption)) (by kernel_rfl) (Blt.list (by assumption)) PyProof.Rows.boot_list (by kernel_rfl) (Blt.tuple (by assumption)) PyProof.Rows.boot_tuple
  | refine ev_isi (n := "int") (T := "int") ?_ (by decide) (by kernel_rfl) (Blt.isinstance (by assumption)) (by kernel_rfl) (Blt.int (by assumption)) PyProof.Rows.boot_int
  | refine ev_isi (n := "bool") (T := "bool") ?_ (by decide) (by kernel_rfl) (Blt.isinstance (by assumption)) (by kernel_rfl) (Blt.bool (by assumption)) PyProof.Rows.boot_bool
  | refine ev_isi (n := "str") (T := "str") ?_ (by decide) (by kernel_rfl) (Blt.isinstance (by assumption)) (by kernel_rfl) (Blt.str (by assumption)) PyProof.Rows.boot_str
  | refine ev_isi (n := "dict") (T := "dict") ?_ (by decide) (by kernel_rfl) (Blt.isinstance (by assumption)) (by kernel_rfl) (Blt.dict (by assumption)) PyProof.Rows.boot_dict
  | refine ev_ex (ex_callB (id := "all") (x := "all") ?_ (by kernel_rfl) (Blt.all (by assumption)) PyProof.Rows.boot_all)
  | refine ev_ex (ex_callB (id := "any") (x := "any") ?_ (by kernel_rfl) (Blt.any (by assumption)) PyProof.Rows.boot_any)
  | refine ev_ex (ex_callB (id := "abs") (x := "abs") ?_ (by kernel_rfl) (Blt.abs (by assumption)) PyProof.Rows.boot_abs)
  | refine ev_ex (ex_callTy (T := "int") (x := "int") ?_ (by kernel_rfl) (Blt.int (by assumption)) PyProof.Rows.boot_int))
local macro_rules | `(tactic| walk_at "dwset") => `(tactic| first
  | refine sd_set (i := 0) ?_ rfl (of_decide_eq_true (by kernel_rfl)) (loc_of (by kernel_rfl)) (loc_of (by kernel_rfl)) | refine sd_set (i := 1) ?_ rfl (of_decide_eq_true (by kernel_rfl)) (loc_of (by kernel_rfl)) (loc_of (by kernel_rfl)) | refine sd_set (i := 2) ?_ rfl (of_decide_eq_true (by kernel_rfl)) (loc_of (by kernel_rfl)) (loc_of (by kernel_rfl)) | refine sd_set (i := 3) ?_ rfl (of_decide_eq_true (by kernel_rfl)) (loc_of (by kernel_rfl)) (loc_of (by kernel_rfl)) | refine sd_set (i := 4) ?_ rfl (of_decide_eq_true (by kernel_rfl)) (loc_of (by kernel_rfl)) (loc_of (by kernel_rfl)))
local macro_rules | `(tactic| walk_at "dwev") => `(tactic| first
  | (show EV _ (.Name _ _) _ _; walk_at "dwname")
  | (show EV _ (.Call _ _ _ _) _ _; walk_at "dwcall")
  | refine ev_int ?_ | refine ev_str ?_ | refine ev_ix ?_ | refine ev_tup ?_ | refine ev_ex (ex_cmp ?_) | refine ev_ex (ex_bin ?_)
  | refine ev_none ?_ | refine ev_bool ?_ | refine ev_and ?_ | refine ev_or ?_ | refine ev_one ?_ | refine ev_not ?_
  | refine ev_chain ?_ | refine ev_ex (ex_un ?_) | refine ev_ex (ex_ifExp ?_) | refine ev_ex (ex_lst ?_))
local macro_rules | `(tactic| walk_at "dw1") => `(tactic| first
  | (show SDs _ _ _ _; first | refine sds_cons ?_ | refine sds_nil ?_)
  | (show SD _ _ _ _; first | refine sd_ret ?_ | refine sd_if ?_ | walk_at "dwset")
  | (show EV _ _ _ _; walk_at "dwev")
  | (show EVs _ _ _ _; first | refine evs_nil ?_ | refine evs_cons ?_)
  | (show EX _ _ _ _; first | refine ex_ifExp ?_ | refine ex_lst ?_ | refine ex_ev ?_)
  | (show ET _ _ _ _; first | refine et_cmp ?_ | refine et_not ?_ | refine et_bo ?_ | refine et_val ?_)
  | (show EW _ _ _ _; first | refine ew_and ?_ | refine ew_or ?_ | refine ew_and1 ?_ | refine ew_or1 ?_)
  | (show ∃ d, IxD _ _ _ d ∧ _; first | refine ⟨_, ix_i (by first | rfl | assumption) (by first | exact atI0 | exact atI1 | exact atI2 | rfl | assumption), ?_⟩ | refine ⟨_, ix_s (by assumption) (by first | assumption | rfl), ?_⟩)
  | (show ∃ Qr, CallD _ _ _ Qr ∧ _; walk_at "dwcd")
  | (show ∃ Qr, BinD _ _ _ _ Qr ∧ _; walk_at "dwbin")
  | (show ∃ Qr, CmpD _ _ _ _ Qr ∧ _; walk_at "dwbin")
  | (show ∃ t, CmpD _ _ _ _ (· = .sh (.bool t)) ∧ _; walk_at "dwbin")
  | (show ∀ r, r = _ → _; intro r hr; subst hr) | refine fun (_ : ∀ (p : Addr) (o : OD), _ = Sl.own p o → _) => ?_
  | refine ⟨_, rfl, ?_⟩ | refine ⟨rfl, ?_⟩ | refine ⟨trivial, ?_⟩
  | refine ⟨Nat.le_of_ble_eq_true rfl, ?_⟩ | refine fun (_ : Addr) (_ : _ ∉ owns _) => ?_ | refine ⟨by decide, ?_⟩
  | refine iteHT rfl ?_ | refine iteHF rfl ?_)
local macro_rules | `(tactic| walk_at "dw") => `(tactic| repeat (walk_at "dw1"))
variable {G : Pg} {f : Addr} {fd : FuncData} {SG LT FG : Str} {GR : Int} {TW : List Str}
/-- what stands beside a name, as signs -/
def txtH (kvs : List (PD × PD)) (z : Str) : List Nat := match lookK kvs (.inr z) with | some (.str x) => x.cps.toList | _ => []
def numH (kvs : List (PD × PD)) (z : Str) : Option Int := numL (txtH kvs z)
def OkH (kvs : List (PD × PD)) : Prop := ∀ q ∈ kvs, ∃ l : List Nat, q.2 = .str (Sx l) ∧ l.length ≤ 70
theorem look_txt {kvs : List (PD × PD)} (h : OkH kvs) (z : Str) : ((lookK kvs (.inr z)).getD (.str "")) = .str (Sx (txtH kvs z)) ∧ (txtH kvs z).length ≤ 70 := by
  have key : ∀ (kvs : List (PD × PD)), OkH kvs → ∀ d, lookK kvs (.inr z) = some d → ∃ l : List Nat, d = .str (Sx l) ∧ l.length ≤ 70 := by
    intro kvs
    induction kvs with
    | nil => intro _ d e; cases e
    | cons q kvs ih =>
      intro h d e
      unfold lookK at e
      by_cases hq : keyD q.1 = some (.inr z)
      · rw [if_pos hq] at e
        cases e
        exact h q List.mem_cons_self
      · rw [if_neg hq] at e
        exact ih (fun r hr => h r (List.mem_cons_of_mem _ hr)) d e
  unfold txtH
  cases hl : lookK kvs (.inr z) with
  | none => exact ⟨by show PyData.str "" = .str (Sx []); rw [show ("" : Str) = Sx [] by decide +kernel], Nat.zero_le _⟩
  | some d =>
    obtain ⟨l, rfl, h2⟩ := key kvs h d hl
    exact ⟨rfl, h2⟩
/-- an entry that waits: its tree, its data, whether its parts are done -/
structure En where
  t : Tm
  d : PD
  b : Bool
def enP (e : En) : PD := .tuple [e.d, .bool e.b]
def enT (e : En) : Tm × Bool := (e.t, e.b)
def CCnt (nm : Str → Bool) (GR : Int) (TW : List Str) : List PD → Prop := fun ds => ∃ t d kvs, ds = [d, .dict kvs] ∧ Is t d ∧ Okt nm GR TW t ∧ OkH kvs ∧ lvT t ≤ 20 ∧ sizeT t ≤ 1000
/-- what counting a sum tells -/
def cntR (ds : List PD) (r : PD) : Prop := ∀ t d kvs, ds = [d, .dict kvs] → Is t d → r = resPD (evT (numH kvs) t)
theorem lastP {es : List En} {e : En} : (((e :: es).reverse.map enP)[((e :: es).reverse.map enP).length - 1]?) = some (enP e) := by
  rw [List.map_reverse, List.map_cons, List.reverse_cons, List.length_append]
  simp
theorem dropP {es : List En} {e : En} : ((e :: es).reverse.map enP).dropLast = es.reverse.map enP := by
  rw [List.map_reverse, List.map_cons, List.reverse_cons, List.dropLast_concat, List.map_reverse]
end K8

namespace K8
open PySem PySem.Spec PyProof.Rows L2 Dw
local macro_rules | `(tactic| walk_at "dwvis") => `(tactic| exact vis_of (by kernel_rfl))
local macro_rules | `(tactic| walk_at "dwbin") => `(tactic| first
  | refine ⟨_, od_eqS, ?_⟩ | refine ⟨_, od_neS, ?_⟩ | refine ⟨_, od_add, ?_⟩ | refine ⟨_, od_sub, ?_⟩ | refine ⟨_, od_lt, ?_⟩ | refine ⟨_, od_le, ?_⟩ | refine ⟨_, od_gt, ?_⟩ | refine ⟨_, od_ge, ?_⟩ | refine ⟨_, od_eqI, ?_⟩ | refine ⟨_, od_eqB, ?_⟩ | refine ⟨_, od_neB, ?_⟩
  | refine ⟨_, od_isN, ?_⟩ | refine ⟨_, od_addS (by assumption), ?_⟩ | refine ⟨_, od_inT, ?_⟩ | refine ⟨_, od_notN, ?_⟩ | refine ⟨_, od_inSign, ?_⟩ | refine ⟨_, od_notInSign, ?_⟩)
local macro_rules | `(tactic| walk_at "dwcd") => `(tactic| first
  | refine ⟨_, cd_len (by assumption), ?_⟩ | refine ⟨_, cd_lenS (by assumption), ?_⟩ | refine ⟨_, cd_abs, ?_⟩ | refine ⟨_, cd_intI, ?_⟩ | refine ⟨_, cd_intB, ?_⟩ | refine ⟨_, cd_all, ?_⟩ | refine ⟨_, cd_any, ?_⟩ | refine ⟨_, cd_sum, ?_⟩)
local macro_rules | `(tactic| walk_at "dwname") => `(tactic| first
  | refine ev_name (i := 0) rfl ?_ rfl (by walk_at "dwvis") | refine ev_name (i := 1) rfl ?_ rfl (by walk_at "dwvis")
  | refine ev_name (i := 2) rfl ?_ rfl (by walk_at "dwvis") | refine ev_name (i := 3) rfl ?_ rfl (by walk_at "dwvis")
  | refine ev_name (i := 4) rfl ?_ rfl (by walk_at "dwvis") | refine ev_name (i := 5) rfl ?_ rfl (by walk_at "dwvis") | refine ev_name (i := 6) rfl ?_ rfl (by walk_at "dwvis") | refine ev_name (i := 7) rfl ?_ rfl (by walk_at "dwvis") | refine ev_name (i := 8) rfl ?_ rfl (by walk_at "dwvis") | refine ev_name (i := 9) rfl ?_ rfl (by walk_at "dwvis") | refine ev_name (i := 10) rfl ?_ rfl (by walk_at "dwvis") | refine ev_name (i := 11) rfl ?_ rfl (by walk_at "dwvis")
  | refine ev_globD (by assumption) ?_ (by kernel_rfl))
local macro_rules | `(tactic| walk_at "dwcall") => `(tactic| first
  | refine ev_callH (by assumption) (Nat.le_of_ble_eq_true rfl) ?_ (by kernel_rfl)
  | refine ev_ex (ex_callB (id := "len") (x := "len") ?_ (by kernel_rfl) (Blt.len (by assumption)) PySem.boot_len)
  | refine ev_isi2 (n1 := "list") (n2 := "tuple") (T1 := "list") (T2 := "tuple") ?_ (by decide) (by kernel_rfl) (Blt.isinstance (by assumption)) (by kernel_rfl) (Blt.list (by assumption)) PyProof.Rows.boot_list (by kernel_rfl) (Blt.tuple (by assumption)) PyProof.Rows.boot_tuple
  | refine ev_isi (n := "int") (T := "int") ?_ (by decide) (by kernel_rfl) (Blt.isinstance (by assumption)) (by kernel_rfl) (Blt.int (by assumption)) PyProof.Rows.boot_int
  | refine ev_isi (n := "bool") (T := "bool") ?_ (by decide) (by kernel_rfl) (Blt.isinstance (by assumption)) (by kernel_rfl) (Blt.bool (by assumption)) PyProof.Rows.boot_bool
  | refine ev_isi (n := "str") (T := "str") ?_ (by decide) (by kernel_rfl) (Blt.isinstance (by assumption)) (by kernel_rfl) (Blt.str (by assumption)) PyProof.Rows.boot_str
  | refine ev_isi (n := "dict") (T := "dict") ?_ (by decide) (by kernel_rfl) (Blt.isinstance (by assumption)) (by kernel_rfl) (Blt.dict (by assumption)) PyProof.Rows.boot_dict
  | refine ev_ex (ex_callB (id := "all") (x := "all") ?_ (by kernel_rfl) (Blt.all (by assumption)) PyProof.Rows.boot_all)
  | refine ev_ex (ex_callB (id := "any") (x := "any") ?_ (by kernel_rfl) (Blt.any (by assumption)) PyProof.Rows.boot_any)
  | refine ev_ex (ex_callB (id := "abs") (x := "abs") ?_ (by kernel_rfl) (Blt.abs (by assumption)) PyProof.Rows.boot_abs)
  | refine ev_ex (ex_callTy (T := "int") (x := "int") ?_ (by kernel_rfl) (Blt.int (by assumption)) PyProof.Rows.boot_int))
local macro_rules | `(tactic| walk_at "dwset") => `(tactic| first
  | refine sd_set (i := 0) ?_ rfl (of_decide_eq_true (by kernel_rfl)) (loc_of (by kernel_rfl)) (loc_of (by kernel_rfl)) | refine sd_set (i := 1) ?_ rfl (of_decide_eq_true (by kernel_rfl)) (loc_of (by kernel_rfl)) (loc_of (by kernel_rfl)) | refine sd_set (i := 2) ?_ rfl (of_decide_eq_true (by kernel_rfl)) (loc_of (by kernel_rfl)) (loc_of (by kernel_rfl)) | refine sd_set (i := 3) ?_ rfl (of_decide_eq_true (by kernel_rfl)) (loc_of (by kernel_rfl)) (loc_of (by kernel_rfl)) | refine sd_set (i := 4) ?_ rfl (of_decide_eq_true (by kernel_rfl)) (loc_of (by kernel_rfl)) (loc_of (by kernel_rfl)) | refine sd_set (i := 5) ?_ rfl (of_decide_eq_true (by kernel_rfl)) (loc_of (by kernel_rfl)) (loc_of (by kernel_rfl)) | refine sd_set (i := 6) ?_ rfl (of_decide_eq_true (by kernel_rfl)) (loc_of (by kernel_rfl)) (loc_of (by kernel_rfl)) | refine sd_set (i := 7) ?_ rfl (of_decide_eq_true (by kernel_rfl)) (loc_of (by kernel_rfl)) (loc_of (by kernel_rfl)) | refine sd_set (i := 8) ?_ rfl (of_decide_eq_true (by kernel_rfl)) (loc_of (by kernel_rfl)) (loc_of (by kernel_rfl)) | refine sd_set (i := 9) ?_ rfl (of_decide_eq_true (by kernel_rfl)) (loc_of (by kernel_rfl)) (loc_of (by kernel_rfl)) | refine sd_set (i := 10) ?_ rfl (of_decide_eq_true (by kernel_rfl)) (loc_of (by kernel_rfl)) (loc_of (by kernel_rfl)) | refine sd_set (i := 11) ?_ rfl (of_decide_eq_true (by kernel_rfl)) (loc_of (by kernel_rfl)) (loc_of (by kernel_rfl)))
local macro_rules | `(tactic| walk_at "dwev") => `(tactic| first
  | (show EV _ (.Name _ _) _ _; walk_at "dwname")
  | (show EV _ (.Call _ _ _ _) _ _; walk_at "dwcall")
  | refine ev_int ?_ | refine ev_str ?_ | refine ev_ix ?_ | refine ev_tup ?_ | refine ev_ex (ex_cmp ?_) | refine ev_ex (ex_bin ?_)
  | refine ev_none ?_ | refine ev_bool ?_ | refine ev_and ?_ | refine ev_or ?_ | refine ev_one ?_ | refine ev_not ?_
  | refine ev_chain ?_ | refine ev_ex (ex_un ?_) | refine ev_ex (ex_ifExp ?_) | refine ev_ex (ex_lst ?_))
local macro_rules | `(tactic| walk_at "dw1") => `(tactic| first
  | (show SDs _ _ _ _; first | refine sds_cons ?_ | refine sds_nil ?_)
  | (show SD _ _ _ _; first | refine sd_ret ?_ | refine sd_if ?_ | walk_at "dwset")
  | (show EV _ _ _ _; walk_at "dwev")
  | (show EVs _ _ _ _; first | refine evs_nil ?_ | refine evs_cons ?_)
  | (show EX _ _ _ _; first | refine ex_ifExp ?_ | refine ex_lst ?_ | refine ex_ev ?_)
  | (show ET _ _ _ _; first | refine et_cmp ?_ | refine et_not ?_ | refine et_bo ?_ | refine et_val ?_)
  | (show EW _ _ _ _; first | refine ew_and ?_ | refine ew_or ?_ | refine ew_and1 ?_ | refine ew_or1 ?_)
  | (show ∃ d, IxD _ _ _ d ∧ _; first | refine ⟨_, ix_i (by first | rfl | assumption) (by first | exact atI0 | exact atI1 | exact atI2 | rfl | assumption), ?_⟩ | refine ⟨_, ix_s (by assumption) (by first | assumption | rfl), ?_⟩)
  | (show ∃ Qr, CallD _ _ _ Qr ∧ _; walk_at "dwcd")
  | (show ∃ Qr, BinD _ _ _ _ Qr ∧ _; walk_at "dwbin")
  | (show ∃ Qr, CmpD _ _ _ _ Qr ∧ _; walk_at "dwbin")
  | (show ∃ t, CmpD _ _ _ _ (· = .sh (.bool t)) ∧ _; walk_at "dwbin")
  | (show ∀ r, r = _ → _; intro r hr; subst hr) | refine fun (_ : ∀ (p : Addr) (o : OD), _ = Sl.own p o → _) => ?_
  | refine ⟨_, rfl, ?_⟩ | refine ⟨rfl, ?_⟩ | refine ⟨trivial, ?_⟩
  | refine ⟨Nat.le_of_ble_eq_true rfl, ?_⟩ | refine fun (_ : Addr) (_ : _ ∉ owns _) => ?_ | refine ⟨by decide, ?_⟩
  | refine iteHT rfl ?_ | refine iteHF rfl ?_)
local macro_rules | `(tactic| walk_at "dw") => `(tactic| repeat (walk_at "dw1"))
variable {G : Pg} {f : Addr} {fd : FuncData} {SG LT FG : Str} {GR : Int} {TW : List Str} {nm : Str → Bool}
theorem Is_uniq : ∀ {t t' : Tm} {d : PD}, Is t d → Is t' d → t = t' := by
  intro t
  induction t with
  | num n =>
    intro t' d h h'
    cases t' with
    | num m => have := h.symm.trans h'; injection this with e; injection e with _ e; injection e with e _; injection e with e; rw [e]
    | nam z => have := h.symm.trans h'; injection this with e; injection e with _ e; injection e with e _; cases e
    | less a =>
      obtain ⟨x, h1, _⟩ := h'
      have := h.symm.trans h1
      injection this with e; injection e with e _; injection e with e
      exact absurd e (by decide +kernel)
    | two w a b =>
      obtain ⟨x, y, h1, _⟩ := h'
      have := h.symm.trans h1
      injection this with e; injection e with _ e; injection e with _ e; cases e
  | nam z =>
    intro t' d h h'
    cases t' with
    | num m => have := h.symm.trans h'; injection this with e; injection e with _ e; injection e with e _; cases e
    | nam z => have := h.symm.trans h'; injection this with e; injection e with _ e; injection e with e _; injection e with e; rw [e]
    | less a =>
      obtain ⟨x, h1, _⟩ := h'
      have := h.symm.trans h1
      injection this with e; injection e with e _; injection e with e
      exact absurd e (by decide +kernel)
    | two w a b =>
      obtain ⟨x, y, h1, _⟩ := h'
      have := h.symm.trans h1
      injection this with e; injection e with _ e; injection e with _ e; cases e
  | less a ih =>
    intro t' d h h'
    obtain ⟨x, h1, h2⟩ := h
    cases t' with
    | num m =>
      have := h1.symm.trans h'
      injection this with e; injection e with e _; injection e with e
      exact absurd e (by decide +kernel)
    | nam m =>
      have := h1.symm.trans h'
      injection this with e; injection e with e _; injection e with e
      exact absurd e (by decide +kernel)
    | less a' =>
      obtain ⟨x', h3, h4⟩ := h'
      have := h1.symm.trans h3
      injection this with e; injection e with _ e; injection e with e _
      subst e
      rw [ih h2 h4]
    | two w a' b =>
      obtain ⟨x', y', h3, _⟩ := h'
      have := h1.symm.trans h3
      injection this with e; injection e with _ e; injection e with _ e; cases e
  | two w a b iha ihb =>
    intro t' d h h'
    obtain ⟨x, y, h1, h2, h3⟩ := h
    cases t' with
    | num m =>
      have := h1.symm.trans h'
      injection this with e; injection e with _ e; injection e with _ e; cases e
    | nam m =>
      have := h1.symm.trans h'
      injection this with e; injection e with _ e; injection e with _ e; cases e
    | less a' =>
      obtain ⟨x', h4, _⟩ := h'
      have := h1.symm.trans h4
      injection this with e; injection e with _ e; injection e with _ e; cases e
    | two w' a' b' =>
      obtain ⟨x', y', h4, h5, h6⟩ := h'
      have := h1.symm.trans h4
      injection this with e; injection e with e0 e; injection e0 with e0; injection e with e1 e; injection e with e2 _
      subst e0 e1 e2
      rw [iha h2 h5, ihb h3 h6]
open Classical in
noncomputable def cntM (ds : List PD) : PD := match ds with
  | [d, .dict kvs] => if h : ∃ t, Is t d then resPD (evT (numH kvs) h.choose) else .none
  | _ => .none
open Classical in
theorem cntM_of {t : Tm} {d : PD} {kvs : List (PD × PD)} (h : Is t d) : cntM [d, .dict kvs] = resPD (evT (numH kvs) t) := by
  have h2 : ∃ t, Is t d := ⟨t, h⟩
  show dite (∃ t, Is t d) (fun h => resPD (evT (numH kvs) h.choose)) (fun _ => PyData.none) = _
  rw [dif_pos h2, Is_uniq h2.choose_spec h]
theorem digs_lt : ∀ (l : List Nat) (acc : Nat), l.all dig = true → l.foldl (fun acc c => acc * 10 + (c - 48)) acc < (acc + 1) * 10 ^ l.length
  | [], acc, _ => by simp
  | c :: r, acc, h => by
    rw [List.all_cons, Bool.and_eq_true] at h
    have h1 := digs_lt r (acc * 10 + (c - 48)) h.2
    have hc : c - 48 ≤ 9 := by
      have := h.1
      unfold dig at this
      rw [Bool.and_eq_true, decide_eq_true_iff, decide_eq_true_iff] at this
      omega
    rw [List.foldl_cons, List.length_cons, Nat.pow_succ]
    refine Nat.lt_of_lt_of_le h1 ?_
    have : acc * 10 + (c - 48) + 1 ≤ (acc + 1) * 10 := by omega
    calc (acc * 10 + (c - 48) + 1) * 10 ^ r.length ≤ ((acc + 1) * 10) * 10 ^ r.length := Nat.mul_le_mul_right _ this
      _ = (acc + 1) * (10 ^ r.length * 10) := by rw [Nat.mul_assoc, Nat.mul_comm 10]
theorem numL_lt {l : List Nat} (hl : l.length ≤ 70) {n : Int} (h : numL l = some n) : n.natAbs < 2 ^ 250 := by
  have key : ∀ r : List Nat, r.length ≤ 70 → r.all dig = true → NumText.digitsVal r < 2 ^ 250 := fun r h1 h2 => by
    have := digs_lt r 0 h2
    unfold NumText.digitsVal
    refine Nat.lt_of_lt_of_le this ?_
    rw [Nat.zero_add, Nat.one_mul]
    exact Nat.le_trans (Nat.pow_le_pow_right (by decide) h1) (by decide)
  cases l with
  | nil => cases h; decide
  | cons c r =>
    have h : (if c = 45 then (if r ≠ [] ∧ r.all dig = true then some (-((NumText.digitsVal r : Nat) : Int)) else none) else (if (c :: r).all dig = true then some ((NumText.digitsVal (c :: r) : Nat) : Int) else none)) = some n := h
    by_cases h1 : c = 45
    · rw [if_pos h1] at h
      by_cases h2 : r ≠ [] ∧ r.all dig = true
      · rw [if_pos h2] at h
        cases h
        rw [Int.natAbs_neg, Int.natAbs_natCast]
        exact key r (Nat.le_trans (Nat.le_succ _) hl) h2.2
      · rw [if_neg h2] at h
        cases h
    · rw [if_neg h1] at h
      by_cases h2 : (c :: r).all dig = true
      · rw [if_pos h2] at h
        cases h
        rw [Int.natAbs_natCast]
        exact key _ hl h2
      · rw [if_neg h2] at h
        cases h
theorem lastI {x : Int} {ns : List Int} : ((List.reverse (x :: ns)).map PyData.int)[((List.reverse (x :: ns)).map PyData.int).length - 1]? = some (.int x) := by
  rw [List.reverse_cons, List.map_append, List.length_append]
  simp
theorem dropI {x : Int} {ns : List Int} : ((List.reverse (x :: ns)).map PyData.int).dropLast = (List.reverse ns).map PyData.int := by
  rw [List.reverse_cons, List.map_append]
  exact List.dropLast_concat
theorem len_wt : ∀ (ws : List (Tm × Bool)), ws.length ≤ wtL ws
  | [] => Nat.le_refl _
  | (t, b) :: ws => by
    have h := len_wt ws
    have p : 1 ≤ wtE (t, b) := by
      cases b
      · show 1 ≤ 2 * sizeT t
        have := sizeT_pos t
        omega
      · exact Nat.le_refl _
    show ws.length + 1 ≤ wtE (t, b) + wtL ws
    omega
theorem ok_counted (B : Blt G.mg) (hGR : GR < 2 ^ 100) (h1 : Has G "number_of" P_number_of 2 (PureN 1 (fun ds => ∃ l, ds = [.str (Sx l)] ∧ l.length ≤ 600) fun ds => numPD (numL (strAt (ds.getD 0 .none)).cps.toList))) (h2 : Has G "joined_numbers" P_joined_numbers 2 (PureN 3 CJoin fJ))
    (F : Fun G.K "counted" "counted" s_counted f fd) : FnG G 3 f fd P_counted (SpD G.K G.Tb (PureN 2 (CCnt nm GR TW) cntM)) := by
  refine fn_pure F sc_counted rfl fun W Z ds hl hC => ?_
  obtain ⟨t, d, kvs, rfl, hI, hO, hH, hlv, hsz⟩ := hC
  rw [cntM_of hI]
  refine sds_cons (sd_set (i := 2) ?_ rfl (of_decide_eq_true (by kernel_rfl)) (loc_of (by kernel_rfl)) (loc_of (by kernel_rfl)))
  walk_at "dw"
  rename_i p hp q hq
  refine sd_while (fun m e => ∃ es ns s4 s5 s6 s7 s8, e = [.sh d, .sh (.dict kvs), .own p (.lst ((es.reverse).map enP)), .own q (.lst ((List.reverse ns).map PyData.int)), s4, s5, s6, s7, s8, .no] ∧ (∀ x ∈ es, Is x.t x.d ∧ Okt nm GR TW x.t ∧ lvT x.t ≤ 20) ∧
      R (numH kvs) (es.map enT) ns (evT (numH kvs) t) ∧ m = wtL (es.map enT) ∧ ns.length + wtL (es.map enT) ≤ 2000)
    ⟨_, [⟨t, d, false⟩], [], .no, .no, .no, .no, .no, rfl, ?_, R_start t, rfl, ?_⟩ ?_
  · intro x hx
    rw [List.mem_singleton] at hx
    subst hx
    exact ⟨hI, hO, hlv⟩
  · show 0 + (2 * sizeT t + 0) ≤ 2000
    omega
  · rintro m e ⟨es, ns, s4, s5, s6, s7, s8, rfl, hes, hR, rfl, hm⟩
    refine et_cmp (ev_lenO (i := 2) rfl ?_ rfl (by walk_at "dwvis") (by kernel_rfl) (Blt.len (by assumption)))
    walk_at "dw"
    cases es with
    | nil =>
      refine iteHF rfl ?_
      obtain ⟨v, rfl, hr⟩ := hR
      rw [hr]
      refine sds_cons (sd_ret (ex_ev (ev_tup (evs_cons (ev_str (evs_cons (ev_ixO (i := 3) (ev_int ?_) rfl (by walk_at "dwvis") ⟨_, _, rfl⟩)))))))
      refine ⟨0, rfl, _, _, rfl, rfl, .int v, rfl, ?_⟩
      walk_at "dw"
      rfl
    | cons x es =>
      refine iteHT (decide_eq_true (by simp)) ?_
      obtain ⟨hx1, hx2, hx3⟩ := hes x List.mem_cons_self
      have hes0 : ∀ y ∈ es, Is y.t y.d ∧ Okt nm GR TW y.t ∧ lvT y.t ≤ 20 := fun y hy => hes y (List.mem_cons_of_mem _ hy)
      refine sds_cons (sd_unpack (js := [4, 5]) (ev_pop (i := 2) rfl lastP ?_ rfl (by walk_at "dwvis")) fun X g te gg he hg => ps_asg he hg)
      refine tg_tup (tgs_cons (tg_name (i := 4) ?_ (by decide) rfl (of_decide_eq_true (by kernel_rfl)) (loc_of (by kernel_rfl)) (loc_of (by kernel_rfl)))) rfl (fun X g t h => pg_tup g.calm h)
      refine tgs_cons (tg_name (i := 5) ?_ (by decide) rfl (of_decide_eq_true (by kernel_rfl)) (loc_of (by kernel_rfl)) (loc_of (by kernel_rfl)))
      refine tgs_nil ?_
      rw [dropP]
      show SDs _ _ [.sh d, .sh (.dict kvs), .own p (.lst ((es.reverse).map enP)), .own q (.lst ((List.reverse ns).map PyData.int)), .sh x.d, .sh (.bool x.b), s6, s7, s8, .no] _
      obtain ⟨xt, xd, xb⟩ := x
      have stop : ∀ {ws : List En} {ks : List Int} {a4 a5 a6 a7 a8 : Sl}, (∀ x ∈ ws, Is x.t x.d ∧ Okt nm GR TW x.t ∧ lvT x.t ≤ 20) → R (numH kvs) (ws.map enT) ks (evT (numH kvs) t) → wtL (ws.map enT) < wtL (List.map enT ({ t := xt, d := xd, b := xb } :: es)) → ks.length + wtL (ws.map enT) ≤ 2000 →
          ∃ m', m' < wtL (List.map enT ({ t := xt, d := xd, b := xb } :: es)) ∧ ∃ (es : List En) (ns : List Int) (s4 s5 s6 s7 s8 : Sl), [Sl.sh d, .sh (.dict kvs), .own p (.lst ((ws.reverse).map enP)), .own q (.lst ((List.reverse ks).map PyData.int)), a4, a5, a6, a7, a8, .no] = [.sh d, .sh (.dict kvs), .own p (.lst ((es.reverse).map enP)), .own q (.lst ((List.reverse ns).map PyData.int)), s4, s5, s6, s7, s8, .no] ∧ (∀ x ∈ es, Is x.t x.d ∧ Okt nm GR TW x.t ∧ lvT x.t ≤ 20) ∧
            R (numH kvs) (es.map enT) ns (evT (numH kvs) t) ∧ m' = wtL (es.map enT) ∧ ns.length + wtL (es.map enT) ≤ 2000 := fun g1 g2 g3 g4 => ⟨_, g3, _, _, _, _, _, _, _, rfl, g1, g2, rfl, g4⟩
      have stopL : ∀ {ws : List En} {ks : List Int} {L KL : List PD} {a4 a5 a6 a7 a8 : Sl}, L = (ws.reverse).map enP → KL = (List.reverse ks).map PyData.int → (∀ x ∈ ws, Is x.t x.d ∧ Okt nm GR TW x.t ∧ lvT x.t ≤ 20) → R (numH kvs) (ws.map enT) ks (evT (numH kvs) t) → wtL (ws.map enT) < wtL (List.map enT ({ t := xt, d := xd, b := xb } :: es)) → ks.length + wtL (ws.map enT) ≤ 2000 →
          ∃ m', m' < wtL (List.map enT ({ t := xt, d := xd, b := xb } :: es)) ∧ ∃ (es : List En) (ns : List Int) (s4 s5 s6 s7 s8 : Sl), [Sl.sh d, .sh (.dict kvs), .own p (.lst L), .own q (.lst KL), a4, a5, a6, a7, a8, .no] = [.sh d, .sh (.dict kvs), .own p (.lst ((es.reverse).map enP)), .own q (.lst ((List.reverse ns).map PyData.int)), s4, s5, s6, s7, s8, .no] ∧ (∀ x ∈ es, Is x.t x.d ∧ Okt nm GR TW x.t ∧ lvT x.t ≤ 20) ∧
            R (numH kvs) (es.map enT) ns (evT (numH kvs) t) ∧ m' = wtL (es.map enT) ∧ ns.length + wtL (es.map enT) ≤ 2000 := fun hL hK g1 g2 g3 g4 => by
        subst hL hK
        exact stop g1 g2 g3 g4
      have app : ∀ (v : Int) (ks : List Int), (List.reverse ks).map PyData.int ++ [.int v] = (List.reverse (v :: ks)).map PyData.int := fun v ks => by
        rw [List.reverse_cons, List.map_append]
        rfl
      have hw0 : wtL (List.map enT ({ t := xt, d := xd, b := xb } :: es)) = wtE (xt, xb) + wtL (es.map enT) := rfl
      rw [hw0] at stop stopL hm ⊢
      have hcase : (∃ (w : Str) (ps : List PD) (qs : List En), xb = false ∧ items xd = some (.str w :: ps) ∧ w ≠ "number" ∧ w ≠ "name" ∧ (ps.reverse.map fun d => PyData.tuple [d, .bool false]) = qs.reverse.map enP ∧ (∀ x ∈ qs ++ ⟨xt, xd, true⟩ :: es, Is x.t x.d ∧ Okt nm GR TW x.t ∧ lvT x.t ≤ 20) ∧
          R (numH kvs) ((qs ++ ⟨xt, xd, true⟩ :: es).map enT) ns (evT (numH kvs) t) ∧ wtL ((qs ++ ⟨xt, xd, true⟩ :: es).map enT) < wtE (xt, xb) + wtL (es.map enT) ∧ ps.length ≤ 2) ∨ (xb = false ∧ ((∃ n, xt = .num n) ∨ ∃ z, xt = .nam z)) ∨ (xb = true ∧ ((∃ a, xt = .less a) ∨ ∃ w a b, xt = .two w a b)) := by
        cases xb with
        | true =>
          cases xt with
          | num n => exact hR.elim
          | nam n => exact hR.elim
          | less a => exact .inr (.inr ⟨rfl, .inl ⟨a, rfl⟩⟩)
          | two w a b => exact .inr (.inr ⟨rfl, .inr ⟨w, a, b, rfl⟩⟩)
        | false =>
          cases xt with
          | num n => exact .inr (.inl ⟨rfl, .inl ⟨n, rfl⟩⟩)
          | nam z => exact .inr (.inl ⟨rfl, .inr ⟨z, rfl⟩⟩)
          | less a =>
            obtain ⟨x, hi, hx⟩ := hx1
            refine .inl ⟨"less", [x], [⟨a, x, false⟩], rfl, hi, by decide +kernel, by decide +kernel, rfl, ?_, R_less hR, ?_, Nat.le_succ _⟩
            · intro y hy
              rcases List.mem_cons.mp hy with rfl | hy
              · exact ⟨hx, hx2, hx3⟩
              · rcases List.mem_cons.mp hy with rfl | hy
                · exact ⟨⟨x, hi, hx⟩, hx2, hx3⟩
                · exact hes0 y hy
            · show 2 * sizeT a + (1 + wtL (es.map enT)) < 2 * (1 + sizeT a) + wtL (es.map enT)
              omega
          | two w a b =>
            obtain ⟨x, y, hi, hx, hy⟩ := hx1
            have hlv2 : lvT a + lvT b ≤ 20 := hx3
            refine .inl ⟨w, [x, y], [⟨a, x, false⟩, ⟨b, y, false⟩], rfl, hi, hx2.1.2.1, hx2.1.2.2.1, rfl, ?_, R_two hR, ?_, Nat.le_refl _⟩
            · intro v hv
              rcases List.mem_cons.mp hv with rfl | hv
              · exact ⟨hx, hx2.2.1, Nat.le_trans (Nat.le_add_right _ _) hlv2⟩
              · rcases List.mem_cons.mp hv with rfl | hv
                · exact ⟨hy, hx2.2.2, Nat.le_trans (Nat.le_add_left _ _) hlv2⟩
                · rcases List.mem_cons.mp hv with rfl | hv
                  · exact ⟨⟨x, y, hi, hx, hy⟩, hx2, hx3⟩
                  · exact hes0 v hv
            · show 2 * sizeT a + (2 * sizeT b + (1 + wtL (es.map enT))) < 2 * (1 + sizeT a + sizeT b) + wtL (es.map enT)
              omega
      rcases hcase with ⟨w, ps, qs, rfl, hi, n1, n2, hps, g1, g2, g3, hpl⟩ | ⟨rfl, ⟨n, rfl⟩ | ⟨z, rfl⟩⟩ | ⟨rfl, ⟨a, rfl⟩ | ⟨w, a, b, rfl⟩⟩
      · walk_at "dw"
        refine iteHF (decide_eq_false n1) ?_
        walk_at "dw"
        refine iteHF (decide_eq_false n2) ?_
        walk_at "dw"
        have lb := len_wt (es.map enT)
        rw [List.length_map] at lb
        refine sd_expr (ex_append2 (i := 2) rfl ?_ rfl (by walk_at "dwvis"))
        walk_at "dw"
        refine ⟨by simp; omega, ?_⟩
        walk_at "dw"
        have e1 : List.map enP es.reverse ++ [PyData.tuple [xd, .bool true]] = ((⟨xt, xd, true⟩ :: es : List En).reverse).map enP := by
          rw [List.reverse_cons, List.map_append]
          rfl
        show SD _ _ [.sh d, .sh (.dict kvs), .own p (.lst (List.map enP es.reverse ++ [PyData.tuple [xd, .bool true]])), .own q (.lst ((List.reverse ns).map PyData.int)), .sh xd, .sh (.bool false), .sh (.str w), s7, s8, .no] _
        rw [e1]
        refine sd_expr (ex_extend (i := 2) ⟨_, _, rfl⟩ (ev_ex ?_) rfl (by walk_at "dwvis"))
        refine ex_lc [("inner", 9)] (fun i acc e => acc = (ps.reverse.take i).map (fun d => PyData.tuple [d, .bool false]) ∧ e = [.sh d, .sh (.dict kvs), .own p (.lst (((⟨xt, xd, true⟩ :: es : List En).reverse).map enP)), .own q (.lst ((List.reverse ns).map PyData.int)), .sh xd, .sh (.bool false), .sh (.str w), s7, s8, .no])
          ?_ (of_decide_eq_true (by kernel_rfl)) (by kernel_rfl)
        have hor : xd = .list (.str w :: ps) ∨ xd = .tuple (.str w :: ps) := by
          cases xd <;> first | (cases hi; exact .inl rfl) | (cases hi; exact .inr rfl) | cases hi
        rcases hor with rfl | rfl
        · refine it_list (ev_back ?_)
          walk_at "dw"
          refine ⟨.str w :: ps, .inl ⟨rfl, _, rfl, ?_⟩⟩
          refine ⟨by show ps.reverse.length ≤ 100000; rw [List.length_reverse]; omega, ⟨rfl, rfl⟩, fun i acc e d1 hacc hI hd => ?_, fun acc e hacc hI l hl => ⟨_, rfl, ?_⟩⟩
          · obtain ⟨rfl, rfl⟩ := hI
            have hd : ps.reverse[i]? = some d1 := hd
            refine tg_name (i := 9) ?_ (by decide) rfl (of_decide_eq_true (by kernel_rfl)) (loc_of (by kernel_rfl)) (loc_of (by kernel_rfl))
            refine ets_nil (iteT ?_)
            walk_at "dw"
            refine ⟨?_, rfl⟩
            rw [List.take_succ, hd, List.map_append]
            rfl
          · obtain ⟨rfl, rfl⟩ := hI
            refine ⟨p, _, _, rfl, rfl, rfl, ?_, ?_⟩
            · simp
              omega
            · have e3 : ∀ k, k = ps.reverse.length → List.map enP ((⟨xt, PyData.list (.str w :: ps), true⟩ :: es : List En).reverse) ++ List.map (fun d => PyData.tuple [d, .bool false]) (List.take k ps.reverse) = ((qs ++ ⟨xt, PyData.list (.str w :: ps), true⟩ :: es).reverse).map enP := fun k hk => by
                rw [hk, List.take_of_length_le (Nat.le_refl _), hps, List.reverse_append, List.map_append]
              walk_at "dw"
              exact stopL (e3 _ (by rfl)) rfl g1 g2 g3 (by omega)
        · refine it_tup (ev_back ?_)
          walk_at "dw"
          refine ⟨.str w :: ps, .inr ⟨rfl, _, rfl, ?_⟩⟩
          refine ⟨by show ps.reverse.length ≤ 100000; rw [List.length_reverse]; omega, ⟨rfl, rfl⟩, fun i acc e d1 hacc hI hd => ?_, fun acc e hacc hI l hl => ⟨_, rfl, ?_⟩⟩
          · obtain ⟨rfl, rfl⟩ := hI
            have hd : ps.reverse[i]? = some d1 := hd
            refine tg_name (i := 9) ?_ (by decide) rfl (of_decide_eq_true (by kernel_rfl)) (loc_of (by kernel_rfl)) (loc_of (by kernel_rfl))
            refine ets_nil (iteT ?_)
            walk_at "dw"
            refine ⟨?_, rfl⟩
            rw [List.take_succ, hd, List.map_append]
            rfl
          · obtain ⟨rfl, rfl⟩ := hI
            refine ⟨p, _, _, rfl, rfl, rfl, ?_, ?_⟩
            · simp
              omega
            · have e3 : ∀ k, k = ps.reverse.length → List.map enP ((⟨xt, PyData.tuple (.str w :: ps), true⟩ :: es : List En).reverse) ++ List.map (fun d => PyData.tuple [d, .bool false]) (List.take k ps.reverse) = ((qs ++ ⟨xt, PyData.tuple (.str w :: ps), true⟩ :: es).reverse).map enP := fun k hk => by
                rw [hk, List.take_of_length_le (Nat.le_refl _), hps, List.reverse_append, List.map_append]
              walk_at "dw"
              exact stopL (e3 _ (by rfl)) rfl g1 g2 g3 (by omega)
      · have hi : items xd = some [.str "number", .int n] := hx1
        have hR : R (numH kvs) (es.map enT) (n :: ns) (evT (numH kvs) t) := hR
        have hm : ns.length + (2 * 1 + wtL (es.map enT)) ≤ 2000 := hm
        walk_at "dw"
        try refine iteHT (by decide +kernel) ?_
        walk_at "dw"
        refine sd_expr (ex_append2 (i := 3) rfl ?_ rfl (by walk_at "dwvis"))
        walk_at "dw"
        refine ⟨by simp; omega, ?_⟩
        rw [app]
        walk_at "dw"
        exact stop hes0 hR (by show _ < 2 * 1 + _; omega) (by rw [List.length_cons]; omega)
      · have hi : items xd = some [.str "name", .str z] := hx1
        have hm : ns.length + (2 * 1 + wtL (es.map enT)) ≤ 2000 := hm
        have hR : (match evT (numH kvs) (.nam z) with | .error e => evT (numH kvs) t = .error e | .ok v => R (numH kvs) (es.map enT) (v :: ns) (evT (numH kvs) t)) := hR
        obtain ⟨t1, t2⟩ := look_txt hH z
        walk_at "dw"
        try refine iteHF (by decide +kernel) ?_
        walk_at "dw"
        try refine iteHT (by decide +kernel) ?_
        walk_at "dw"
        refine ev_get ?_
        walk_at "dw"
        rw [t1]
        refine ⟨⟨_, rfl, by omega⟩, ?_⟩
        show SDs _ _ ([.sh d, .sh (.dict kvs), .own p (.lst ((es.reverse).map enP)), .own q (.lst ((List.reverse ns).map PyData.int)), .sh xd, .sh (.bool false), .sh (.str "name"), .sh (numPD (numH kvs z)), s8, .no]) _
        walk_at "dw"
        rw [show evT (numH kvs) (.nam z) = (match numH kvs z with | some n => .ok n | none => .error (.tuple [.str "number", .str z])) from rfl] at hR
        cases hz : numH kvs z with
        | none =>
          rw [hz] at hR
          have hR : evT (numH kvs) t = .error (.tuple [.str "number", .str z]) := hR
          rw [hR]
          refine iteHT rfl ?_
          walk_at "dw"
          rfl
        | some n =>
          rw [hz] at hR
          have hR : R (numH kvs) (es.map enT) (n :: ns) (evT (numH kvs) t) := hR
          refine iteHF rfl ?_
          walk_at "dw"
          refine sd_expr (ex_append2 (i := 3) rfl ?_ rfl (by walk_at "dwvis"))
          walk_at "dw"
          refine ⟨by simp; omega, ?_⟩
          show SDs _ _ [.sh d, .sh (.dict kvs), .own p (.lst ((es.reverse).map enP)), .own q (.lst ((List.reverse ns).map PyData.int ++ [.int n])), .sh xd, .sh (.bool false), .sh (.str "name"), .sh (.int n), s8, .no] _
          rw [app]
          walk_at "dw"
          exact stop hes0 hR (by show _ < 2 * 1 + _; omega) (by rw [List.length_cons]; omega)
      · obtain ⟨x, hi, hx⟩ := hx1
        obtain ⟨v, ns', rfl, hv, hR⟩ := (show ∃ x ns', ns = x :: ns' ∧ evT (numH kvs) a = .ok x ∧ R (numH kvs) (es.map enT) (-x :: ns') (evT (numH kvs) t) from hR)
        have hm : (v :: ns').length + (1 + wtL (es.map enT)) ≤ 2000 := hm
        rw [List.length_cons] at hm
        walk_at "dw"
        try refine iteHF (by decide +kernel) ?_
        walk_at "dw"
        try refine iteHF (by decide +kernel) ?_
        walk_at "dw"
        try refine iteHT (by decide +kernel) ?_
        walk_at "dw"
        refine sd_expr (ex_append2 (i := 3) rfl ?_ rfl (by walk_at "dwvis"))
        refine ev_ex (ex_un ?_)
        refine ev_pop (i := 3) rfl lastI ?_ rfl (by walk_at "dwvis")
        rw [dropI]
        refine ⟨_, ud_neg, _, rfl, _, rfl, by simp; omega, ?_⟩
        show SDs _ _ [.sh d, .sh (.dict kvs), .own p (.lst ((es.reverse).map enP)), .own q (.lst ((List.reverse ns').map PyData.int ++ [.int (-v)])), .sh xd, .sh (.bool true), .sh (.str "less"), s7, s8, .no] _
        rw [app]
        walk_at "dw"
        exact stop hes0 hR (by show _ < 1 + _; omega) (by rw [List.length_cons]; omega)
      · obtain ⟨dx, dy, hi, hx, hy⟩ := hx1
        obtain ⟨y, x, ns', rfl, hvx, hvy, hR⟩ := (show ∃ y x ns', ns = y :: x :: ns' ∧ evT (numH kvs) a = .ok x ∧ evT (numH kvs) b = .ok y ∧ if badW w y = true then evT (numH kvs) t = .error (.tuple [.str "nought"]) else R (numH kvs) (es.map enT) (joinI w x y :: ns') (evT (numH kvs) t) from hR)
        have hm : (y :: x :: ns').length + (1 + wtL (es.map enT)) ≤ 2000 := hm
        rw [List.length_cons, List.length_cons] at hm
        have hlv2 : lvT a + lvT b ≤ 20 := hx3
        have hN : ∀ z n, numH kvs z = some n → n.natAbs < 2 ^ 250 := fun z n h => numL_lt (look_txt hH z).2 h
        have bx := log2_of (evT_lt hGR hN hx2.2.1 hvx) (by omega)
        have by_ := log2_of (evT_lt hGR hN hx2.2.2 hvy) (by omega)
        walk_at "dw"
        refine iteHF (decide_eq_false hx2.1.2.1) ?_
        walk_at "dw"
        refine iteHF (decide_eq_false hx2.1.2.2.1) ?_
        walk_at "dw"
        refine iteHF (decide_eq_false hx2.1.2.2.2) ?_
        walk_at "dw"
        refine ev_pop (i := 3) rfl lastI ?_ rfl (by walk_at "dwvis")
        rw [dropI]
        show SDs _ _ [.sh d, .sh (.dict kvs), .own p (.lst ((es.reverse).map enP)), .own q (.lst ((List.reverse (x :: ns')).map PyData.int)), .sh xd, .sh (.bool true), .sh (.str w), s7, .sh (.int y), .no] _
        have no : ∀ {b : Bool}, badW w y = b → (b = true → (if badW w y = true then evT (numH kvs) t = .error (.tuple [.str "nought"]) else R (numH kvs) (es.map enT) (joinI w x y :: ns') (evT (numH kvs) t)) → evT (numH kvs) t = .error (.tuple [.str "nought"])) := fun {b} hb ht h => by
          rw [if_pos (hb.trans ht)] at h
          exact h
        walk_at "dw"
        have goon : badW w y = false → R (numH kvs) (es.map enT) (joinI w x y :: ns') (evT (numH kvs) t) ∧ ((w = "/" ∨ w = "~") → y ≠ 0) := fun hb => by
          rw [hb, if_neg (by decide)] at hR
          refine ⟨hR, fun hw hy0 => ?_⟩
          have : badW w y = true := by
            unfold badW
            rw [decide_eq_true hy0, Bool.true_and]
            unfold inStrs
            rcases hw with rfl | rfl
            · decide +kernel
            · decide +kernel
          rw [this] at hb
          cases hb
        by_cases hy0 : y = 0
        · refine iteHT (decide_eq_true hy0) ?_
          walk_at "dw"
          refine ⟨_, od_inT (zs := ["/", "~"]), ?_⟩
          have hb : badW w y = inStrs w ["/", "~"] := by unfold badW; rw [decide_eq_true hy0, Bool.true_and]
          refine iteD (fun g => ?_) fun g => ?_
          · have := no hb g hR
            rw [this]
            walk_at "dw"
            rfl
          · obtain ⟨hR2, h0⟩ := goon (hb.trans g)
            walk_at "dw"
            refine sd_expr (ex_append2 (i := 3) rfl ?_ rfl (by walk_at "dwvis"))
            walk_at "dw"
            refine ev_pop (i := 3) rfl lastI ?_ rfl (by walk_at "dwvis")
            rw [dropI]
            walk_at "dw"
            refine ⟨⟨w, x, y, rfl, h0, bx, by_⟩, _, rfl, by simp; omega, ?_⟩
            show SDs _ _ [.sh d, .sh (.dict kvs), .own p (.lst ((es.reverse).map enP)), .own q (.lst ((List.reverse ns').map PyData.int ++ [.int (joinI w x y)])), .sh xd, .sh (.bool true), .sh (.str w), s7, .sh (.int y), .no] _
            rw [app]
            walk_at "dw"
            exact stop hes0 hR2 (by show _ < 1 + _; omega) (by rw [List.length_cons]; omega)
        · refine iteHF (decide_eq_false hy0) ?_
          obtain ⟨hR2, h0⟩ := goon (by unfold badW; rw [decide_eq_false hy0, Bool.false_and])
          walk_at "dw"
          refine sd_expr (ex_append2 (i := 3) rfl ?_ rfl (by walk_at "dwvis"))
          walk_at "dw"
          refine ev_pop (i := 3) rfl lastI ?_ rfl (by walk_at "dwvis")
          rw [dropI]
          walk_at "dw"
          refine ⟨⟨w, x, y, rfl, h0, bx, by_⟩, _, rfl, by simp; omega, ?_⟩
          show SDs _ _ [.sh d, .sh (.dict kvs), .own p (.lst ((es.reverse).map enP)), .own q (.lst ((List.reverse ns').map PyData.int ++ [.int (joinI w x y)])), .sh xd, .sh (.bool true), .sh (.str w), s7, .sh (.int y), .no] _
          rw [app]
          walk_at "dw"
          exact stop hes0 hR2 (by show _ < 1 + _; omega) (by rw [List.length_cons]; omega)
end K8

namespace K8
open PySem PySem.Spec PyProof.Rows L2 Dw
local macro_rules | `(tactic| walk_at "dwvis") => `(tactic| exact vis_of (by kernel_rfl))
local macro_rules | `(tactic| walk_at "dwbin") => `(tactic| first
  | refine ⟨_, od_eqS, ?_⟩ | refine ⟨_, od_neS, ?_⟩ | refine ⟨_, od_add, ?_⟩ | refine ⟨_, od_sub, ?_⟩ | refine ⟨_, od_lt, ?_⟩ | refine ⟨_, od_le, ?_⟩ | refine ⟨_, od_gt, ?_⟩ | refine ⟨_, od_ge, ?_⟩ | refine ⟨_, od_eqI, ?_⟩ | refine ⟨_, od_eqB, ?_⟩ | refine ⟨_, od_neB, ?_⟩
  | refine ⟨_, od_isN, ?_⟩ | refine ⟨_, od_addS (by assumption), ?_⟩ | refine ⟨_, od_inT, ?_⟩ | refine ⟨_, od_notN, ?_⟩ | refine ⟨_, od_inSign, ?_⟩ | refine ⟨_, od_notInSign, ?_⟩)
local macro_rules | `(tactic| walk_at "dwcd") => `(tactic| first
  | refine ⟨_, cd_len (by assumption), ?_⟩ | refine ⟨_, cd_lenS (by assumption), ?_⟩ | refine ⟨_, cd_abs, ?_⟩ | refine ⟨_, cd_intI, ?_⟩ | refine ⟨_, cd_intB, ?_⟩ | refine ⟨_, cd_all, ?_⟩ | refine ⟨_, cd_any, ?_⟩ | refine ⟨_, cd_sum, ?_⟩)
local macro_rules | `(tactic| walk_at "dwname") => `(tactic| first
  | refine ev_name (i := 0) rfl ?_ rfl (by walk_at "dwvis") | refine ev_name (i := 1) rfl ?_ rfl (by walk_at "dwvis")
  | refine ev_name (i := 2) rfl ?_ rfl (by walk_at "dwvis") | refine ev_name (i := 3) rfl ?_ rfl (by walk_at "dwvis")
  | refine ev_name (i := 4) rfl ?_ rfl (by walk_at "dwvis") | refine ev_name (i := 5) rfl ?_ rfl (by walk_at "dwvis") | refine ev_name (i := 6) rfl ?_ rfl (by walk_at "dwvis") | refine ev_name (i := 7) rfl ?_ rfl (by walk_at "dwvis") | refine ev_name (i := 8) rfl ?_ rfl (by walk_at "dwvis") | refine ev_name (i := 9) rfl ?_ rfl (by walk_at "dwvis") | refine ev_name (i := 10) rfl ?_ rfl (by walk_at "dwvis") | refine ev_name (i := 11) rfl ?_ rfl (by walk_at "dwvis")
  | refine ev_globD (by assumption) ?_ (by kernel_rfl))
local macro_rules | `(tactic| walk_at "dwcall") => `(tactic| first
  | refine ev_callH (by assumption) (Nat.le_of_ble_eq_true rfl) ?_ (by kernel_rfl)
  | refine ev_ex (ex_callB (id := "len") (x := "len") ?_ (by kernel_rfl) (Blt.len (by assumption)) PySem.boot_len)
  | refine ev_isi2 (n1 := "list") (n2 := "tuple") (T1 := "list") (T2 := "tuple") ?_ (by decide) (by kernel_rfl) (Blt.isinstance (by assumption)) (by kernel_rfl) (Blt.list (by assumption)) PyProof.Rows.boot_list (by kernel_rfl) (Blt.tuple (by assumption)) PyProof.Rows.boot_tuple
  | refine ev_isi (n := "int") (T := "int") ?_ (by decide) (by kernel_rfl) (Blt.isinstance (by assumption)) (by kernel_rfl) (Blt.int (by assumption)) PyProof.Rows.boot_int
  | refine ev_isi (n := "bool") (T := "bool") ?_ (by decide) (by kernel_rfl) (Blt.isinstance (by assumption)) (by kernel_rfl) (Blt.bool (by assumption)) PyProof.Rows.boot_bool
  | refine ev_isi (n := "str") (T := "str") ?_ (by decide) (by kernel_rfl) (Blt.isinstance (by assumption)) (by kernel_rfl) (Blt.str (by assumption)) PyProof.Rows.boot_str
  | refine ev_isi (n := "dict") (T := "dict") ?_ (by decide) (by kernel_rfl) (Blt.isinstance (by assumption)) (by kernel_rfl) (Blt.dict (by assumption)) PyProof.Rows.boot_dict
  | refine ev_ex (ex_callB (id := "all") (x := "all") ?_ (by kernel_rfl) (Blt.all (by assumption)) PyProof.Rows.boot_all)
  | refine ev_ex (ex_callB (id := "any") (x := "any") ?_ (by kernel_rfl) (Blt.any (by assumption)) PyProof.Rows.boot_any)
  | refine ev_ex (ex_callB (id := "abs") (x := "abs") ?_ (by kernel_rfl) (Blt.abs (by assumption)) PyProof.Rows.boot_abs)
  | refine ev_ex (ex_callTy (T := "int") (x := "int") ?_ (by kernel_rfl) (Blt.int (by assumption)) PyProof.Rows.boot_int))
local macro_rules | `(tactic| walk_at "dwset") => `(tactic| first
  | refine sd_set (i := 0) ?_ rfl (of_decide_eq_true (by kernel_rfl)) (loc_of (by kernel_rfl)) (loc_of (by kernel_rfl)) | refine sd_set (i := 1) ?_ rfl (of_decide_eq_true (by kernel_rfl)) (loc_of (by kernel_rfl)) (loc_of (by kernel_rfl)) | refine sd_set (i := 2) ?_ rfl (of_decide_eq_true (by kernel_rfl)) (loc_of (by kernel_rfl)) (loc_of (by kernel_rfl)) | refine sd_set (i := 3) ?_ rfl (of_decide_eq_true (by kernel_rfl)) (loc_of (by kernel_rfl)) (loc_of (by kernel_rfl)) | refine sd_set (i := 4) ?_ rfl (of_decide_eq_true (by kernel_rfl)) (loc_of (by kernel_rfl)) (loc_of (by kernel_rfl)) | refine sd_set (i := 5) ?_ rfl (of_decide_eq_true (by kernel_rfl)) (loc_of (by kernel_rfl)) (loc_of (by kernel_rfl)) | refine sd_set (i := 6) ?_ rfl (of_decide_eq_true (by kernel_rfl)) (loc_of (by kernel_rfl)) (loc_of (by kernel_rfl)) | refine sd_set (i := 7) ?_ rfl (of_decide_eq_true (by kernel_rfl)) (loc_of (by kernel_rfl)) (loc_of (by kernel_rfl)) | refine sd_set (i := 8) ?_ rfl (of_decide_eq_true (by kernel_rfl)) (loc_of (by kernel_rfl)) (loc_of (by kernel_rfl)) | refine sd_set (i := 9) ?_ rfl (of_decide_eq_true (by kernel_rfl)) (loc_of (by kernel_rfl)) (loc_of (by kernel_rfl)) | refine sd_set (i := 10) ?_ rfl (of_decide_eq_true (by kernel_rfl)) (loc_of (by kernel_rfl)) (loc_of (by kernel_rfl)) | refine sd_set (i := 11) ?_ rfl (of_decide_eq_true (by kernel_rfl)) (loc_of (by kernel_rfl)) (loc_of (by kernel_rfl)))
local macro_rules | `(tactic| walk_at "dwev") => `(tactic| first
  | (show EV _ (.Name _ _) _ _; walk_at "dwname")
  | (show EV _ (.Call _ _ _ _) _ _; walk_at "dwcall")
  | refine ev_int ?_ | refine ev_str ?_ | refine ev_ix ?_ | refine ev_tup ?_ | refine ev_ex (ex_cmp ?_) | refine ev_ex (ex_bin ?_)
  | refine ev_none ?_ | refine ev_bool ?_ | refine ev_and ?_ | refine ev_or ?_ | refine ev_one ?_ | refine ev_not ?_
  | refine ev_chain ?_ | refine ev_ex (ex_un ?_) | refine ev_ex (ex_ifExp ?_) | refine ev_ex (ex_lst ?_))
local macro_rules | `(tactic| walk_at "dw1") => `(tactic| first
  | (show SDs _ _ _ _; first | refine sds_cons ?_ | refine sds_nil ?_)
  | (show SD _ _ _ _; first | refine sd_ret ?_ | refine sd_if ?_ | walk_at "dwset")
  | (show EV _ _ _ _; walk_at "dwev")
  | (show EVs _ _ _ _; first | refine evs_nil ?_ | refine evs_cons ?_)
  | (show EX _ _ _ _; first | refine ex_ifExp ?_ | refine ex_lst ?_ | refine ex_ev ?_)
  | (show ET _ _ _ _; first | refine et_cmp ?_ | refine et_not ?_ | refine et_bo ?_ | refine et_val ?_)
  | (show EW _ _ _ _; first | refine ew_and ?_ | refine ew_or ?_ | refine ew_and1 ?_ | refine ew_or1 ?_)
  | (show ∃ d, IxD _ _ _ d ∧ _; first | refine ⟨_, ix_i (by first | rfl | assumption) (by first | exact atI0 | exact atI1 | exact atI2 | rfl | assumption), ?_⟩ | refine ⟨_, ix_s (by assumption) (by first | assumption | rfl), ?_⟩)
  | (show ∃ Qr, CallD _ _ _ Qr ∧ _; walk_at "dwcd")
  | (show ∃ Qr, BinD _ _ _ _ Qr ∧ _; walk_at "dwbin")
  | (show ∃ Qr, CmpD _ _ _ _ Qr ∧ _; walk_at "dwbin")
  | (show ∃ t, CmpD _ _ _ _ (· = .sh (.bool t)) ∧ _; walk_at "dwbin")
  | (show ∀ r, r = _ → _; intro r hr; subst hr) | refine fun (_ : ∀ (p : Addr) (o : OD), _ = Sl.own p o → _) => ?_
  | refine ⟨_, rfl, ?_⟩ | refine ⟨rfl, ?_⟩ | refine ⟨trivial, ?_⟩
  | refine ⟨Nat.le_of_ble_eq_true rfl, ?_⟩ | refine fun (_ : Addr) (_ : _ ∉ owns _) => ?_ | refine ⟨by decide, ?_⟩
  | refine iteHT rfl ?_ | refine iteHF rfl ?_)
local macro_rules | `(tactic| walk_at "dw") => `(tactic| repeat (walk_at "dw1"))
variable {G : Pg} {f : Addr} {fd : FuncData} {SG LT FG : Str} {GR : Int} {TW : List Str} {nm : Str → Bool} {CS CV : Addr}
/-- what sum_value does with what it is given -/
def TSum (LT FG SG : Str) (GR : Int) (TW : List Str) (nm : Str → Bool) (CS CV : Addr) : TD := fun as Qd Ed => ∃ d h, as = [.sh d, .sh h] ∧ szP d ≤ 100000 ∧ CVals [h] ∧ (fitsS LT FG GR TW d = false → Ed CS [("total", d)] as) ∧
  (fitsS LT FG GR TW d = true → valsP LT FG SG h = false → Ed CV [("held", h)] as) ∧ (fitsS LT FG GR TW d = true → valsP LT FG SG h = true → CCnt nm GR TW [d, h] ∧ Qd (.sh (cntM [d, h])) as)
theorem ok_sum_value (B : Blt G.mg) (h1 : Has G "fits" P_fits 7 (PureN 2 CFits fun ds => .bool (fitsS LT FG GR TW (ds.getD 1 .none)))) (h2 : Has G "is_values" P_is_values 3 (PureN 1 CVals (b1 (valsP LT FG SG)))) (h3 : Has G "counted" P_counted 3 (PureN 2 (CCnt nm GR TW) cntM))
    (oS : OwnX G "BadSum" CS "total" 1) (oV : OwnX G "BadValues" CV "held" 1) (F : Fun G.K "sum_value" "sum_value" s_sum_value f fd) : FnG G 8 f fd P_sum_value (SpD G.K G.Tb (TSum LT FG SG GR TW nm CS CV)) := by
  refine fn_ok F sc_sum_value (fun as Qd Ed ⟨d, h, e, _⟩ => by rw [e]; rfl) fun W as Qd Ed hT => ?_
  obtain ⟨d, h, rfl, hz, hv, q1, q2, q3⟩ := hT
  have left : ∀ env : List Sl, Left [Sl.sh d, .sh h] env [.sh d, .sh h] := left_sh [d, h]
  show SDs _ _ [.sh d, .sh h] _
  walk_at "dw"
  refine ⟨⟨d, rfl, hz⟩, ?_⟩
  walk_at "dw"
  show if (!fitsS LT FG GR TW d) = true then _ else _
  cases hf : fitsS LT FG GR TW d with
  | false =>
    refine iteHT rfl ?_
    refine sds_cons (sd_raiseO oS (Nat.le_of_ble_eq_true rfl) ?_ (by kernel_rfl))
    walk_at "dw"
    exact ⟨_, left _, q1 hf⟩
  | true =>
    refine iteHF rfl ?_
    walk_at "dw"
    refine ⟨hv, ?_⟩
    walk_at "dw"
    show if (!valsP LT FG SG h) = true then _ else _
    cases hg : valsP LT FG SG h with
    | false =>
      refine iteHT rfl ?_
      refine sds_cons (sd_raiseO oV (Nat.le_of_ble_eq_true rfl) ?_ (by kernel_rfl))
      walk_at "dw"
      exact ⟨_, left _, q2 hf hg⟩
    | true =>
      obtain ⟨c, q⟩ := q3 hf hg
      refine iteHF rfl ?_
      walk_at "dw"
      refine ⟨c, ?_⟩
      exact ⟨_, left _, q⟩
end K8

namespace K8
open PySem PySem.Spec PyProof.Rows L2 Dw
local macro_rules | `(tactic| walk_at "dwvis") => `(tactic| exact vis_of (by kernel_rfl))
local macro_rules | `(tactic| walk_at "dwbin") => `(tactic| first
  | refine ⟨_, od_eqS, ?_⟩ | refine ⟨_, od_neS, ?_⟩ | refine ⟨_, od_add, ?_⟩ | refine ⟨_, od_sub, ?_⟩ | refine ⟨_, od_lt, ?_⟩ | refine ⟨_, od_le, ?_⟩ | refine ⟨_, od_gt, ?_⟩ | refine ⟨_, od_ge, ?_⟩ | refine ⟨_, od_eqI, ?_⟩ | refine ⟨_, od_eqB, ?_⟩ | refine ⟨_, od_neB, ?_⟩
  | refine ⟨_, od_isN, ?_⟩ | refine ⟨_, od_addS (by assumption), ?_⟩ | refine ⟨_, od_inT, ?_⟩ | refine ⟨_, od_notN, ?_⟩ | refine ⟨_, od_inSign, ?_⟩ | refine ⟨_, od_notInSign, ?_⟩)
local macro_rules | `(tactic| walk_at "dwcd") => `(tactic| first
  | refine ⟨_, cd_len (by assumption), ?_⟩ | refine ⟨_, cd_lenS (by assumption), ?_⟩ | refine ⟨_, cd_abs, ?_⟩ | refine ⟨_, cd_intI, ?_⟩ | refine ⟨_, cd_intB, ?_⟩ | refine ⟨_, cd_all, ?_⟩ | refine ⟨_, cd_any, ?_⟩ | refine ⟨_, cd_sum, ?_⟩)
local macro_rules | `(tactic| walk_at "dwname") => `(tactic| first
  | refine ev_name (i := 0) rfl ?_ rfl (by walk_at "dwvis") | refine ev_name (i := 1) rfl ?_ rfl (by walk_at "dwvis")
  | refine ev_name (i := 2) rfl ?_ rfl (by walk_at "dwvis") | refine ev_name (i := 3) rfl ?_ rfl (by walk_at "dwvis")
  | refine ev_name (i := 4) rfl ?_ rfl (by walk_at "dwvis") | refine ev_name (i := 5) rfl ?_ rfl (by walk_at "dwvis") | refine ev_name (i := 6) rfl ?_ rfl (by walk_at "dwvis") | refine ev_name (i := 7) rfl ?_ rfl (by walk_at "dwvis") | refine ev_name (i := 8) rfl ?_ rfl (by walk_at "dwvis") | refine ev_name (i := 9) rfl ?_ rfl (by walk_at "dwvis") | refine ev_name (i := 10) rfl ?_ rfl (by walk_at "dwvis") | refine ev_name (i := 11) rfl ?_ rfl (by walk_at "dwvis")
  | refine ev_globD (by assumption) ?_ (by kernel_rfl))
local macro_rules | `(tactic| walk_at "dwcall") => `(tactic| first
  | refine ev_callH (by assumption) (Nat.le_of_ble_eq_true rfl) ?_ (by kernel_rfl)
  | refine ev_ex (ex_callB (id := "len") (x := "len") ?_ (by kernel_rfl) (Blt.len (by assumption)) PySem.boot_len)
  | refine ev_isi2 (n1 := "list") (n2 := "tuple") (T1 := "list") (T2 := "tuple") ?_ (by decide) (by kernel_rfl) (Blt.isinstance (by assumption)) (by kernel_rfl) (Blt.list (by assumption)) PyProof.Rows.boot_list (by kernel_rfl) (Blt.tuple (by assumption)) PyProof.Rows.boot_tuple
  | refine ev_isi (n := "int") (T := "int") ?_ (by decide) (by kernel_rfl) (Blt.isinstance (by assumption)) (by kernel_rfl) (Blt.int (by assumption)) PyProof.Rows.boot_int
  | refine ev_isi (n := "bool") (T := "bool") ?_ (by decide) (by kernel_rfl) (Blt.isinstance (by assumption)) (by kernel_rfl) (Blt.bool (by assumption)) PyProof.Rows.boot_bool
  | refine ev_isi (n := "str") (T := "str") ?_ (by decide) (by kernel_rfl) (Blt.isinstance (by assumption)) (by kernel_rfl) (Blt.str (by assumption)) PyProof.Rows.boot_str
  | refine ev_isi (n := "dict") (T := "dict") ?_ (by decide) (by kernel_rfl) (Blt.isinstance (by assumption)) (by kernel_rfl) (Blt.dict (by assumption)) PyProof.Rows.boot_dict
  | refine ev_ex (ex_callB (id := "all") (x := "all") ?_ (by kernel_rfl) (Blt.all (by assumption)) PyProof.Rows.boot_all)
  | refine ev_ex (ex_callB (id := "any") (x := "any") ?_ (by kernel_rfl) (Blt.any (by assumption)) PyProof.Rows.boot_any)
  | refine ev_ex (ex_callB (id := "abs") (x := "abs") ?_ (by kernel_rfl) (Blt.abs (by assumption)) PyProof.Rows.boot_abs)
  | refine ev_ex (ex_callTy (T := "int") (x := "int") ?_ (by kernel_rfl) (Blt.int (by assumption)) PyProof.Rows.boot_int))
local macro_rules | `(tactic| walk_at "dwset") => `(tactic| first
  | refine sd_set (i := 0) ?_ rfl (of_decide_eq_true (by kernel_rfl)) (loc_of (by kernel_rfl)) (loc_of (by kernel_rfl)) | refine sd_set (i := 1) ?_ rfl (of_decide_eq_true (by kernel_rfl)) (loc_of (by kernel_rfl)) (loc_of (by kernel_rfl)) | refine sd_set (i := 2) ?_ rfl (of_decide_eq_true (by kernel_rfl)) (loc_of (by kernel_rfl)) (loc_of (by kernel_rfl)) | refine sd_set (i := 3) ?_ rfl (of_decide_eq_true (by kernel_rfl)) (loc_of (by kernel_rfl)) (loc_of (by kernel_rfl)) | refine sd_set (i := 4) ?_ rfl (of_decide_eq_true (by kernel_rfl)) (loc_of (by kernel_rfl)) (loc_of (by kernel_rfl)) | refine sd_set (i := 5) ?_ rfl (of_decide_eq_true (by kernel_rfl)) (loc_of (by kernel_rfl)) (loc_of (by kernel_rfl)) | refine sd_set (i := 6) ?_ rfl (of_decide_eq_true (by kernel_rfl)) (loc_of (by kernel_rfl)) (loc_of (by kernel_rfl)) | refine sd_set (i := 7) ?_ rfl (of_decide_eq_true (by kernel_rfl)) (loc_of (by kernel_rfl)) (loc_of (by kernel_rfl)) | refine sd_set (i := 8) ?_ rfl (of_decide_eq_true (by kernel_rfl)) (loc_of (by kernel_rfl)) (loc_of (by kernel_rfl)) | refine sd_set (i := 9) ?_ rfl (of_decide_eq_true (by kernel_rfl)) (loc_of (by kernel_rfl)) (loc_of (by kernel_rfl)) | refine sd_set (i := 10) ?_ rfl (of_decide_eq_true (by kernel_rfl)) (loc_of (by kernel_rfl)) (loc_of (by kernel_rfl)) | refine sd_set (i := 11) ?_ rfl (of_decide_eq_true (by kernel_rfl)) (loc_of (by kernel_rfl)) (loc_of (by kernel_rfl)))
local macro_rules | `(tactic| walk_at "dwev") => `(tactic| first
  | (show EV _ (.Name _ _) _ _; walk_at "dwname")
  | (show EV _ (.Call _ _ _ _) _ _; walk_at "dwcall")
  | refine ev_int ?_ | refine ev_str ?_ | walk_at "st" | refine ev_ix ?_ | refine ev_tup ?_ | refine ev_ex (ex_cmp ?_) | refine ev_ex (ex_bin ?_)
  | refine ev_none ?_ | refine ev_bool ?_ | refine ev_and ?_ | refine ev_or ?_ | refine ev_one ?_ | refine ev_not ?_
  | refine ev_chain ?_ | refine ev_ex (ex_un ?_) | refine ev_ex (ex_ifExp ?_) | refine ev_ex (ex_lst ?_))
local macro_rules | `(tactic| walk_at "dw1") => `(tactic| first
  | (show SDs _ _ _ _; first | refine sds_cons ?_ | refine sds_nil ?_)
  | (show SD _ _ _ _; first | refine sd_ret ?_ | refine sd_if ?_ | walk_at "dwset")
  | (show EV _ _ _ _; walk_at "dwev")
  | (show EVs _ _ _ _; first | refine evs_nil ?_ | refine evs_cons ?_)
  | (show EX _ _ _ _; first | refine ex_ifExp ?_ | refine ex_lst ?_ | refine ex_ev ?_)
  | (show ET _ _ _ _; first | refine et_cmp ?_ | refine et_not ?_ | refine et_bo ?_ | refine et_val ?_)
  | (show EW _ _ _ _; first | refine ew_and ?_ | refine ew_or ?_ | refine ew_and1 ?_ | refine ew_or1 ?_)
  | (show ∃ d, IxD _ _ _ d ∧ _; first | refine ⟨_, ix_i (by first | rfl | assumption) (by first | exact atI0 | exact atI1 | exact atI2 | rfl | assumption), ?_⟩ | refine ⟨_, ix_s (by assumption) (by first | assumption | rfl), ?_⟩)
  | (show ∃ Qr, CallD _ _ _ Qr ∧ _; walk_at "dwcd")
  | (show ∃ Qr, BinD _ _ _ _ Qr ∧ _; walk_at "dwbin")
  | (show ∃ Qr, CmpD _ _ _ _ Qr ∧ _; walk_at "dwbin")
  | (show ∃ t, CmpD _ _ _ _ (· = .sh (.bool t)) ∧ _; walk_at "dwbin")
  | (show ∀ r, r = _ → _; intro r hr; subst hr) | refine fun (_ : ∀ (p : Addr) (o : OD), _ = Sl.own p o → _) => ?_
  | refine ⟨_, rfl, ?_⟩ | refine ⟨rfl, ?_⟩ | refine ⟨trivial, ?_⟩
  | refine ⟨Nat.le_of_ble_eq_true rfl, ?_⟩ | refine fun (_ : Addr) (_ : _ ∉ owns _) => ?_ | refine ⟨by decide, ?_⟩
  | refine iteHT rfl ?_ | refine iteHF rfl ?_)
local macro_rules | `(tactic| walk_at "dw") => `(tactic| repeat (walk_at "dw1"))
local macro_rules | `(tactic| walk_at "st") => `(tactic| (refine ev_ixO (i := 0) (ev_int ?_) rfl (by walk_at "dwvis") ⟨_, _, rfl⟩; refine ⟨_, rfl, _, _, rfl, rfl, _, rfl, ?_⟩))
variable {G : Pg} {f : Addr} {fd : FuncData}
/-- a stream that at most m draws were taken from -/
def SOk (m : Nat) (xs : List PD) : Prop := ∃ a b c : Int, xs = [.int a, .int b, .int c] ∧ 0 ≤ a ∧ 0 ≤ b ∧ b < 2 ^ 40 ∧ 0 ≤ c ∧ c ≤ m
theorem SOk.mono {m n : Nat} {xs : List PD} (h : SOk m xs) (hm : m ≤ n) : SOk n xs := by
  obtain ⟨a, b, c, e, h1, h2, h3, h4, h5⟩ := h
  exact ⟨a, b, c, e, h1, h2, h3, h4, by omega⟩
def CDraw : List PD → List PD → Prop := fun xs ds => SOk (2 ^ 30) xs ∧ ∃ k : Int, ds = [.int k] ∧ 1 ≤ k ∧ k ≤ 2 ^ 31
def PDraw : List PD → List PD → PD → List PD → Prop := fun xs ds d xs' => (∀ m, SOk m xs → SOk (m + 1) xs') ∧ ∀ k : Int, ds = [.int k] → ∃ r : Int, d = .int r ∧ 0 ≤ r ∧ r < k
theorem ok_draw (B : Blt G.mg) (F : Fun G.K "_law_draw" "_law_draw" s__law_draw f fd) : FnG G 1 f fd P__law_draw (SpD G.K G.Tb (StN 1 CDraw PDraw)) := by
  refine fn_st F sc__law_draw rfl fun W Z p xs ds hl hC => ?_
  obtain ⟨⟨a, b, c, rfl, ha, hb, hb2, hc, hc2⟩, k, rfl, hk, hk2⟩ := hC
  have hk3 : k.natAbs < 2 ^ 32 := by omega
  have inv : ∀ {m : Nat}, SOk m [.int a, .int b, .int c] → c ≤ m := fun {m} h => by
    obtain ⟨a', b', c', e, _, _, _, _, h5⟩ := h
    injection e with e1 e; injection e with e2 e; injection e with e3 _; injection e3 with e3
    rw [e3]
    exact h5
  show SDs _ _ [.own p (.lst [.int a, .int b, .int c]), .sh (.int k), .no, .no] _
  walk_at "dw"
  by_cases h0 : 0 < a
  · refine iteHT (decide_eq_true h0) ?_
    walk_at "dw"
    refine ⟨_, od_mod (by omega), ?_⟩
    walk_at "dw"
    refine sd_store (i := 0) ?_ rfl (by walk_at "dwvis")
    walk_at "dw"
    refine ⟨_, od_fdivW ⟨by omega, Nat.lt_trans (log2_of (n := 32) hk3 (by decide)) (by decide)⟩, ?_⟩
    walk_at "dw"
    refine ⟨⟨_, _, rfl⟩, ?_⟩
    walk_at "dw"
    refine ⟨_, _, _, 0, rfl, rfl, rfl, rfl, ?_⟩
    walk_at "dw"
    refine ⟨_, _, rfl, rfl, fun m h => ?_, fun k' e => ?_⟩
    · refine ⟨a / k, b, c, rfl, Int.ediv_nonneg ha (by omega), hb, hb2, hc, ?_⟩
      have := inv h
      omega
    · cases e
      exact ⟨_, rfl, by rw [Int.fmod_eq_emod_of_nonneg _ (by omega)]; exact Int.emod_nonneg _ (by omega), by rw [Int.fmod_eq_emod_of_nonneg _ (by omega)]; exact Int.emod_lt_of_pos _ (by omega)⟩
  · refine iteHF (decide_eq_false h0) ?_
    walk_at "dw"
    refine sd_store (i := 0) ?_ rfl (by walk_at "dwvis")
    walk_at "dw"
    refine ⟨⟨_, _, rfl⟩, ?_⟩
    walk_at "dw"
    refine ⟨_, _, _, 2, rfl, rfl, rfl, rfl, ?_⟩
    show SDs _ _ [.own p (.lst [.int a, .int b, .int (c + 1)]), .sh (.int k), .no, .no] _
    walk_at "dw"
    refine ⟨_, od_mul (.inl ⟨by decide, by decide⟩), ?_⟩
    walk_at "dw"
    refine ⟨_, od_pow ⟨by decide, by decide, by omega⟩, ?_⟩
    walk_at "dw"
    refine ⟨_, od_mod (by decide), ?_⟩
    walk_at "dw"
    refine ⟨_, od_mul (.inr ⟨by decide, by decide⟩), ?_⟩
    walk_at "dw"
    refine ⟨_, od_mod (by decide), ?_⟩
    walk_at "dw"
    refine ⟨_, od_fdivW ⟨by decide, by decide⟩, ?_⟩
    walk_at "dw"
    refine ⟨_, od_mod (by omega), ?_⟩
    walk_at "dw"
    refine ⟨_, _, rfl, rfl, fun m h => ?_, fun k' e => ?_⟩
    · refine ⟨a, b, c + 1, rfl, ha, hb, hb2, by omega, ?_⟩
      have := inv h
      omega
    · cases e
      exact ⟨_, rfl, by rw [Int.fmod_eq_emod_of_nonneg _ (by omega)]; exact Int.emod_nonneg _ (by omega), by rw [Int.fmod_eq_emod_of_nonneg _ (by omega)]; exact Int.emod_lt_of_pos _ (by omega)⟩
end K8

namespace K8
open PySem PySem.Spec PyProof.Rows L2 Dw
local macro_rules | `(tactic| walk_at "dwvis") => `(tactic| exact vis_of (by kernel_rfl))
local macro_rules | `(tactic| walk_at "dwbin") => `(tactic| first
  | refine ⟨_, od_eqS, ?_⟩ | refine ⟨_, od_neS, ?_⟩ | refine ⟨_, od_add, ?_⟩ | refine ⟨_, od_sub, ?_⟩ | refine ⟨_, od_lt, ?_⟩ | refine ⟨_, od_le, ?_⟩ | refine ⟨_, od_gt, ?_⟩ | refine ⟨_, od_ge, ?_⟩ | refine ⟨_, od_eqI, ?_⟩ | refine ⟨_, od_eqB, ?_⟩ | refine ⟨_, od_neB, ?_⟩
  | refine ⟨_, od_isN, ?_⟩ | refine ⟨_, od_addS (by assumption), ?_⟩ | refine ⟨_, od_inT, ?_⟩ | refine ⟨_, od_notN, ?_⟩ | refine ⟨_, od_inSign, ?_⟩ | refine ⟨_, od_notInSign, ?_⟩)
local macro_rules | `(tactic| walk_at "dwcd") => `(tactic| first
  | refine ⟨_, cd_len (by assumption), ?_⟩ | refine ⟨_, cd_lenS (by assumption), ?_⟩ | refine ⟨_, cd_abs, ?_⟩ | refine ⟨_, cd_intI, ?_⟩ | refine ⟨_, cd_intB, ?_⟩ | refine ⟨_, cd_all, ?_⟩ | refine ⟨_, cd_any, ?_⟩ | refine ⟨_, cd_sum, ?_⟩)
local macro_rules | `(tactic| walk_at "dwname") => `(tactic| first
  | refine ev_name (i := 0) rfl ?_ rfl (by walk_at "dwvis") | refine ev_name (i := 1) rfl ?_ rfl (by walk_at "dwvis")
  | refine ev_name (i := 2) rfl ?_ rfl (by walk_at "dwvis") | refine ev_name (i := 3) rfl ?_ rfl (by walk_at "dwvis")
  | refine ev_name (i := 4) rfl ?_ rfl (by walk_at "dwvis") | refine ev_name (i := 5) rfl ?_ rfl (by walk_at "dwvis") | refine ev_name (i := 6) rfl ?_ rfl (by walk_at "dwvis") | refine ev_name (i := 7) rfl ?_ rfl (by walk_at "dwvis") | refine ev_name (i := 8) rfl ?_ rfl (by walk_at "dwvis") | refine ev_name (i := 9) rfl ?_ rfl (by walk_at "dwvis") | refine ev_name (i := 10) rfl ?_ rfl (by walk_at "dwvis") | refine ev_name (i := 11) rfl ?_ rfl (by walk_at "dwvis")
  | refine ev_globD (by assumption) ?_ (by kernel_rfl))
local macro_rules | `(tactic| walk_at "dwcall") => `(tactic| first
  | refine ev_callH (by assumption) (Nat.le_of_ble_eq_true rfl) ?_ (by kernel_rfl)
  | refine ev_ex (ex_callB (id := "len") (x := "len") ?_ (by kernel_rfl) (Blt.len (by assumption)) PySem.boot_len)
  | refine ev_isi2 (n1 := "list") (n2 := "tuple") (T1 := "list") (T2 := "tuple") ?_ (by decide) (by kernel_rfl) (Blt.isinstance (by assumption)) (by kernel_rfl) (Blt.list (by assumption)) PyProof.Rows.boot_list (by kernel_rfl) (Blt.tuple (by assumption)) PyProof.Rows.boot_tuple
  | refine ev_isi (n := "int") (T := "int") ?_ (by decide) (by kernel_rfl) (Blt.isinstance (by assumption)) (by kernel_rfl) (Blt.int (by assumption)) PyProof.Rows.boot_int
  | refine ev_isi (n := "bool") (T := "bool") ?_ (by decide) (by kernel_rfl) (Blt.isinstance (by assumption)) (by kernel_rfl) (Blt.bool (by assumption)) PyProof.Rows.boot_bool
  | refine ev_isi (n := "str") (T := "str") ?_ (by decide) (by kernel_rfl) (Blt.isinstance (by assumption)) (by kernel_rfl) (Blt.str (by assumption)) PyProof.Rows.boot_str
  | refine ev_isi (n := "dict") (T := "dict") ?_ (by decide) (by kernel_rfl) (Blt.isinstance (by assumption)) (by kernel_rfl) (Blt.dict (by assumption)) PyProof.Rows.boot_dict
  | refine ev_ex (ex_callB (id := "all") (x := "all") ?_ (by kernel_rfl) (Blt.all (by assumption)) PyProof.Rows.boot_all)
  | refine ev_ex (ex_callB (id := "any") (x := "any") ?_ (by kernel_rfl) (Blt.any (by assumption)) PyProof.Rows.boot_any)
  | refine ev_ex (ex_callB (id := "abs") (x := "abs") ?_ (by kernel_rfl) (Blt.abs (by assumption)) PyProof.Rows.boot_abs)
  | refine ev_ex (ex_callTy (T := "int") (x := "int") ?_ (by kernel_rfl) (Blt.int (by assumption)) PyProof.Rows.boot_int))
local macro_rules | `(tactic| walk_at "dwset") => `(tactic| first
  | refine sd_set (i := 0) ?_ rfl (of_decide_eq_true (by kernel_rfl)) (loc_of (by kernel_rfl)) (loc_of (by kernel_rfl)) | refine sd_set (i := 1) ?_ rfl (of_decide_eq_true (by kernel_rfl)) (loc_of (by kernel_rfl)) (loc_of (by kernel_rfl)) | refine sd_set (i := 2) ?_ rfl (of_decide_eq_true (by kernel_rfl)) (loc_of (by kernel_rfl)) (loc_of (by kernel_rfl)) | refine sd_set (i := 3) ?_ rfl (of_decide_eq_true (by kernel_rfl)) (loc_of (by kernel_rfl)) (loc_of (by kernel_rfl)) | refine sd_set (i := 4) ?_ rfl (of_decide_eq_true (by kernel_rfl)) (loc_of (by kernel_rfl)) (loc_of (by kernel_rfl)) | refine sd_set (i := 5) ?_ rfl (of_decide_eq_true (by kernel_rfl)) (loc_of (by kernel_rfl)) (loc_of (by kernel_rfl)) | refine sd_set (i := 6) ?_ rfl (of_decide_eq_true (by kernel_rfl)) (loc_of (by kernel_rfl)) (loc_of (by kernel_rfl)) | refine sd_set (i := 7) ?_ rfl (of_decide_eq_true (by kernel_rfl)) (loc_of (by kernel_rfl)) (loc_of (by kernel_rfl)) | refine sd_set (i := 8) ?_ rfl (of_decide_eq_true (by kernel_rfl)) (loc_of (by kernel_rfl)) (loc_of (by kernel_rfl)) | refine sd_set (i := 9) ?_ rfl (of_decide_eq_true (by kernel_rfl)) (loc_of (by kernel_rfl)) (loc_of (by kernel_rfl)) | refine sd_set (i := 10) ?_ rfl (of_decide_eq_true (by kernel_rfl)) (loc_of (by kernel_rfl)) (loc_of (by kernel_rfl)) | refine sd_set (i := 11) ?_ rfl (of_decide_eq_true (by kernel_rfl)) (loc_of (by kernel_rfl)) (loc_of (by kernel_rfl)))
local macro_rules | `(tactic| walk_at "dwev") => `(tactic| first
  | (show EV _ (.Name _ _) _ _; walk_at "dwname")
  | (show EV _ (.Call _ _ _ _) _ _; walk_at "dwcall")
  | refine ev_int ?_ | refine ev_str ?_ | walk_at "st" | refine ev_ix ?_ | refine ev_tup ?_ | refine ev_ex (ex_cmp ?_) | refine ev_ex (ex_bin ?_)
  | refine ev_none ?_ | refine ev_bool ?_ | refine ev_and ?_ | refine ev_or ?_ | refine ev_one ?_ | refine ev_not ?_
  | refine ev_chain ?_ | refine ev_ex (ex_un ?_) | refine ev_ex (ex_ifExp ?_) | refine ev_ex (ex_lst ?_))
local macro_rules | `(tactic| walk_at "dw1") => `(tactic| first
  | (show SDs _ _ _ _; first | refine sds_cons ?_ | refine sds_nil ?_)
  | (show SD _ _ _ _; first | refine sd_ret ?_ | refine sd_if ?_ | walk_at "dwset")
  | (show EV _ _ _ _; walk_at "dwev")
  | (show EVs _ _ _ _; first | refine evs_nil ?_ | refine evs_cons ?_)
  | (show EX _ _ _ _; first | refine ex_ifExp ?_ | refine ex_lst ?_ | refine ex_ev ?_)
  | (show ET _ _ _ _; first | refine et_cmp ?_ | refine et_not ?_ | refine et_bo ?_ | refine et_val ?_)
  | (show EW _ _ _ _; first | refine ew_and ?_ | refine ew_or ?_ | refine ew_and1 ?_ | refine ew_or1 ?_)
  | (show ∃ d, IxD _ _ _ d ∧ _; first | refine ⟨_, ix_i (by first | rfl | assumption) (by first | exact atI0 | exact atI1 | exact atI2 | rfl | assumption), ?_⟩ | refine ⟨_, ix_s (by assumption) (by first | assumption | rfl), ?_⟩)
  | (show ∃ Qr, CallD _ _ _ Qr ∧ _; walk_at "dwcd")
  | (show ∃ Qr, BinD _ _ _ _ Qr ∧ _; walk_at "dwbin")
  | (show ∃ Qr, CmpD _ _ _ _ Qr ∧ _; walk_at "dwbin")
  | (show ∃ t, CmpD _ _ _ _ (· = .sh (.bool t)) ∧ _; walk_at "dwbin")
  | (show ∀ r, r = _ → _; intro r hr; subst hr) | refine fun (_ : ∀ (p : Addr) (o : OD), _ = Sl.own p o → _) => ?_
  | refine ⟨_, rfl, ?_⟩ | refine ⟨rfl, ?_⟩ | refine ⟨trivial, ?_⟩
  | refine ⟨Nat.le_of_ble_eq_true rfl, ?_⟩ | refine fun (_ : Addr) (_ : _ ∉ owns _) => ?_ | refine ⟨by decide, ?_⟩
  | refine iteHT rfl ?_ | refine iteHF rfl ?_)
local macro_rules | `(tactic| walk_at "dw") => `(tactic| repeat (walk_at "dw1"))
local macro_rules | `(tactic| walk_at "st") => `(tactic| (refine ev_ixO (i := 0) (ev_int ?_) rfl (by walk_at "dwvis") ⟨_, _, rfl⟩; refine ⟨_, rfl, _, _, rfl, rfl, _, rfl, ?_⟩))
variable {G : Pg} {f : Addr} {fd : FuncData}
theorem atI_in {l : List PD} {r : Int} (h0 : 0 ≤ r) (h1 : r < l.length) : ∃ y, atI l r = some y ∧ y ∈ l := by
  obtain ⟨n, rfl⟩ := Int.eq_ofNat_of_zero_le h0
  have hn : n < l.length := by omega
  have h : ixN l.length ((n : Nat) : Int) = some n := by
    unfold ixN
    simp
    omega
  refine ⟨l[n], ?_, List.getElem_mem hn⟩
  unfold atI
  rw [h]
  exact List.getElem?_eq_getElem hn
def CPick : List PD → List PD → Prop := fun xs ds => SOk (2 ^ 30) xs ∧ ∃ d l, ds = [d] ∧ items d = some l ∧ 1 ≤ l.length ∧ l.length ≤ 1000
def PPick : List PD → List PD → PD → List PD → Prop := fun xs ds d xs' => (∀ m, SOk m xs → SOk (m + 1) xs') ∧ ∀ d0 l, ds = [d0] → items d0 = some l → d ∈ l
theorem ok_pick (B : Blt G.mg) (h1 : Has G "_law_draw" P__law_draw 1 (StN 1 CDraw PDraw)) (F : Fun G.K "_law_pick" "_law_pick" s__law_pick f fd) : FnG G 2 f fd P__law_pick (SpD G.K G.Tb (StN 1 CPick PPick)) := by
  refine fn_st F sc__law_pick rfl fun W Z p xs ds hl hC => ?_
  obtain ⟨hs, d0, l, rfl, hi, hn1, hn2⟩ := hC
  show SDs _ _ [.own p (.lst xs), .sh d0] _
  refine sds_cons (sd_ret (ex_ev (ev_ix ?_)))
  walk_at "dw"
  refine ev_callS (i := 0) h1 (Nat.le_refl _) ⟨_, _, rfl, ?_⟩ (by kernel_rfl) rfl (by walk_at "dwvis")
  walk_at "dw"
  refine ⟨⟨hs, _, rfl, by omega, by omega⟩, fun r xs' hp => ?_⟩
  obtain ⟨hp1, hp2⟩ := hp
  obtain ⟨r, rfl, r1, r2⟩ := hp2 _ rfl
  obtain ⟨y, y1, y2⟩ := atI_in r1 r2
  refine ⟨y, ix_i hi y1, y, xs', rfl, rfl, hp1, fun d' l' e1 e2 => ?_⟩
  cases e1
  rw [hi] at e2
  cases e2
  exact y2
def Shp (l : List PD) : Prop := ∀ x ∈ l, x.canLay0 = true ∧ x.depth ≤ 60 ∧ noDict x = true
theorem shp_nd : ∀ {l : List PD}, Shp l → noDictL l = true
  | [], _ => rfl
  | x :: l, h => by
    unfold noDictL
    rw [(h x List.mem_cons_self).2.2, shp_nd (fun y hy => h y (List.mem_cons_of_mem _ hy))]
    rfl
theorem shp_sh {l : List PD} (h : Shp l) : SeqAt.shaped (.list l) = true := by
  have h1 : ∀ {l : List PD}, Shp l → PyData.canLayAll0 l = true := by
    intro l
    induction l with
    | nil => intro _; simp [PyData.canLayAll0]
    | cons x l ih =>
      intro h
      simp only [PyData.canLayAll0, (h x List.mem_cons_self).1, ih fun y hy => h y (List.mem_cons_of_mem _ hy), Bool.and_self]
  have h2 : ∀ {l : List PD}, Shp l → PyData.depthAll l ≤ 60 := by
    intro l
    induction l with
    | nil => intro _; simp [PyData.depthAll]
    | cons x l ih =>
      intro h
      simp only [PyData.depthAll]
      exact Nat.max_le.mpr ⟨(h x List.mem_cons_self).2.1, ih fun y hy => h y (List.mem_cons_of_mem _ hy)⟩
  unfold SeqAt.shaped
  have h2 := h2 h
  rw [show (PyData.list l).canLay0 = PyData.canLayAll0 l by simp only [PyData.canLay0], h1 h, Bool.true_and]
  apply decide_eq_true
  simp only [PyData.depth]
  omega
theorem seqIx {n len : Nat} (h : n < len) : seqIndex? (n : Int) len = some n := by
  unfold seqIndex?
  have h1 : ¬ ((n : Int) < 0) := by omega
  have h2 : (0 ≤ (n : Int)) := by omega
  have h3 : ((n : Int) < len) := by omega
  simp [h1, h2, h3]
theorem perm_erase : ∀ (l : List PD) (n : Nat) (h : n < l.length), l.Perm (l[n] :: l.eraseIdx n)
  | a :: l, 0, _ => List.Perm.refl _
  | a :: l, n + 1, h => by
    have h' : n < l.length := by simpa using h
    have ih := perm_erase l n h'
    exact (List.Perm.cons a ih).trans (List.Perm.swap _ _ _)
def CMix : List PD → List PD → Prop := fun xs ds => SOk (2 ^ 29) xs ∧ ∃ d l, ds = [d] ∧ items d = some l ∧ l.length ≤ 1000 ∧ Shp l
def PMix : List PD → List PD → PD → List PD → Prop := fun xs ds d xs' => (∀ m, SOk m xs → SOk (m + 1000) xs') ∧ ∀ d0 l, ds = [d0] → items d0 = some l → ∃ l', d = .list l' ∧ l'.Perm l
theorem ok_mixed (B : Blt G.mg) (h1 : Has G "_law_draw" P__law_draw 1 (StN 1 CDraw PDraw)) (F : Fun G.K "_law_mixed" "_law_mixed" s__law_mixed f fd) : FnG G 2 f fd P__law_mixed (SpD G.K G.Tb (StN 1 CMix PMix)) := by
  refine fn_st F sc__law_mixed rfl fun W Z p xs ds hl hC => ?_
  obtain ⟨hs, d0, l, rfl, hi, hn, hsh⟩ := hC
  show SDs _ _ [.own p (.lst xs), .sh d0, .no, .no] _
  refine sds_cons (sd_par (i := 2) (j := 3) (ex2 (ex_callTy (T := "list") (x := "list") ?_ (by kernel_rfl) (Blt.list (by assumption)) PyProof.Rows.boot_list)) (of_decide_eq_true (by kernel_rfl)) rfl rfl (by decide) (by kernel_rfl) (by kernel_rfl) (fun X g => by have h := g.sc; revert h; generalize X.env = e; intro h; cases e; cases h; kernel_rfl))
  walk_at "dw"
  refine ⟨_, cd_list hi, fun r hr hown => ?_⟩
  obtain ⟨p2, rfl⟩ := hr
  refine ⟨(fun rv h => by cases h), ?_⟩
  refine ex_lst ?_
  walk_at "dw"
  rename_i p3 hp3
  refine ⟨(fun rv h => by cases h), fun hne => ?_⟩
  show SDs _ _ [.own p (.lst xs), .sh d0, .own p2 (.lst l), .own p3 (.lst [])] _
  refine sds_cons (sd_while (fun m e => ∃ st rest found, e = [.own p (.lst st), .sh d0, .own p2 (.lst rest), .own p3 (.lst found)] ∧ (rest ++ found).Perm l ∧ m = rest.length ∧ (∀ M, SOk M xs → SOk (M + found.length) st)) ⟨_, xs, l, [], rfl, by rw [List.append_nil], rfl, fun M h => h⟩ ?_)
  rintro m e ⟨st, rest, found, rfl, hp, rfl, hS⟩
  have hsub : ∀ x ∈ rest, x ∈ l := fun x hx => hp.subset (List.mem_append_left _ hx)
  have hR : Shp rest := fun x hx => hsh x (hsub x hx)
  have hlen : rest.length + found.length = l.length := by rw [← List.length_append]; exact hp.length_eq
  refine et_neNil (i := 2) rfl ?_ (shp_nd hR) (shp_sh hR) rfl (by walk_at "dwvis")
  cases rest with
  | nil =>
    refine iteHF rfl ?_
    refine sds_cons (sd_ret (ex_nameO (i := 3) rfl ?_ rfl (by walk_at "dwvis")))
    refine ⟨_, st, rfl, rfl, fun m hm => ?_, fun d' l' e1 e2 => ?_⟩
    · refine (hS m hm).mono ?_
      have : ([] : List PD).length = 0 := rfl
      omega
    · cases e1
      rw [hi] at e2
      cases e2
      exact ⟨found, rfl, hp⟩
  | cons y ys =>
    refine iteHT rfl ?_
    refine sds_cons (sd_expr (ex_append2 (i := 3) rfl ?_ rfl (by walk_at "dwvis")))
    refine ev_popAt (i := 2) ⟨_, _, rfl⟩ ?_ rfl (by walk_at "dwvis")
    refine ev_callS (i := 0) h1 (Nat.le_refl _) ⟨_, _, rfl, ?_⟩ (by kernel_rfl) rfl (by walk_at "dwvis")
    refine evs_cons (ev_lenO (i := 2) rfl ?_ rfl (by walk_at "dwvis") (by kernel_rfl) (Blt.len (by assumption)))
    walk_at "dw"
    have hS0 : SOk (2 ^ 30) st := (hS (2 ^ 29) hs).mono (by simp at hlen; omega)
    refine ⟨⟨hS0, _, rfl, by simp; omega, by simp at hlen ⊢; omega⟩, fun r st' hpd => ?_⟩
    obtain ⟨hp1, hp2⟩ := hpd
    obtain ⟨r, rfl, r1, r2⟩ := hp2 _ rfl
    obtain ⟨n, rfl⟩ := Int.eq_ofNat_of_zero_le r1
    have hn2 : n < (y :: ys).length := by omega
    refine ⟨n, p2, y :: ys, (y :: ys)[n], n, rfl, rfl, rfl, by omega, by simp at hlen hn2; omega, seqIx hn2, List.getElem?_eq_getElem hn2, ?_⟩
    refine ⟨found, rfl, by simp at hlen; omega, ?_⟩
    refine sds_nil ⟨_, ?_, st', (y :: ys).eraseIdx n, found ++ [(y :: ys)[n]], rfl, ?_, rfl, fun M hM => ?_⟩
    · rw [List.length_eraseIdx_of_lt hn2]
      simp
    · refine List.Perm.trans ?_ hp
      have h1 : (y :: ys).Perm ((y :: ys)[n] :: (y :: ys).eraseIdx n) := perm_erase _ _ hn2
      have h2 : ((y :: ys) ++ found).Perm (((y :: ys)[n] :: (y :: ys).eraseIdx n) ++ found) := List.Perm.append_right _ h1
      refine List.Perm.trans ?_ h2.symm
      rw [← List.append_assoc]
      refine List.Perm.trans (List.perm_append_comm) ?_
      rfl
    · rw [List.length_append]
      exact hp1 _ (hS M hM)
end K8

namespace K8
open PySem PySem.Spec PyProof.Rows L2 Dw
local macro_rules | `(tactic| walk_at "dwvis") => `(tactic| exact vis_of (by kernel_rfl))
local macro_rules | `(tactic| walk_at "dwbin") => `(tactic| first
  | refine ⟨_, od_eqS, ?_⟩ | refine ⟨_, od_neS, ?_⟩ | refine ⟨_, od_add, ?_⟩ | refine ⟨_, od_sub, ?_⟩ | refine ⟨_, od_lt, ?_⟩ | refine ⟨_, od_le, ?_⟩ | refine ⟨_, od_gt, ?_⟩ | refine ⟨_, od_ge, ?_⟩ | refine ⟨_, od_eqI, ?_⟩ | refine ⟨_, od_eqB, ?_⟩ | refine ⟨_, od_neB, ?_⟩
  | refine ⟨_, od_isN, ?_⟩ | refine ⟨_, od_addS (by assumption), ?_⟩ | refine ⟨_, od_inT, ?_⟩ | refine ⟨_, od_notN, ?_⟩ | refine ⟨_, od_inSign, ?_⟩ | refine ⟨_, od_notInSign, ?_⟩)
local macro_rules | `(tactic| walk_at "dwcd") => `(tactic| first
  | refine ⟨_, cd_len (by assumption), ?_⟩ | refine ⟨_, cd_lenS (by assumption), ?_⟩ | refine ⟨_, cd_abs, ?_⟩ | refine ⟨_, cd_intI, ?_⟩ | refine ⟨_, cd_intB, ?_⟩ | refine ⟨_, cd_all, ?_⟩ | refine ⟨_, cd_any, ?_⟩ | refine ⟨_, cd_sum, ?_⟩)
local macro_rules | `(tactic| walk_at "dwname") => `(tactic| first
  | refine ev_name (i := 0) rfl ?_ rfl (by walk_at "dwvis") | refine ev_name (i := 1) rfl ?_ rfl (by walk_at "dwvis")
  | refine ev_name (i := 2) rfl ?_ rfl (by walk_at "dwvis") | refine ev_name (i := 3) rfl ?_ rfl (by walk_at "dwvis")
  | refine ev_name (i := 4) rfl ?_ rfl (by walk_at "dwvis") | refine ev_name (i := 5) rfl ?_ rfl (by walk_at "dwvis") | refine ev_name (i := 6) rfl ?_ rfl (by walk_at "dwvis") | refine ev_name (i := 7) rfl ?_ rfl (by walk_at "dwvis") | refine ev_name (i := 8) rfl ?_ rfl (by walk_at "dwvis") | refine ev_name (i := 9) rfl ?_ rfl (by walk_at "dwvis") | refine ev_name (i := 10) rfl ?_ rfl (by walk_at "dwvis") | refine ev_name (i := 11) rfl ?_ rfl (by walk_at "dwvis")
  | refine ev_globD (by assumption) ?_ (by kernel_rfl))
local macro_rules | `(tactic| walk_at "dwcall") => `(tactic| first
  | refine ev_callH (by assumption) (Nat.le_of_ble_eq_true rfl) ?_ (by kernel_rfl)
  | refine ev_ex (ex_callB (id := "len") (x := "len") ?_ (by kernel_rfl) (Blt.len (by assumption)) PySem.boot_len)
  | refine ev_isi2 (n1 := "list") (n2 := "tuple") (T1 := "list") (T2 := "tuple") ?_ (by decide) (by kernel_rfl) (Blt.isinstance (by assumption)) (by kernel_rfl) (Blt.list (by assumption)) PyProof.Rows.boot_list (by kernel_rfl) (Blt.tuple (by assumption)) PyProof.Rows.boot_tuple
  | refine ev_isi (n := "int") (T := "int") ?_ (by decide) (by kernel_rfl) (Blt.isinstance (by assumption)) (by kernel_rfl) (Blt.int (by assumption)) PyProof.Rows.boot_int
  | refine ev_isi (n := "bool") (T := "bool") ?_ (by decide) (by kernel_rfl) (Blt.isinstance (by assumption)) (by kernel_rfl) (Blt.bool (by assumption)) PyProof.Rows.boot_bool
  | refine ev_isi (n := "str") (T := "str") ?_ (by decide) (by kernel_rfl) (Blt.isinstance (by assumption)) (by kernel_rfl) (Blt.str (by assumption)) PyProof.Rows.boot_str
  | refine ev_isi (n := "dict") (T := "dict") ?_ (by decide) (by kernel_rfl) (Blt.isinstance (by assumption)) (by kernel_rfl) (Blt.dict (by assumption)) PyProof.Rows.boot_dict
  | refine ev_ex (ex_callB (id := "all") (x := "all") ?_ (by kernel_rfl) (Blt.all (by assumption)) PyProof.Rows.boot_all)
  | refine ev_ex (ex_callB (id := "any") (x := "any") ?_ (by kernel_rfl) (Blt.any (by assumption)) PyProof.Rows.boot_any)
  | refine ev_ex (ex_callB (id := "abs") (x := "abs") ?_ (by kernel_rfl) (Blt.abs (by assumption)) PyProof.Rows.boot_abs)
  | refine ev_ex (ex_callTy (T := "int") (x := "int") ?_ (by kernel_rfl) (Blt.int (by assumption)) PyProof.Rows.boot_int))
local macro_rules | `(tactic| walk_at "dwset") => `(tactic| first
  | refine sd_set (i := 0) ?_ rfl (of_decide_eq_true (by kernel_rfl)) (loc_of (by kernel_rfl)) (loc_of (by kernel_rfl)) | refine sd_set (i := 1) ?_ rfl (of_decide_eq_true (by kernel_rfl)) (loc_of (by kernel_rfl)) (loc_of (by kernel_rfl)) | refine sd_set (i := 2) ?_ rfl (of_decide_eq_true (by kernel_rfl)) (loc_of (by kernel_rfl)) (loc_of (by kernel_rfl)) | refine sd_set (i := 3) ?_ rfl (of_decide_eq_true (by kernel_rfl)) (loc_of (by kernel_rfl)) (loc_of (by kernel_rfl)) | refine sd_set (i := 4) ?_ rfl (of_decide_eq_true (by kernel_rfl)) (loc_of (by kernel_rfl)) (loc_of (by kernel_rfl)) | refine sd_set (i := 5) ?_ rfl (of_decide_eq_true (by kernel_rfl)) (loc_of (by kernel_rfl)) (loc_of (by kernel_rfl)) | refine sd_set (i := 6) ?_ rfl (of_decide_eq_true (by kernel_rfl)) (loc_of (by kernel_rfl)) (loc_of (by kernel_rfl)) | refine sd_set (i := 7) ?_ rfl (of_decide_eq_true (by kernel_rfl)) (loc_of (by kernel_rfl)) (loc_of (by kernel_rfl)) | refine sd_set (i := 8) ?_ rfl (of_decide_eq_true (by kernel_rfl)) (loc_of (by kernel_rfl)) (loc_of (by kernel_rfl)) | refine sd_set (i := 9) ?_ rfl (of_decide_eq_true (by kernel_rfl)) (loc_of (by kernel_rfl)) (loc_of (by kernel_rfl)) | refine sd_set (i := 10) ?_ rfl (of_decide_eq_true (by kernel_rfl)) (loc_of (by kernel_rfl)) (loc_of (by kernel_rfl)) | refine sd_set (i := 11) ?_ rfl (of_decide_eq_true (by kernel_rfl)) (loc_of (by kernel_rfl)) (loc_of (by kernel_rfl)))
local macro_rules | `(tactic| walk_at "dwev") => `(tactic| first
  | (show EV _ (.Name _ _) _ _; walk_at "dwname")
  | (show EV _ (.Call _ _ _ _) _ _; walk_at "dwcall")
  | refine ev_int ?_ | refine ev_str ?_ | walk_at "st" | refine ev_ix ?_ | refine ev_tup ?_ | refine ev_ex (ex_cmp ?_) | refine ev_ex (ex_bin ?_)
  | refine ev_none ?_ | refine ev_bool ?_ | refine ev_and ?_ | refine ev_or ?_ | refine ev_one ?_ | refine ev_not ?_
  | refine ev_chain ?_ | refine ev_ex (ex_un ?_) | refine ev_ex (ex_ifExp ?_) | refine ev_ex (ex_lst ?_))
local macro_rules | `(tactic| walk_at "dw1") => `(tactic| first
  | (show SDs _ _ _ _; first | refine sds_cons ?_ | refine sds_nil ?_)
  | (show SD _ _ _ _; first | refine sd_ret ?_ | refine sd_if ?_ | walk_at "dwset")
  | (show EV _ _ _ _; walk_at "dwev")
  | (show EVs _ _ _ _; first | refine evs_nil ?_ | refine evs_cons ?_)
  | (show EX _ _ _ _; first | refine ex_ifExp ?_ | refine ex_lst ?_ | refine ex_ev ?_)
  | (show ET _ _ _ _; first | refine et_cmp ?_ | refine et_not ?_ | refine et_bo ?_ | refine et_val ?_)
  | (show EW _ _ _ _; first | refine ew_and ?_ | refine ew_or ?_ | refine ew_and1 ?_ | refine ew_or1 ?_)
  | (show ∃ d, IxD _ _ _ d ∧ _; first | refine ⟨_, ix_i (by first | rfl | assumption) (by first | exact atI0 | exact atI1 | exact atI2 | rfl | assumption), ?_⟩ | refine ⟨_, ix_s (by assumption) (by first | assumption | rfl), ?_⟩)
  | (show ∃ Qr, CallD _ _ _ Qr ∧ _; walk_at "dwcd")
  | (show ∃ Qr, BinD _ _ _ _ Qr ∧ _; walk_at "dwbin")
  | (show ∃ Qr, CmpD _ _ _ _ Qr ∧ _; walk_at "dwbin")
  | (show ∃ t, CmpD _ _ _ _ (· = .sh (.bool t)) ∧ _; walk_at "dwbin")
  | (show ∀ r, r = _ → _; intro r hr; subst hr) | refine fun (_ : ∀ (p : Addr) (o : OD), _ = Sl.own p o → _) => ?_
  | refine ⟨_, rfl, ?_⟩ | refine ⟨rfl, ?_⟩ | refine ⟨trivial, ?_⟩
  | refine ⟨Nat.le_of_ble_eq_true rfl, ?_⟩ | refine fun (_ : Addr) (_ : _ ∉ owns _) => ?_ | refine ⟨by decide, ?_⟩
  | refine iteHT rfl ?_ | refine iteHF rfl ?_)
local macro_rules | `(tactic| walk_at "dw") => `(tactic| repeat (walk_at "dw1"))
local macro_rules | `(tactic| walk_at "st") => `(tactic| (refine ev_ixO (i := 0) (ev_int ?_) rfl (by walk_at "dwvis") ⟨_, _, rfl⟩; refine ⟨_, rfl, _, _, rfl, rfl, _, rfl, ?_⟩))
variable {G : Pg} {f : Addr} {fd : FuncData}
def CPart : List PD → Prop := fun ds => ∃ (w : Str) (i j : Int), ds = [.str w, .int i, .int j] ∧ i.natAbs.log2 < 8000 ∧ j.natAbs.log2 < 8000
def partI (w : Str) (i j : Int) : PD := if j = 0 then .tuple [.str "refused", .tuple [.str "nought"]] else .tuple [.str "number", .int (if decide (w = "/") = true then twn i j else i - twn i j * j)]
def fP : List PD → PD := fun ds => match ds with | [.str w, .int i, .int j] => partI w i j | _ => .none
theorem ok_parted (B : Blt G.mg) (F : Fun G.K "_law_parted" "_law_parted" s__law_parted f fd) : FnG G 1 f fd P__law_parted (SpD G.K G.Tb (PureN 3 CPart fP)) := by
  refine fn_pure F sc__law_parted rfl fun W Z ds hl hC => ?_
  obtain ⟨w, i, j, rfl, hi, hj⟩ := hC
  show SDs _ _ _ { nx := fun _ => partI w i j = .none, rt := fun r _ => r.pd? = some (partI w i j) }
  walk_at "dw"
  refine iteD (fun g => ?_) fun g => ?_
  · walk_at "dw"
    unfold partI
    rw [if_pos (of_decide_eq_true g)]
    rfl
  have h0 := of_decide_eq_false g
  have hd : CDivW (absI i) (absI j) := ⟨by rw [absI_nat]; omega, by rw [absI_nat, Int.natAbs_natCast]; omega⟩
  have fin : ∀ k : Int, k = twn i j → ∀ r : RS, r = .sh (.tuple [.str "number", .int (if decide (w = "/") = true then k else i - k * j)]) → r.pd? = some (partI w i j) := fun k hk r hr => by
    rw [hr, hk]
    unfold partI
    rw [if_neg h0]
    rfl
  walk_at "dw"
  refine ⟨_, od_fdivW hd, ?_⟩
  walk_at "dw"
  have last : ∀ k : Int, k = twn i j → CMulW k j := fun k hk => by
    rw [hk]
    have := log2_mono (twn_le i j)
    unfold CMulW
    omega
  refine iteD (fun g1 => ?_) fun g1 => ?_
  · have hk : absI i / absI j = twn i j := by unfold twn; rw [if_pos (of_decide_eq_true g1)]
    walk_at "dw"
    refine iteD (fun g2 => ?_) fun g2 => ?_
    · walk_at "dw"
      exact fin _ hk _ (by rw [if_pos g2]; rfl)
    · walk_at "dw"
      refine ⟨_, od_mulW (last _ hk), ?_⟩
      walk_at "dw"
      have hv : (if decide (w = "/") = true then absI i / absI j else i - absI i / absI j * j) = i - absI i / absI j * j := if_neg (by rw [g2]; decide)
      exact fin _ hk _ (by rw [hv]; rfl)
  · have hk : 0 - absI i / absI j = twn i j := by unfold twn; rw [if_neg (of_decide_eq_false g1)]; omega
    walk_at "dw"
    refine iteD (fun g2 => ?_) fun g2 => ?_
    · walk_at "dw"
      exact fin _ hk _ (by rw [if_pos g2]; rfl)
    · walk_at "dw"
      refine ⟨_, od_mulW (last _ hk), ?_⟩
      walk_at "dw"
      have hv : (if decide (w = "/") = true then 0 - absI i / absI j else i - (0 - absI i / absI j) * j) = i - (0 - absI i / absI j) * j := if_neg (by rw [g2]; decide)
      exact fin _ hk _ (by rw [hv]; rfl)
theorem dig_at {c : Nat} (h : dig c = true) : ∃ rest, Builtin.Str.occurrences ("0123456789" : Str) ⟨#[c]⟩ 0 ("0123456789" : Str).length 1 = (c - 48) :: rest := by
  unfold dig at h
  rw [Bool.and_eq_true, decide_eq_true_iff, decide_eq_true_iff] at h
  have : ∀ k : Fin 10, ∃ rest, Builtin.Str.occurrences ("0123456789" : Str) ⟨#[k.val + 48]⟩ 0 ("0123456789" : Str).length 1 = k.val :: rest := by
    intro k
    refine ⟨[], ?_⟩
    revert k
    decide +kernel
  obtain ⟨rest, hr⟩ := this ⟨c - 48, by omega⟩
  refine ⟨rest, ?_⟩
  have e : c - 48 + 48 = c := by omega
  simp only [e] at hr
  exact hr
theorem dig_in (c : Nat) : decide (c ∈ ("0123456789" : Str).cps.toList) = dig c := by
  have e : ("0123456789" : Str).cps.toList = [48, 49, 50, 51, 52, 53, 54, 55, 56, 57] := by decide +kernel
  rw [e]
  unfold dig
  by_cases h : 48 ≤ c ∧ c ≤ 57
  · rw [decide_eq_true h.1, decide_eq_true h.2]
    apply decide_eq_true
    simp
    omega
  · have : ¬ c ∈ [48, 49, 50, 51, 52, 53, 54, 55, 56, 57] := by simp; omega
    rw [decide_eq_false this]
    by_cases h1 : 48 ≤ c
    · rw [decide_eq_true h1, decide_eq_false (fun h2 => h ⟨h1, h2⟩)]
      rfl
    · rw [decide_eq_false h1]
      rfl
end K8

namespace K8
open PySem PySem.Spec PyProof.Rows L2 Dw
local macro_rules | `(tactic| walk_at "dwvis") => `(tactic| exact vis_of (by kernel_rfl))
local macro_rules | `(tactic| walk_at "dwbin") => `(tactic| first
  | refine ⟨_, od_eqS, ?_⟩ | refine ⟨_, od_neS, ?_⟩ | refine ⟨_, od_add, ?_⟩ | refine ⟨_, od_sub, ?_⟩ | refine ⟨_, od_lt, ?_⟩ | refine ⟨_, od_le, ?_⟩ | refine ⟨_, od_gt, ?_⟩ | refine ⟨_, od_ge, ?_⟩ | refine ⟨_, od_eqI, ?_⟩ | refine ⟨_, od_eqB, ?_⟩ | refine ⟨_, od_neB, ?_⟩
  | refine ⟨_, od_isN, ?_⟩ | refine ⟨_, od_addS (by assumption), ?_⟩ | refine ⟨_, od_inT, ?_⟩ | refine ⟨_, od_notN, ?_⟩ | refine ⟨_, od_inSign, ?_⟩ | refine ⟨_, od_notInSign, ?_⟩)
local macro_rules | `(tactic| walk_at "dwcd") => `(tactic| first
  | refine ⟨_, cd_len (by assumption), ?_⟩ | refine ⟨_, cd_lenS (by assumption), ?_⟩ | refine ⟨_, cd_abs, ?_⟩ | refine ⟨_, cd_intI, ?_⟩ | refine ⟨_, cd_intB, ?_⟩ | refine ⟨_, cd_all, ?_⟩ | refine ⟨_, cd_any, ?_⟩ | refine ⟨_, cd_sum, ?_⟩)
local macro_rules | `(tactic| walk_at "dwname") => `(tactic| first
  | refine ev_name (i := 0) rfl ?_ rfl (by walk_at "dwvis") | refine ev_name (i := 1) rfl ?_ rfl (by walk_at "dwvis")
  | refine ev_name (i := 2) rfl ?_ rfl (by walk_at "dwvis") | refine ev_name (i := 3) rfl ?_ rfl (by walk_at "dwvis")
  | refine ev_name (i := 4) rfl ?_ rfl (by walk_at "dwvis") | refine ev_name (i := 5) rfl ?_ rfl (by walk_at "dwvis") | refine ev_name (i := 6) rfl ?_ rfl (by walk_at "dwvis") | refine ev_name (i := 7) rfl ?_ rfl (by walk_at "dwvis") | refine ev_name (i := 8) rfl ?_ rfl (by walk_at "dwvis") | refine ev_name (i := 9) rfl ?_ rfl (by walk_at "dwvis") | refine ev_name (i := 10) rfl ?_ rfl (by walk_at "dwvis") | refine ev_name (i := 11) rfl ?_ rfl (by walk_at "dwvis")
  | refine ev_globD (by assumption) ?_ (by kernel_rfl))
local macro_rules | `(tactic| walk_at "dwcall") => `(tactic| first
  | refine ev_callH (by assumption) (Nat.le_of_ble_eq_true rfl) ?_ (by kernel_rfl)
  | refine ev_ex (ex_callB (id := "len") (x := "len") ?_ (by kernel_rfl) (Blt.len (by assumption)) PySem.boot_len)
  | refine ev_isi2 (n1 := "list") (n2 := "tuple") (T1 := "list") (T2 := "tuple") ?_ (by decide) (by kernel_rfl) (Blt.isinstance (by assumption)) (by kernel_rfl) (Blt.list (by assumption)) PyProof.Rows.boot_list (by kernel_rfl) (Blt.tuple (by assumption)) PyProof.Rows.boot_tuple
  | refine ev_isi (n := "int") (T := "int") ?_ (by decide) (by kernel_rfl) (Blt.isinstance (by assumption)) (by kernel_rfl) (Blt.int (by assumption)) PyProof.Rows.boot_int
  | refine ev_isi (n := "bool") (T := "bool") ?_ (by decide) (by kernel_rfl) (Blt.isinstance (by assumption)) (by kernel_rfl) (Blt.bool (by assumption)) PyProof.Rows.boot_bool
  | refine ev_isi (n := "str") (T := "str") ?_ (by decide) (by kernel_rfl) (Blt.isinstance (by assumption)) (by kernel_rfl) (Blt.str (by assumption)) PyProof.Rows.boot_str
  | refine ev_isi (n := "dict") (T := "dict") ?_ (by decide) (by kernel_rfl) (Blt.isinstance (by assumption)) (by kernel_rfl) (Blt.dict (by assumption)) PyProof.Rows.boot_dict
  | refine ev_ex (ex_callB (id := "all") (x := "all") ?_ (by kernel_rfl) (Blt.all (by assumption)) PyProof.Rows.boot_all)
  | refine ev_ex (ex_callB (id := "any") (x := "any") ?_ (by kernel_rfl) (Blt.any (by assumption)) PyProof.Rows.boot_any)
  | refine ev_ex (ex_callB (id := "abs") (x := "abs") ?_ (by kernel_rfl) (Blt.abs (by assumption)) PyProof.Rows.boot_abs)
  | refine ev_ex (ex_callTy (T := "int") (x := "int") ?_ (by kernel_rfl) (Blt.int (by assumption)) PyProof.Rows.boot_int))
local macro_rules | `(tactic| walk_at "dwset") => `(tactic| first
  | refine sd_set (i := 0) ?_ rfl (of_decide_eq_true (by kernel_rfl)) (loc_of (by kernel_rfl)) (loc_of (by kernel_rfl)) | refine sd_set (i := 1) ?_ rfl (of_decide_eq_true (by kernel_rfl)) (loc_of (by kernel_rfl)) (loc_of (by kernel_rfl)) | refine sd_set (i := 2) ?_ rfl (of_decide_eq_true (by kernel_rfl)) (loc_of (by kernel_rfl)) (loc_of (by kernel_rfl)) | refine sd_set (i := 3) ?_ rfl (of_decide_eq_true (by kernel_rfl)) (loc_of (by kernel_rfl)) (loc_of (by kernel_rfl)) | refine sd_set (i := 4) ?_ rfl (of_decide_eq_true (by kernel_rfl)) (loc_of (by kernel_rfl)) (loc_of (by kernel_rfl)) | refine sd_set (i := 5) ?_ rfl (of_decide_eq_true (by kernel_rfl)) (loc_of (by kernel_rfl)) (loc_of (by kernel_rfl)) | refine sd_set (i := 6) ?_ rfl (of_decide_eq_true (by kernel_rfl)) (loc_of (by kernel_rfl)) (loc_of (by kernel_rfl)) | refine sd_set (i := 7) ?_ rfl (of_decide_eq_true (by kernel_rfl)) (loc_of (by kernel_rfl)) (loc_of (by kernel_rfl)) | refine sd_set (i := 8) ?_ rfl (of_decide_eq_true (by kernel_rfl)) (loc_of (by kernel_rfl)) (loc_of (by kernel_rfl)) | refine sd_set (i := 9) ?_ rfl (of_decide_eq_true (by kernel_rfl)) (loc_of (by kernel_rfl)) (loc_of (by kernel_rfl)) | refine sd_set (i := 10) ?_ rfl (of_decide_eq_true (by kernel_rfl)) (loc_of (by kernel_rfl)) (loc_of (by kernel_rfl)) | refine sd_set (i := 11) ?_ rfl (of_decide_eq_true (by kernel_rfl)) (loc_of (by kernel_rfl)) (loc_of (by kernel_rfl)))
local macro_rules | `(tactic| walk_at "dwev") => `(tactic| first
  | (show EV _ (.Name _ _) _ _; walk_at "dwname")
  | (show EV _ (.Call _ _ _ _) _ _; walk_at "dwcall")
  | refine ev_int ?_ | refine ev_str ?_ | walk_at "st" | refine ev_ix ?_ | refine ev_tup ?_ | refine ev_ex (ex_cmp ?_) | refine ev_ex (ex_bin ?_)
  | refine ev_none ?_ | refine ev_bool ?_ | refine ev_and ?_ | refine ev_or ?_ | refine ev_one ?_ | refine ev_not ?_
  | refine ev_chain ?_ | refine ev_ex (ex_un ?_) | refine ev_ex (ex_ifExp ?_) | refine ev_ex (ex_lst ?_))
local macro_rules | `(tactic| walk_at "dw1") => `(tactic| first
  | (show SDs _ _ _ _; first | refine sds_cons ?_ | refine sds_nil ?_)
  | (show SD _ _ _ _; first | refine sd_ret ?_ | refine sd_if ?_ | walk_at "dwset")
  | (show EV _ _ _ _; walk_at "dwev")
  | (show EVs _ _ _ _; first | refine evs_nil ?_ | refine evs_cons ?_)
  | (show EX _ _ _ _; first | refine ex_ifExp ?_ | refine ex_lst ?_ | refine ex_ev ?_)
  | (show ET _ _ _ _; first | refine et_cmp ?_ | refine et_not ?_ | refine et_bo ?_ | refine et_val ?_)
  | (show EW _ _ _ _; first | refine ew_and ?_ | refine ew_or ?_ | refine ew_and1 ?_ | refine ew_or1 ?_)
  | (show ∃ d, IxD _ _ _ d ∧ _; first | refine ⟨_, ix_i (by first | rfl | assumption) (by first | exact atI0 | exact atI1 | exact atI2 | rfl | assumption), ?_⟩ | refine ⟨_, ix_s (by assumption) (by first | assumption | rfl), ?_⟩)
  | (show ∃ Qr, CallD _ _ _ Qr ∧ _; walk_at "dwcd")
  | (show ∃ Qr, BinD _ _ _ _ Qr ∧ _; walk_at "dwbin")
  | (show ∃ Qr, CmpD _ _ _ _ Qr ∧ _; walk_at "dwbin")
  | (show ∃ t, CmpD _ _ _ _ (· = .sh (.bool t)) ∧ _; walk_at "dwbin")
  | (show ∀ r, r = _ → _; intro r hr; subst hr) | refine fun (_ : ∀ (p : Addr) (o : OD), _ = Sl.own p o → _) => ?_
  | refine ⟨_, rfl, ?_⟩ | refine ⟨rfl, ?_⟩ | refine ⟨trivial, ?_⟩
  | refine ⟨Nat.le_of_ble_eq_true rfl, ?_⟩ | refine fun (_ : Addr) (_ : _ ∉ owns _) => ?_ | refine ⟨by decide, ?_⟩
  | refine iteHT rfl ?_ | refine iteHF rfl ?_)
local macro_rules | `(tactic| walk_at "dw") => `(tactic| repeat (walk_at "dw1"))
local macro_rules | `(tactic| walk_at "st") => `(tactic| (refine ev_ixO (i := 0) (ev_int ?_) rfl (by walk_at "dwvis") ⟨_, _, rfl⟩; refine ⟨_, rfl, _, _, rfl, rfl, _, rfl, ?_⟩))
variable {G : Pg} {f : Addr} {fd : FuncData}
theorem one45 (c : Nat) : decide ((⟨#[c]⟩ : Str) = "-") = decide (c = 45) := by
  have e : ("-" : Str) = ⟨#[45]⟩ := by decide +kernel
  rw [e]
  by_cases h : c = 45
  · rw [h, decide_eq_true rfl, decide_eq_true rfl]
  · rw [decide_eq_false h, decide_eq_false fun z => h (by injection z with z; have := congrArg Array.toList z; simpa using this)]
theorem dv_take {r : List Nat} {i c : Nat} (h : r[i]? = some c) : NumText.digitsVal (r.take (i + 1)) = NumText.digitsVal (r.take i) * 10 + (c - 48) := by
  unfold NumText.digitsVal
  rw [List.take_succ, h, List.foldl_append]
  rfl
theorem ok_law_number (B : Blt G.mg) (F : Fun G.K "_law_number" "_law_number" s__law_number f fd) :
    FnG G 1 f fd P__law_number (SpD G.K G.Tb (PureN 1 (fun ds => ∃ l, ds = [.str (Sx l)] ∧ l.length ≤ 600) fun ds => numPD (numL (strAt (ds.getD 0 .none)).cps.toList))) := by
  refine fn_pure F sc__law_number rfl fun W Z ds hl hC => ?_
  obtain ⟨l, rfl, hl6⟩ := hC
  show SDs _ _ _ { nx := fun _ => numPD (numL l) = .none, rt := fun r _ => r.pd? = some (numPD (numL l)) }
  walk_at "dw"
  have hz : (Sx l).length ≤ 100000 := by show l.length ≤ 100000; omega
  cases l with
  | nil =>
    try refine iteHT (by decide +kernel) ?_
    walk_at "dw"
    rfl
  | cons c r =>
    have hne : ∀ (x : Nat) (y : List Nat), Sx (x :: y) ≠ "" := fun x y z => by
      have : (Sx (x :: y)).cps.toList = (("" : Str)).cps.toList := by rw [z]
      rw [show (("" : Str)).cps.toList = [] by decide +kernel] at this
      cases this
    try refine iteHF (decide_eq_false (hne c r)) ?_
    walk_at "dw"
    have at0 : atI (Sx (c :: r)).cps.toList 0 = some c := atI0
    refine sd_par (i := 1) (j := 2) (ex2 (ex_ifExp ?_)) (of_decide_eq_true (by kernel_rfl)) rfl rfl (by decide) (by kernel_rfl) (by kernel_rfl) (fun X g => by have h := g.sc; revert h; generalize X.env = e; intro h; cases e; cases h; kernel_rfl)
    walk_at "dw"
    rw [one45]
    by_cases h45 : c = 45
    · have eN : numL (c :: r) = if r ≠ [] ∧ r.all dig = true then some (-((NumText.digitsVal r : Nat) : Int)) else none := by
        show (if c = 45 then _ else _) = _
        rw [if_pos h45]
      refine iteHT (decide_eq_true h45) ?_
      refine ex_slice ?_
      walk_at "dw"
      refine ep_some ?_
      walk_at "dw"
      refine ep_none ⟨_, sd_str hz, ?_⟩
      walk_at "dw"
      rw [cut1]
      walk_at "dw"
      refine ⟨(fun rv h => by cases h), ?_⟩
      walk_at "dw"
      refine ⟨(fun rv h => by cases h), fun _ => ?_⟩
      show SDs _ _ [.sh (.str (Sx (c :: r))), .sh (.str (Sx (r))), .sh (.int 0), .no] _
      refine sds_cons (sd_for (fun i e => ∃ s3, e = [.sh (.str (Sx (c :: r))), .sh (.str (Sx (r))), .sh (.int ((NumText.digitsVal ((r).take i) : Nat) : Int)), s3] ∧ ((r).take i).all dig = true) [3] (it_str ?_))
      walk_at "dw"
      refine ⟨⟨.no, rfl, rfl⟩, fun i e hI => ⟨fun hlen => ?_, fun d hd => ?_⟩⟩
      · obtain ⟨s3, rfl, hdg⟩ := hI
        have hfull : (r).take i = (r) := by
          rw [hlen]
          unfold signsOf
          rw [List.length_map]
          exact List.take_of_length_le (Nat.le_refl _)
        rw [hfull] at hdg ⊢
        walk_at "dw"
        cases r with
        | nil =>
          try refine iteHT (by decide +kernel) ?_
          walk_at "dw"
          rw [eN, if_neg (fun h => h.1 rfl)]
          rfl
        | cons c2 r2 =>
          try refine iteHF (decide_eq_false (hne c2 r2)) ?_
          walk_at "dw"
          rw [one45]
          refine iteHT (decide_eq_true h45) ?_
          walk_at "dw"
          rw [eN, if_pos ⟨by simp, hdg⟩]
          show some (PyData.int _) = some (.int _)
          congr 2
          omega
      · obtain ⟨s3, rfl, hdg⟩ := hI
        unfold signsOf at hd
        rw [List.getElem?_map] at hd
        have hd : ((r)[i]?).map (fun c => PyData.str ⟨#[c]⟩) = some d := hd
        cases hc : (r)[i]? with
        | none => rw [hc] at hd; cases hd
        | some c' =>
        rw [hc] at hd
        cases hd
        refine tg_name (i := 3) ?_ (by decide) rfl (of_decide_eq_true (by kernel_rfl)) (loc_of (by kernel_rfl)) (loc_of (by kernel_rfl))
        show SDs _ _ [.sh (.str (Sx (c :: r))), .sh (.str (Sx (r))), .sh (.int ((NumText.digitsVal ((r).take i) : Nat) : Int)), .sh (.str ⟨#[c']⟩)] _
        walk_at "dw"
        rw [dig_in]
        cases hdc : dig c' with
        | false =>
          have hnd : (r).all dig = false := by
            cases h : (r).all dig with
            | false => rfl
            | true =>
              have := List.all_eq_true.mp h c' (List.mem_of_getElem? hc)
              rw [this] at hdc
              cases hdc
          refine iteHT rfl ?_
          walk_at "dw"
          rw [eN, if_neg (fun h => by rw [hnd] at h; exact absurd h.2 (by decide))]
          rfl
        | true =>
          refine iteHF rfl ?_
          walk_at "dw"
          refine ⟨_, od_mul (.inl ⟨by decide, by decide⟩), ?_⟩
          walk_at "dw"
          refine ev_sindex ?_
          walk_at "dw"
          obtain ⟨rest, hrest⟩ := dig_at hdc
          refine ⟨_, _, rest, rfl, hrest, ?_⟩
          walk_at "dw"
          refine ⟨Sl.sh (.str ⟨#[c']⟩), ?_⟩
          · refine ⟨?_, ?_⟩
            · rw [dv_take hc]
              show [_, _, Sl.sh (.int _), _] = [_, _, Sl.sh (.int _), _]
              have hge : 48 ≤ c' := by
                unfold dig at hdc
                rw [Bool.and_eq_true, decide_eq_true_iff] at hdc
                exact hdc.1
              have : (10 * ((NumText.digitsVal ((r).take i) : Nat) : Int) + ((c' - 48 : Nat) : Int)) = ((NumText.digitsVal ((r).take i) * 10 + (c' - 48) : Nat) : Int) := by
                push_cast
                omega
              rw [← this]
            · rw [List.take_succ, hc, List.all_append, hdg]
              show (true && (dig c' && true)) = true
              rw [hdc]
              rfl
    · have eN : numL (c :: r) = if (c :: r).all dig = true then some ((NumText.digitsVal (c :: r) : Nat) : Int) else none := by
        show (if c = 45 then _ else _) = _
        rw [if_neg h45]
      refine iteHF (decide_eq_false h45) ?_
      walk_at "dw"
      refine ⟨(fun rv h => by cases h), ?_⟩
      walk_at "dw"
      refine ⟨(fun rv h => by cases h), fun _ => ?_⟩
      show SDs _ _ [.sh (.str (Sx (c :: r))), .sh (.str (Sx (c :: r))), .sh (.int 0), .no] _
      refine sds_cons (sd_for (fun i e => ∃ s3, e = [.sh (.str (Sx (c :: r))), .sh (.str (Sx (c :: r))), .sh (.int ((NumText.digitsVal ((c :: r).take i) : Nat) : Int)), s3] ∧ ((c :: r).take i).all dig = true) [3] (it_str ?_))
      walk_at "dw"
      refine ⟨⟨.no, rfl, rfl⟩, fun i e hI => ⟨fun hlen => ?_, fun d hd => ?_⟩⟩
      · obtain ⟨s3, rfl, hdg⟩ := hI
        have hfull : (c :: r).take i = (c :: r) := by
          rw [hlen]
          unfold signsOf
          rw [List.length_map]
          exact List.take_of_length_le (Nat.le_refl _)
        rw [hfull] at hdg ⊢
        walk_at "dw"
        try refine iteHF (decide_eq_false (hne c r)) ?_
        walk_at "dw"
        rw [one45]
        refine iteHF (decide_eq_false h45) ?_
        walk_at "dw"
        rw [eN, if_pos hdg]
        rfl
      · obtain ⟨s3, rfl, hdg⟩ := hI
        unfold signsOf at hd
        rw [List.getElem?_map] at hd
        have hd : ((c :: r)[i]?).map (fun c => PyData.str ⟨#[c]⟩) = some d := hd
        cases hc : (c :: r)[i]? with
        | none => rw [hc] at hd; cases hd
        | some c' =>
        rw [hc] at hd
        cases hd
        refine tg_name (i := 3) ?_ (by decide) rfl (of_decide_eq_true (by kernel_rfl)) (loc_of (by kernel_rfl)) (loc_of (by kernel_rfl))
        show SDs _ _ [.sh (.str (Sx (c :: r))), .sh (.str (Sx (c :: r))), .sh (.int ((NumText.digitsVal ((c :: r).take i) : Nat) : Int)), .sh (.str ⟨#[c']⟩)] _
        walk_at "dw"
        rw [dig_in]
        cases hdc : dig c' with
        | false =>
          have hnd : (c :: r).all dig = false := by
            cases h : (c :: r).all dig with
            | false => rfl
            | true =>
              have := List.all_eq_true.mp h c' (List.mem_of_getElem? hc)
              rw [this] at hdc
              cases hdc
          refine iteHT rfl ?_
          walk_at "dw"
          rw [eN, if_neg (by rw [hnd]; decide)]
          rfl
        | true =>
          refine iteHF rfl ?_
          walk_at "dw"
          refine ⟨_, od_mul (.inl ⟨by decide, by decide⟩), ?_⟩
          walk_at "dw"
          refine ev_sindex ?_
          walk_at "dw"
          obtain ⟨rest, hrest⟩ := dig_at hdc
          refine ⟨_, _, rest, rfl, hrest, ?_⟩
          walk_at "dw"
          refine ⟨Sl.sh (.str ⟨#[c']⟩), ?_⟩
          · refine ⟨?_, ?_⟩
            · rw [dv_take hc]
              show [_, _, Sl.sh (.int _), _] = [_, _, Sl.sh (.int _), _]
              have hge : 48 ≤ c' := by
                unfold dig at hdc
                rw [Bool.and_eq_true, decide_eq_true_iff] at hdc
                exact hdc.1
              have : (10 * ((NumText.digitsVal ((c :: r).take i) : Nat) : Int) + ((c' - 48 : Nat) : Int)) = ((NumText.digitsVal ((c :: r).take i) * 10 + (c' - 48) : Nat) : Int) := by
                push_cast
                omega
              rw [← this]
            · rw [List.take_succ, hc, List.all_append, hdg]
              show (true && (dig c' && true)) = true
              rw [hdc]
              rfl
end K8

namespace K8
open PySem PySem.Spec PyProof.Rows L2 Dw
local macro_rules | `(tactic| walk_at "dwvis") => `(tactic| exact vis_of (by kernel_rfl))
local macro_rules | `(tactic| walk_at "dwbin") => `(tactic| first
  | refine ⟨_, od_eqS, ?_⟩ | refine ⟨_, od_neS, ?_⟩ | refine ⟨_, od_add, ?_⟩ | refine ⟨_, od_sub, ?_⟩ | refine ⟨_, od_lt, ?_⟩ | refine ⟨_, od_le, ?_⟩ | refine ⟨_, od_gt, ?_⟩ | refine ⟨_, od_ge, ?_⟩ | refine ⟨_, od_eqI, ?_⟩ | refine ⟨_, od_eqB, ?_⟩ | refine ⟨_, od_neB, ?_⟩
  | refine ⟨_, od_isN, ?_⟩ | refine ⟨_, od_addS (by assumption), ?_⟩ | refine ⟨_, od_inT, ?_⟩ | refine ⟨_, od_notN, ?_⟩ | refine ⟨_, od_inSign, ?_⟩ | refine ⟨_, od_notInSign, ?_⟩)
local macro_rules | `(tactic| walk_at "dwcd") => `(tactic| first
  | refine ⟨_, cd_len (by assumption), ?_⟩ | refine ⟨_, cd_lenS (by assumption), ?_⟩ | refine ⟨_, cd_abs, ?_⟩ | refine ⟨_, cd_intI, ?_⟩ | refine ⟨_, cd_intB, ?_⟩ | refine ⟨_, cd_all, ?_⟩ | refine ⟨_, cd_any, ?_⟩ | refine ⟨_, cd_sum, ?_⟩)
local macro_rules | `(tactic| walk_at "dwname") => `(tactic| first
  | refine ev_name (i := 0) rfl ?_ rfl (by walk_at "dwvis") | refine ev_name (i := 1) rfl ?_ rfl (by walk_at "dwvis")
  | refine ev_name (i := 2) rfl ?_ rfl (by walk_at "dwvis") | refine ev_name (i := 3) rfl ?_ rfl (by walk_at "dwvis")
  | refine ev_name (i := 4) rfl ?_ rfl (by walk_at "dwvis") | refine ev_name (i := 5) rfl ?_ rfl (by walk_at "dwvis") | refine ev_name (i := 6) rfl ?_ rfl (by walk_at "dwvis") | refine ev_name (i := 7) rfl ?_ rfl (by walk_at "dwvis") | refine ev_name (i := 8) rfl ?_ rfl (by walk_at "dwvis") | refine ev_name (i := 9) rfl ?_ rfl (by walk_at "dwvis") | refine ev_name (i := 10) rfl ?_ rfl (by walk_at "dwvis") | refine ev_name (i := 11) rfl ?_ rfl (by walk_at "dwvis")
  | refine ev_globD (by assumption) ?_ (by kernel_rfl))
local macro_rules | `(tactic| walk_at "dwcall") => `(tactic| first
  | refine ev_callH (by assumption) (Nat.le_of_ble_eq_true rfl) ?_ (by kernel_rfl)
  | refine ev_ex (ex_callB (id := "len") (x := "len") ?_ (by kernel_rfl) (Blt.len (by assumption)) PySem.boot_len)
  | refine ev_isi2 (n1 := "list") (n2 := "tuple") (T1 := "list") (T2 := "tuple") ?_ (by decide) (by kernel_rfl) (Blt.isinstance (by assumption)) (by kernel_rfl) (Blt.list (by assumption)) PyProof.Rows.boot_list (by kernel_rfl) (Blt.tuple (by assumption)) PyProof.Rows.boot_tuple
  | refine ev_isi (n := "int") (T := "int") ?_ (by decide) (by kernel_rfl) (Blt.isinstance (by assumption)) (by kernel_rfl) (Blt.int (by assumption)) PyProof.Rows.boot_int
  | refine ev_isi (n := "bool") (T := "bool") ?_ (by decide) (by kernel_rfl) (Blt.isinstance (by assumption)) (by kernel_rfl) (Blt.bool (by assumption)) PyProof.Rows.boot_bool
  | refine ev_isi (n := "str") (T := "str") ?_ (by decide) (by kernel_rfl) (Blt.isinstance (by assumption)) (by kernel_rfl) (Blt.str (by assumption)) PyProof.Rows.boot_str
  | refine ev_isi (n := "dict") (T := "dict") ?_ (by decide) (by kernel_rfl) (Blt.isinstance (by assumption)) (by kernel_rfl) (Blt.dict (by assumption)) PyProof.Rows.boot_dict
  | refine ev_ex (ex_callB (id := "all") (x := "all") ?_ (by kernel_rfl) (Blt.all (by assumption)) PyProof.Rows.boot_all)
  | refine ev_ex (ex_callB (id := "any") (x := "any") ?_ (by kernel_rfl) (Blt.any (by assumption)) PyProof.Rows.boot_any)
  | refine ev_ex (ex_callB (id := "abs") (x := "abs") ?_ (by kernel_rfl) (Blt.abs (by assumption)) PyProof.Rows.boot_abs)
  | refine ev_ex (ex_callTy (T := "int") (x := "int") ?_ (by kernel_rfl) (Blt.int (by assumption)) PyProof.Rows.boot_int))
local macro_rules | `(tactic| walk_at "dwset") => `(tactic| first
  | refine sd_set (i := 0) ?_ rfl (of_decide_eq_true (by kernel_rfl)) (loc_of (by kernel_rfl)) (loc_of (by kernel_rfl)) | refine sd_set (i := 1) ?_ rfl (of_decide_eq_true (by kernel_rfl)) (loc_of (by kernel_rfl)) (loc_of (by kernel_rfl)) | refine sd_set (i := 2) ?_ rfl (of_decide_eq_true (by kernel_rfl)) (loc_of (by kernel_rfl)) (loc_of (by kernel_rfl)) | refine sd_set (i := 3) ?_ rfl (of_decide_eq_true (by kernel_rfl)) (loc_of (by kernel_rfl)) (loc_of (by kernel_rfl)) | refine sd_set (i := 4) ?_ rfl (of_decide_eq_true (by kernel_rfl)) (loc_of (by kernel_rfl)) (loc_of (by kernel_rfl)) | refine sd_set (i := 5) ?_ rfl (of_decide_eq_true (by kernel_rfl)) (loc_of (by kernel_rfl)) (loc_of (by kernel_rfl)) | refine sd_set (i := 6) ?_ rfl (of_decide_eq_true (by kernel_rfl)) (loc_of (by kernel_rfl)) (loc_of (by kernel_rfl)) | refine sd_set (i := 7) ?_ rfl (of_decide_eq_true (by kernel_rfl)) (loc_of (by kernel_rfl)) (loc_of (by kernel_rfl)) | refine sd_set (i := 8) ?_ rfl (of_decide_eq_true (by kernel_rfl)) (loc_of (by kernel_rfl)) (loc_of (by kernel_rfl)) | refine sd_set (i := 9) ?_ rfl (of_decide_eq_true (by kernel_rfl)) (loc_of (by kernel_rfl)) (loc_of (by kernel_rfl)) | refine sd_set (i := 10) ?_ rfl (of_decide_eq_true (by kernel_rfl)) (loc_of (by kernel_rfl)) (loc_of (by kernel_rfl)) | refine sd_set (i := 11) ?_ rfl (of_decide_eq_true (by kernel_rfl)) (loc_of (by kernel_rfl)) (loc_of (by kernel_rfl)))
local macro_rules | `(tactic| walk_at "dwev") => `(tactic| first
  | (show EV _ (.Name _ _) _ _; walk_at "dwname")
  | (show EV _ (.Call _ _ _ _) _ _; walk_at "dwcall")
  | refine ev_int ?_ | refine ev_str ?_ | refine ev_ix ?_ | refine ev_tup ?_ | refine ev_ex (ex_cmp ?_) | refine ev_ex (ex_bin ?_)
  | refine ev_none ?_ | refine ev_bool ?_ | refine ev_and ?_ | refine ev_or ?_ | refine ev_one ?_ | refine ev_not ?_
  | refine ev_chain ?_ | refine ev_ex (ex_un ?_) | refine ev_ex (ex_ifExp ?_) | refine ev_ex (ex_lst ?_))
local macro_rules | `(tactic| walk_at "dw1") => `(tactic| first
  | (show SDs _ _ _ _; first | refine sds_cons ?_ | refine sds_nil ?_)
  | (show SD _ _ _ _; first | refine sd_ret ?_ | refine sd_if ?_ | walk_at "dwset")
  | (show EV _ _ _ _; walk_at "dwev")
  | (show EVs _ _ _ _; first | refine evs_nil ?_ | refine evs_cons ?_)
  | (show EX _ _ _ _; first | refine ex_ifExp ?_ | refine ex_lst ?_ | refine ex_ev ?_)
  | (show ET _ _ _ _; first | refine et_cmp ?_ | refine et_not ?_ | refine et_bo ?_ | refine et_val ?_)
  | (show EW _ _ _ _; first | refine ew_and ?_ | refine ew_or ?_ | refine ew_and1 ?_ | refine ew_or1 ?_)
  | (show ∃ d, IxD _ _ _ d ∧ _; first | refine ⟨_, ix_i (by first | rfl | assumption) (by first | exact atI0 | exact atI1 | exact atI2 | rfl | assumption), ?_⟩ | refine ⟨_, ix_s (by assumption) (by first | assumption | rfl), ?_⟩)
  | (show ∃ Qr, CallD _ _ _ Qr ∧ _; walk_at "dwcd")
  | (show ∃ Qr, BinD _ _ _ _ Qr ∧ _; walk_at "dwbin")
  | (show ∃ Qr, CmpD _ _ _ _ Qr ∧ _; walk_at "dwbin")
  | (show ∃ t, CmpD _ _ _ _ (· = .sh (.bool t)) ∧ _; walk_at "dwbin")
  | (show ∀ r, r = _ → _; intro r hr; subst hr) | refine fun (_ : ∀ (p : Addr) (o : OD), _ = Sl.own p o → _) => ?_
  | refine ⟨_, rfl, ?_⟩ | refine ⟨rfl, ?_⟩ | refine ⟨trivial, ?_⟩
  | refine ⟨Nat.le_of_ble_eq_true rfl, ?_⟩ | refine fun (_ : Addr) (_ : _ ∉ owns _) => ?_ | refine ⟨by decide, ?_⟩
  | refine iteHT rfl ?_ | refine iteHF rfl ?_)
local macro_rules | `(tactic| walk_at "dw") => `(tactic| repeat (walk_at "dw1"))
variable {G : Pg} {f : Addr} {fd : FuncData} {nm : Str → Bool} {GR : Int}
def tupOf : Tm → PD
  | .num n => .tuple [.str "number", .int n]
  | .nam z => .tuple [.str "name", .str z]
  | .less a => .tuple [.str "less", tupOf a]
  | .two w a b => .tuple [.str w, tupOf a, tupOf b]
theorem Is_tup : ∀ t : Tm, Is t (tupOf t)
  | .num _ => rfl
  | .nam _ => rfl
  | .less a => ⟨_, rfl, Is_tup a⟩
  | .two _ a b => ⟨_, _, rfl, Is_tup a, Is_tup b⟩
def dpT : Tm → Nat
  | .num _ => 0
  | .nam _ => 0
  | .less a => dpT a + 1
  | .two _ a b => max (dpT a) (dpT b) + 1
def CW (nm : Str → Bool) (GR : Int) (n : Nat) : List PD → Prop := fun ds => ∃ t kvs, ds = [tupOf t, .dict kvs] ∧ dpT t ≤ n ∧ Okt nm GR TW8 t ∧ OkH kvs ∧ lvT t ≤ 20
theorem cutP1 (x : PD) (l : List PD) : cutP (x :: l) (some 1) none = l := by
  unfold cutP
  have h1 : HT.sIx (x :: l).length 0 (some 1) = 1 := by
    show HT.sIx (l.length + 1) 0 (some ((1 : Nat) : Int)) = 1
    rw [HT.sIx_nat]
    omega
  have h2 : HT.sIx (x :: l).length (x :: l).length none = l.length + 1 := rfl
  rw [h1, h2]
  simp
theorem evT_err {N : Str → Option Int} {TW : List Str} : ∀ {t : Tm} {e : PD}, Okt nm GR TW t → evT N t = .error e → (∃ z, nm z = true ∧ e = .tuple [.str "number", .str z]) ∨ e = .tuple [.str "nought"]
  | .num _, _, _, h => by cases h
  | .nam z, e, o, h => by
    have h : (match N z with | some n => .ok n | none => .error (.tuple [.str "number", .str z]) : Res) = .error e := h
    cases hz : N z with
    | none => rw [hz] at h; cases h; exact .inl ⟨z, o, rfl⟩
    | some n => rw [hz] at h; cases h
  | .less a, e, o, h => by
    have h : (match evT N a with | .ok x => .ok (-x) | .error e => .error e : Res) = .error e := h
    cases ha : evT N a with
    | error e' => rw [ha] at h; cases h; exact evT_err (t := a) o ha
    | ok x => rw [ha] at h; cases h
  | .two w a b, e, o, h => by
    have h : (match evT N a with | .error e => .error e | .ok x => match evT N b with | .error e => .error e | .ok y => if badW w y = true then .error (.tuple [.str "nought"]) else .ok (joinI w x y) : Res) = .error e := h
    cases ha : evT N a with
    | error e' => rw [ha] at h; cases h; exact evT_err (t := a) o.2.1 ha
    | ok x =>
      cases hb : evT N b with
      | error e' => rw [ha, hb] at h; cases h; exact evT_err (t := b) o.2.2 hb
      | ok y =>
        rw [ha, hb] at h
        have h : (if badW w y = true then (.error (.tuple [.str "nought"]) : Res) else .ok (joinI w x y)) = .error e := h
        by_cases hw : badW w y = true
        · rw [if_pos hw] at h; cases h; exact .inr rfl
        · rw [if_neg hw] at h; cases h
theorem err_shp {N : Str → Option Int} {TW : List Str} {t : Tm} {e : PD} (hnm : ∀ z, nm z = true → PyData.strOk z = true) (o : Okt nm GR TW t) (h : evT N t = .error e) : (resPD (.error e)).canLay0 = true ∧ (resPD (.error e)).depth ≤ 60 ∧ noDict (resPD (.error e)) = true := by
  have k1 : PyData.strOk "refused" = true := by decide +kernel
  have k2 : PyData.strOk "number" = true := by decide +kernel
  have k3 : PyData.strOk "nought" = true := by decide +kernel
  rcases evT_err o h with ⟨z, hz, rfl⟩ | rfl
  · have k4 := hnm z hz
    refine ⟨by simp [resPD, PyData.canLay0, PyData.canLayAll0, k1, k2, k4], by simp [resPD, PyData.depth, PyData.depthAll], rfl⟩
  · refine ⟨by simp [resPD, PyData.canLay0, PyData.canLayAll0, k1, k3], by simp [resPD, PyData.depth, PyData.depthAll], rfl⟩
def isRef : Res → Bool | .error _ => true | .ok _ => false
theorem gen_of {N : Str → Option Int} {t : Tm} {n : Nat} (hn : dpT t ≤ n) (hO : Okt nm GR TW8 t) (hlv : lvT t ≤ 20) (h1 : ∀ m, t ≠ .num m) (h2 : ∀ z, t ≠ .nam z) : ∃ (w : Str) (ps : List Tm) (k : Nat), n = k + 1 ∧ tupOf t = .tuple (.str w :: ps.map tupOf) ∧ w ≠ "number" ∧ w ≠ "name" ∧ ps.length ≤ 2 ∧ (∀ a ∈ ps, dpT a ≤ k ∧ Okt nm GR TW8 a ∧ lvT a ≤ 20) ∧
    (∀ e r, (ps.filter fun a => isRef (evT N a)) = e :: r → ∃ e', evT N e = .error e' ∧ evT N t = .error e') ∧
    ((ps.filter fun a => isRef (evT N a)) = [] → (∃ a x, t = .less a ∧ w = "less" ∧ ps = [a] ∧ evT N a = .ok x) ∨ ∃ a b x y, t = .two w a b ∧ ps = [a, b] ∧ evT N a = .ok x ∧ evT N b = .ok y) := by
  cases t with
  | num m => exact absurd rfl (h1 m)
  | nam z => exact absurd rfl (h2 z)
  | less a =>
    have hn : dpT a + 1 ≤ n := hn
    refine ⟨"less", [a], n - 1, by omega, rfl, by decide +kernel, by decide +kernel, Nat.le_succ _, ?_, fun e r he => ?_, fun he => ?_⟩
    · intro b hb
      rw [List.mem_singleton] at hb
      subst hb
      exact ⟨by omega, hO, hlv⟩
    · cases ha : evT N a with
      | ok x => rw [List.filter_cons, ha] at he; simp [isRef] at he
      | error e' =>
        rw [List.filter_cons, ha] at he
        simp [isRef] at he
        rw [← he.1]
        refine ⟨e', ha, ?_⟩
        show (match evT N a with | .ok x => .ok (-x) | .error e => .error e : Res) = _
        rw [ha]
    · cases ha : evT N a with
      | ok x => exact .inl ⟨a, x, rfl, rfl, rfl, ha⟩
      | error e' => rw [List.filter_cons, ha] at he; simp [isRef] at he
  | two w a b =>
    have hn : max (dpT a) (dpT b) + 1 ≤ n := hn
    have hlv : lvT a + lvT b ≤ 20 := hlv
    have eT : ∀ r : Res, r = (match evT N a with | .error e => .error e | .ok x => match evT N b with | .error e => .error e | .ok y => if badW w y = true then .error (.tuple [.str "nought"]) else .ok (joinI w x y)) → evT N (.two w a b) = r := fun r hr => by rw [hr]; rfl
    refine ⟨w, [a, b], n - 1, by omega, rfl, hO.1.2.1, hO.1.2.2.1, Nat.le_refl _, ?_, fun e r he => ?_, fun he => ?_⟩
    · intro c hc
      rcases List.mem_cons.mp hc with rfl | hc
      · exact ⟨by omega, hO.2.1, by omega⟩
      · rw [List.mem_singleton] at hc
        subst hc
        exact ⟨by omega, hO.2.2, by omega⟩
    · cases ha : evT N a with
      | error e' =>
        rw [List.filter_cons, ha] at he
        simp [isRef] at he
        rw [← he.1]
        exact ⟨e', ha, eT _ (by rw [ha])⟩
      | ok x =>
        cases hb : evT N b with
        | ok y => rw [List.filter_cons, List.filter_cons, ha, hb] at he; simp [isRef] at he
        | error e' =>
          rw [List.filter_cons, List.filter_cons, ha, hb] at he
          simp [isRef] at he
          rw [← he.1]
          exact ⟨e', hb, eT _ (by rw [ha, hb])⟩
    · cases ha : evT N a with
      | error e' => rw [List.filter_cons, ha] at he; simp [isRef] at he
      | ok x =>
        cases hb : evT N b with
        | ok y => exact .inr ⟨a, b, x, y, rfl, rfl, ha, hb⟩
        | error e' => rw [List.filter_cons, List.filter_cons, ha, hb] at he; simp [isRef] at he
theorem j_div {x y : Int} : joinI "/" x y = twn x y := by
  unfold joinI
  rw [if_neg (by decide +kernel), if_neg (by decide +kernel), if_neg (by decide +kernel), if_pos rfl]
theorem j_rest {x y : Int} : joinI "~" x y = x - twn x y * y := by
  unfold joinI
  rw [if_neg (by decide +kernel), if_neg (by decide +kernel), if_neg (by decide +kernel), if_neg (by decide +kernel), if_pos rfl]
theorem b_of {w : Str} {y : Int} (h : inStrs w ["/", "~"] = true) : badW w y = decide (y = 0) := by
  unfold badW
  rw [h, Bool.and_true]
theorem part_of {w : Str} {x y : Int} (h : inStrs w ["/", "~"] = true) (hj : joinI w x y = if decide (w = "/") = true then twn x y else x - twn x y * y) : partI w x y = resPD (if badW w y = true then .error (.tuple [.str "nought"]) else .ok (joinI w x y)) := by
  rw [b_of h, hj]
  unfold partI
  by_cases hy : y = 0
  · rw [if_pos hy, if_pos (decide_eq_true hy)]
    rfl
  · rw [if_neg hy, show decide (y = 0) = false from decide_eq_false hy]
    rfl
theorem j_lt {x y : Int} : joinI "<" x y = if decide (x < y) = true then 1 else 0 := by
  unfold joinI
  rw [if_neg (by decide +kernel), if_neg (by decide +kernel), if_neg (by decide +kernel), if_neg (by decide +kernel), if_neg (by decide +kernel), if_pos rfl]
theorem j_le {x y : Int} : joinI "<=" x y = if decide (x ≤ y) = true then 1 else 0 := by
  unfold joinI
  rw [if_neg (by decide +kernel), if_neg (by decide +kernel), if_neg (by decide +kernel), if_neg (by decide +kernel), if_neg (by decide +kernel), if_neg (by decide +kernel), if_pos rfl]
theorem j_eq {x y : Int} : joinI "=" x y = if decide (x = y) = true then 1 else 0 := by
  unfold joinI
  rw [if_neg (by decide +kernel), if_neg (by decide +kernel), if_neg (by decide +kernel), if_neg (by decide +kernel), if_neg (by decide +kernel), if_neg (by decide +kernel), if_neg (by decide +kernel)]
theorem no_bad {w : Str} {y : Int} (h : inStrs w ["/", "~"] = false) : ¬ badW w y = true := by
  unfold badW
  rw [h, Bool.and_false]
  exact Bool.false_ne_true
theorem le_eq {x y : Int} (h : ¬ x < y) : decide (x ≤ y) = decide (x = y) := by
  by_cases e : x = y
  · rw [decide_eq_true e, decide_eq_true (by omega)]
  · rw [decide_eq_false e, decide_eq_false (by omega)]
abbrev THas (G : Pg) (n : Nat) (nm : Str → Bool) (GR : Int) : Prop := Has G "_law_worth" P__law_worth (2 + n) (PureN 2 (CW nm GR n) cntM)
theorem ok_worth (n : Nat) (B : Blt G.mg) (hGR : GR < 2 ^ 100) (hnm : ∀ z, nm z = true → PyData.strOk z = true) (h0 : ∀ k, n = k + 1 → THas G k nm GR) (h1 : Has G "_law_number" P__law_number 1 (PureN 1 (fun ds => ∃ l, ds = [.str (Sx l)] ∧ l.length ≤ 600) fun ds => numPD (numL (strAt (ds.getD 0 .none)).cps.toList)))
    (h2 : Has G "_law_parted" P__law_parted 1 (PureN 3 CPart fP)) (F : Fun G.K "_law_worth" "_law_worth" s__law_worth f fd) : FnG G (1 + n + 1) f fd P__law_worth (SpD G.K G.Tb (PureN 2 (CW nm GR n) cntM)) := by
  refine fn_pure F sc__law_worth rfl fun W Z ds hl hC => ?_
  obtain ⟨t, kvs, rfl, hn, hO, hH, hlv⟩ := hC
  rw [cntM_of (Is_tup t)]
  show SDs _ _ [.sh (tupOf t), .sh (.dict kvs), .no, .no, .no, .no, .no, .no, .no] _
  by_cases c1 : ∃ m, t = .num m
  · obtain ⟨m, rfl⟩ := c1
    walk_at "dw"
    try refine iteHT (by decide +kernel) ?_
    walk_at "dw"
    rfl
  by_cases c2 : ∃ z, t = .nam z
  · obtain ⟨z, rfl⟩ := c2
    walk_at "dw"
    try refine iteHF (by decide +kernel) ?_
    walk_at "dw"
    try refine iteHT (by decide +kernel) ?_
    walk_at "dw"
    refine ev_callH h1 (show 1 ≤ 1 + n by omega) ?_ (by kernel_rfl)
    walk_at "dw"
    refine ev_get ?_
    walk_at "dw"
    obtain ⟨t1, t2⟩ := look_txt hH z
    rw [t1]
    refine ⟨⟨_, rfl, by omega⟩, ?_⟩
    show SDs _ _ [.sh (tupOf (.nam z)), .sh (.dict kvs), .sh (.str "name"), .sh (numPD (numH kvs z)), .no, .no, .no, .no, .no] _
    rw [show evT (numH kvs) (.nam z) = (match numH kvs z with | some n => .ok n | none => .error (.tuple [.str "number", .str z])) from rfl]
    cases hz : numH kvs z with
    | none =>
      walk_at "dw"
      rfl
    | some m =>
      walk_at "dw"
      rfl
  obtain ⟨w, ps, k, rfl, eT, n1, n2, hpl, hps, hbad, hgood⟩ := gen_of (N := numH kvs) hn hO hlv (fun m h => c1 ⟨m, h⟩) (fun z h => c2 ⟨z, h⟩)
  have hrec := h0 k rfl
  rw [eT]
  walk_at "dw"
  refine iteHF (decide_eq_false n1) ?_
  walk_at "dw"
  refine iteHF (decide_eq_false n2) ?_
  walk_at "dw"
  let N := numH kvs
  let E0 : List Sl := [.sh (.tuple (.str w :: ps.map tupOf)), .sh (.dict kvs), .sh (.str w), .no, .no, .no, .no, .no, .no]
  refine sd_setLc (i := 4) [("part", 8)] (fun i acc e => acc = (ps.take i).map (fun a => resPD (evT (numH kvs) a)) ∧ e = [.sh (.tuple (.str w :: ps.map tupOf)), .sh (.dict kvs), .sh (.str w), .no, .no, .no, .no, .no, .no]) (it_tup (ev_ex (ex_slice ?_))) (of_decide_eq_true (by kernel_rfl)) rfl (by kernel_rfl) (by kernel_rfl) (by kernel_rfl) rfl (by decide +kernel)
  walk_at "dw"
  refine ep_some ?_
  walk_at "dw"
  refine ep_none ⟨_, sd_tup, ?_⟩
  walk_at "dw"
  rw [cutP1]
  refine ⟨by rw [List.length_map]; omega, ⟨rfl, rfl⟩, fun i acc e d hacc hI hd => ?_, fun acc e hacc hI p hp => ?_⟩
  · obtain ⟨rfl, rfl⟩ := hI
    rw [List.getElem?_map] at hd
    cases hc : ps[i]? with
    | none => rw [hc] at hd; cases hd
    | some a =>
      rw [hc] at hd
      cases hd
      obtain ⟨a1, a2, a3⟩ := hps a (List.mem_of_getElem? hc)
      refine tg_name (i := 8) ?_ (by decide) rfl (of_decide_eq_true (by kernel_rfl)) (loc_of (by kernel_rfl)) (loc_of (by kernel_rfl))
      refine ets_nil (iteT ?_)
      refine ev_callH hrec (show 2 + k ≤ 1 + (k + 1) by omega) ?_ (by kernel_rfl)
      walk_at "dw"
      refine ⟨⟨a, kvs, rfl, a1, a2, hH, a3⟩, ?_⟩
      rw [cntM_of (Is_tup a)]
      refine ⟨?_, rfl⟩
      rw [List.take_succ, hc, List.map_append]
      rfl
  obtain ⟨rfl, rfl⟩ := hI
  have hfull : ps.take (ps.map tupOf).length = ps := List.take_of_length_le (by rw [List.length_map]; exact Nat.le_refl _)
  rw [hfull]
  show SDs _ _ [.sh (.tuple (.str w :: ps.map tupOf)), .sh (.dict kvs), .sh (.str w), .no, .own p (.lst (ps.map fun a => resPD (evT (numH kvs) a))), .no, .no, .no, .no] _
  refine sds_cons (sd_setLc (i := 5) [("part", 8)] (fun i acc e => acc = ((ps.take i).filter (fun a => isRef (evT (numH kvs) a))).map (fun a => resPD (evT (numH kvs) a)) ∧ e = [.sh (.tuple (.str w :: ps.map tupOf)), .sh (.dict kvs), .sh (.str w), .no, .sh (.list (ps.map fun a => resPD (evT (numH kvs) a))), .no, .no, .no, .no]) (it_list (ev_nameF (i := 4) rfl ⟨_, rfl, ?_⟩ rfl (by walk_at "dwvis"))) (of_decide_eq_true (by kernel_rfl)) rfl (by kernel_rfl) (by kernel_rfl) (by kernel_rfl) rfl (by decide +kernel))
  refine ⟨by rw [List.length_map]; omega, ⟨rfl, rfl⟩, fun i acc e d hacc hI hd => ?_, fun acc e hacc hI q hq => ?_⟩
  · obtain ⟨rfl, rfl⟩ := hI
    rw [List.getElem?_map] at hd
    cases hc : ps[i]? with
    | none => rw [hc] at hd; cases hd
    | some a =>
      rw [hc] at hd
      cases hd
      have tk : (ps.take (i + 1)).filter (fun a => isRef (evT (numH kvs) a)) = (ps.take i).filter (fun a => isRef (evT (numH kvs) a)) ++ [a].filter (fun a => isRef (evT (numH kvs) a)) := by
        rw [List.take_succ, hc, List.filter_append]
        rfl
      cases ha : evT (numH kvs) a with
      | ok x =>
        have hd1 : (fun a => resPD (evT (numH kvs) a)) a = resPD (.ok x) := by show resPD _ = _; rw [ha]
        rw [hd1]
        refine tg_name (i := 8) ?_ (by decide) rfl (of_decide_eq_true (by kernel_rfl)) (loc_of (by kernel_rfl)) (loc_of (by kernel_rfl))
        refine ets_one ?_
        walk_at "dw"
        try refine iteHF (by decide +kernel) ?_
        refine ⟨?_, rfl⟩
        have e1 : [a].filter (fun a => isRef (evT (numH kvs) a)) = [] := by simp [ha, isRef]
        rw [tk, e1, List.append_nil]
      | error e =>
        have hd1 : (fun a => resPD (evT (numH kvs) a)) a = resPD (.error e) := by show resPD _ = _; rw [ha]
        rw [hd1]
        refine tg_name (i := 8) ?_ (by decide) rfl (of_decide_eq_true (by kernel_rfl)) (loc_of (by kernel_rfl)) (loc_of (by kernel_rfl))
        refine ets_one ?_
        walk_at "dw"
        try refine iteHT (by decide +kernel) ?_
        walk_at "dw"
        refine ⟨?_, rfl⟩
        have e1 : [a].filter (fun a => isRef (evT (numH kvs) a)) = [a] := by simp [ha, isRef]
        rw [tk, e1, List.map_append]
        show _ ++ [_] = _ ++ [resPD (evT (numH kvs) a)]
        rw [ha]
  obtain ⟨rfl, rfl⟩ := hI
  have hfull2 : ps.take (ps.map fun a => resPD (evT (numH kvs) a)).length = ps := List.take_of_length_le (by rw [List.length_map]; exact Nat.le_refl _)
  rw [hfull2]
  show SDs _ _ [.sh (.tuple (.str w :: ps.map tupOf)), .sh (.dict kvs), .sh (.str w), .no, .sh (.list (ps.map fun a => resPD (evT (numH kvs) a))), .own q (.lst ((ps.filter (fun a => isRef (evT (numH kvs) a))).map fun a => resPD (evT (numH kvs) a))), .no, .no, .no] _
  have hshp : Shp ((ps.filter (fun a => isRef (evT (numH kvs) a))).map fun a => resPD (evT (numH kvs) a)) := fun y hy => by
    obtain ⟨a, h1, rfl⟩ := List.mem_map.mp hy
    obtain ⟨h3, h4⟩ := List.mem_filter.mp h1
    obtain ⟨_, o, _⟩ := hps a h3
    cases he : evT (numH kvs) a with
    | ok x => rw [he] at h4; simp [isRef] at h4
    | error e => exact err_shp hnm o he
  refine sds_cons (sd_if (et_neNil (i := 5) rfl ?_ (shp_nd hshp) (shp_sh hshp) rfl (by walk_at "dwvis")))
  cases hfl : ps.filter (fun a => isRef (evT (numH kvs) a)) with
  | cons e r =>
    obtain ⟨e', h1, h2⟩ := hbad e r hfl
    refine iteHT rfl ?_
    refine sds_cons (sd_ret (ex_ev (ev_ixO (i := 5) (ev_int ?_) rfl (by walk_at "dwvis") ⟨_, _, rfl⟩)))
    refine ⟨0, rfl, _, _, rfl, rfl, _, atI0, ?_⟩
    show some (resPD _) = some (resPD _)
    rw [h1, h2]
  | nil =>
    refine iteHF rfl ?_
    walk_at "dw"
    rcases hgood hfl with ⟨a, x, rfl, rfl, rfl, ha⟩ | ⟨a, b, x, y, rfl, rfl, ha, hb⟩
    · show SD _ _ [.sh (.tuple (.str "less" :: [a].map tupOf)), .sh (.dict kvs), .sh (.str "less"), .no, .sh (.list [resPD (evT (numH kvs) a)]), .own q (.lst _), .no, .no, .no] _
      rw [ha]
      refine sd_par (i := 6) (j := 7) (ex2 ?_) (of_decide_eq_true (by kernel_rfl)) rfl rfl (by decide) (by kernel_rfl) (by kernel_rfl) (fun X g => by have h := g.sc; revert h; generalize X.env = e; intro h; cases e; cases h; kernel_rfl)
      walk_at "dw"
      refine ⟨(fun rv h => by cases h), ?_⟩
      walk_at "dw"
      refine ⟨_, ud_neg, ?_⟩
      walk_at "dw"
      refine ⟨(fun rv h => by cases h), fun _ => ?_⟩
      have e2 : evT (numH kvs) (.less a) = .ok (-x) := by
        show (match evT (numH kvs) a with | .ok x => .ok (-x) | .error e => .error e : Res) = _
        rw [ha]
      show SDs _ _ [.sh (.tuple (.str "less" :: [a].map tupOf)), .sh (.dict kvs), .sh (.str "less"), .no, .sh (.list [resPD (.ok x)]), .own q (.lst _), .sh (.int x), .sh (.int x), .no] _
      walk_at "dw"
      try refine iteHT (by decide +kernel) ?_
      walk_at "dw"
      rw [e2, ← Int.zero_sub]
      rfl
    · show SD _ _ [.sh (.tuple (.str w :: [a, b].map tupOf)), .sh (.dict kvs), .sh (.str w), .no, .sh (.list [resPD (evT (numH kvs) a), resPD (evT (numH kvs) b)]), .own q (.lst _), .no, .no, .no] _
      rw [ha, hb]
      refine sd_par (i := 6) (j := 7) (ex2 ?_) (of_decide_eq_true (by kernel_rfl)) rfl rfl (by decide) (by kernel_rfl) (by kernel_rfl) (fun X g => by have h := g.sc; revert h; generalize X.env = e; intro h; cases e; cases h; kernel_rfl)
      walk_at "dw"
      refine ⟨(fun rv h => by cases h), ?_⟩
      walk_at "dw"
      refine ⟨_, ud_neg, ?_⟩
      walk_at "dw"
      refine ⟨(fun rv h => by cases h), fun _ => ?_⟩
      have eT2 : evT (numH kvs) (.two w a b) = (if badW w y = true then .error (.tuple [.str "nought"]) else .ok (joinI w x y)) := by
        show (match evT (numH kvs) a with | .error e => .error e | .ok x => match evT (numH kvs) b with | .error e => .error e | .ok y => if badW w y = true then .error (.tuple [.str "nought"]) else .ok (joinI w x y) : Res) = _
        rw [ha, hb]
      have hN : ∀ z n, numH kvs z = some n → n.natAbs < 2 ^ 250 := fun z n h => numL_lt (look_txt hH z).2 h
      have bx := log2_of (evT_lt hGR hN (hps a List.mem_cons_self).2.1 ha) (by have := (hps a List.mem_cons_self).2.2; omega)
      have by_ := log2_of (evT_lt hGR hN (hps b (List.mem_cons_of_mem _ List.mem_cons_self)).2.1 hb) (by have := (hps b (List.mem_cons_of_mem _ List.mem_cons_self)).2.2; omega)
      have hw8 : w = "+" ∨ w = "-" ∨ w = "*" ∨ w = "/" ∨ w = "~" ∨ w = "<" ∨ w = "<=" ∨ w = "=" := by
        have h := hO.1.1
        unfold inStrs at h
        simp only [List.any_cons, List.any_nil, Bool.or_false, Bool.or_eq_true, decide_eq_true_eq] at h
        rcases h with h | h | h | h | h | h | h | h <;> simp [← h]
      show SDs _ _ [.sh (.tuple (.str w :: [a, b].map tupOf)), .sh (.dict kvs), .sh (.str w), .no, .sh (.list [resPD (.ok x), resPD (.ok y)]), .own q (.lst _), .sh (.int x), .sh (.int y), .no] _
      walk_at "dw"
      rcases hw8 with rfl | rfl | rfl | rfl | rfl | rfl | rfl | rfl
      · refine iteHF (by decide +kernel) ?_
        walk_at "dw"
        refine ⟨_, od_inT (zs := ["/", "~"]), ?_⟩
        try refine iteHF (by decide +kernel) ?_
        walk_at "dw"
        refine ⟨_, od_inT (zs := ["<", "<=", "="]), ?_⟩
        try refine iteHF (by decide +kernel) ?_
        walk_at "dw"
        try refine iteHT (by decide +kernel) ?_
        walk_at "dw"
        rw [eT2, if_neg (by unfold badW; rw [show inStrs "+" ["/", "~"] = false by decide +kernel, Bool.and_false]; decide)]
        unfold joinI
        rw [if_pos rfl]
        rfl
      · refine iteHF (by decide +kernel) ?_
        walk_at "dw"
        refine ⟨_, od_inT (zs := ["/", "~"]), ?_⟩
        try refine iteHF (by decide +kernel) ?_
        walk_at "dw"
        refine ⟨_, od_inT (zs := ["<", "<=", "="]), ?_⟩
        try refine iteHF (by decide +kernel) ?_
        walk_at "dw"
        try refine iteHF (by decide +kernel) ?_
        walk_at "dw"
        try refine iteHT (by decide +kernel) ?_
        walk_at "dw"
        rw [eT2, if_neg (by unfold badW; rw [show inStrs "-" ["/", "~"] = false by decide +kernel, Bool.and_false]; decide)]
        unfold joinI
        rw [if_neg (by decide +kernel), if_pos rfl]
        rfl
      · refine iteHF (by decide +kernel) ?_
        walk_at "dw"
        refine ⟨_, od_inT (zs := ["/", "~"]), ?_⟩
        try refine iteHF (by decide +kernel) ?_
        walk_at "dw"
        refine ⟨_, od_inT (zs := ["<", "<=", "="]), ?_⟩
        try refine iteHF (by decide +kernel) ?_
        walk_at "dw"
        try refine iteHF (by decide +kernel) ?_
        walk_at "dw"
        try refine iteHF (by decide +kernel) ?_
        walk_at "dw"
        refine ⟨_, od_mulW (by unfold CMulW; omega), ?_⟩
        walk_at "dw"
        rw [eT2, if_neg (by unfold badW; rw [show inStrs "*" ["/", "~"] = false by decide +kernel, Bool.and_false]; decide)]
        unfold joinI
        rw [if_neg (by decide +kernel), if_neg (by decide +kernel), if_pos rfl]
        rfl
      · refine iteHF (by decide +kernel) ?_
        walk_at "dw"
        refine ⟨_, od_inT (zs := ["/", "~"]), ?_⟩
        try refine iteHT (by decide +kernel) ?_
        refine sds_cons (sd_ret (ex_ev (ev_callH h2 (show 1 ≤ 1 + (k + 1) by omega) ?_ (by kernel_rfl))))
        walk_at "dw"
        refine ⟨⟨_, x, y, rfl, bx, by_⟩, ?_⟩
        show some (partI "/" x y) = some (resPD (evT (numH kvs) (.two "/" a b)))
        rw [eT2, part_of (by decide +kernel) (by rw [j_div, if_pos (by decide +kernel)])]
      · refine iteHF (by decide +kernel) ?_
        walk_at "dw"
        refine ⟨_, od_inT (zs := ["/", "~"]), ?_⟩
        try refine iteHT (by decide +kernel) ?_
        refine sds_cons (sd_ret (ex_ev (ev_callH h2 (show 1 ≤ 1 + (k + 1) by omega) ?_ (by kernel_rfl))))
        walk_at "dw"
        refine ⟨⟨_, x, y, rfl, bx, by_⟩, ?_⟩
        show some (partI "~" x y) = some (resPD (evT (numH kvs) (.two "~" a b)))
        rw [eT2, part_of (by decide +kernel) (by rw [j_rest, if_neg (by decide +kernel)])]
      · refine iteHF (by decide +kernel) ?_
        walk_at "dw"
        refine ⟨_, od_inT (zs := ["/", "~"]), ?_⟩
        try refine iteHF (by decide +kernel) ?_
        walk_at "dw"
        refine ⟨_, od_inT (zs := ["<", "<=", "="]), ?_⟩
        try refine iteHT (by decide +kernel) ?_
        walk_at "dw"
        try refine iteHT (by decide +kernel) ?_
        walk_at "dw"
        refine iteD (fun g => ?_) fun g => ?_
        · walk_at "dw"
          rw [eT2, if_neg (no_bad (by decide +kernel)), j_lt, if_pos g]
          rfl
        · walk_at "dw"
          try refine iteHF (by decide +kernel) ?_
          walk_at "dw"
          rw [eT2, if_neg (no_bad (by decide +kernel)), j_lt, if_neg (by rw [g]; decide)]
          rfl
      · refine iteHF (by decide +kernel) ?_
        walk_at "dw"
        refine ⟨_, od_inT (zs := ["/", "~"]), ?_⟩
        try refine iteHF (by decide +kernel) ?_
        walk_at "dw"
        refine ⟨_, od_inT (zs := ["<", "<=", "="]), ?_⟩
        try refine iteHT (by decide +kernel) ?_
        walk_at "dw"
        try refine iteHT (by decide +kernel) ?_
        walk_at "dw"
        refine iteD (fun g => ?_) fun g => ?_
        · walk_at "dw"
          rw [eT2, if_neg (no_bad (by decide +kernel)), j_le, if_pos (by have := of_decide_eq_true g; exact decide_eq_true (by omega))]
          rfl
        · walk_at "dw"
          try refine iteHT (by decide +kernel) ?_
          walk_at "dw"
          rw [eT2, if_neg (no_bad (by decide +kernel)), j_le, le_eq (of_decide_eq_false g)]
          rfl
      · refine iteHF (by decide +kernel) ?_
        walk_at "dw"
        refine ⟨_, od_inT (zs := ["/", "~"]), ?_⟩
        try refine iteHF (by decide +kernel) ?_
        walk_at "dw"
        refine ⟨_, od_inT (zs := ["<", "<=", "="]), ?_⟩
        try refine iteHT (by decide +kernel) ?_
        walk_at "dw"
        try refine iteHF (by decide +kernel) ?_
        walk_at "dw"
        rw [eT2, if_neg (no_bad (by decide +kernel)), j_eq]
        rfl
end K8

namespace K8
open PySem PySem.Spec PyProof.Rows L2 Dw
variable {G : Pg} {f : Addr} {fd : FuncData} {nm : Str → Bool} {GR : Int}
/-- the law's worth of sums as deep as wanted -/
theorem has_worth (B : Blt G.mg) (hGR : GR < 2 ^ 100) (hnm : ∀ z, nm z = true → PyData.strOk z = true) (h1 : Has G "_law_number" P__law_number 1 (PureN 1 (fun ds => ∃ l, ds = [.str (Sx l)] ∧ l.length ≤ 600) fun ds => numPD (numL (strAt (ds.getD 0 .none)).cps.toList)))
    (h2 : Has G "_law_parted" P__law_parted 1 (PureN 3 CPart fP)) (F : Fun G.K "_law_worth" "_law_worth" s__law_worth f fd) (hm : G.mg "_law_worth" = some (.ref f)) (hb : Binds G.K fd P__law_worth []) : ∀ n : Nat, THas G n nm GR := by
  intro n
  induction n with
  | zero =>
    have g := ok_worth 0 B hGR hnm (fun k h => by cases h) h1 h2 F
    exact has_mk F hm hb g
  | succ n ih =>
    have g := ok_worth (n + 1) B hGR hnm (fun k h => by cases h; exact ih) h1 h2 F
    rw [show 1 + (n + 1) + 1 = 2 + (n + 1) by omega] at g
    exact has_mk F hm hb g
/-- the law's asking -/
theorem met_ok {CS CV : Addr} (oS : OwnX G "BadSum" CS "total" 1) (oV : OwnX G "BadValues" CV "held" 1) (F : Fun G.K "_law_met" "_law_met" s__law_met f fd) (hm : G.mg "_law_met" = some (.ref f)) (hb : Binds G.K fd P__law_met [])
    (SS : PySem.W.exmOne G.K (.ref CS) (.ref CS) = some true) (VS : PySem.W.exmOne G.K (.ref CV) (.ref CS) = some false) (VV : PySem.W.exmOne G.K (.ref CV) (.ref CV) = some true) : MetOk G ⟨CS, CV, "total", "held", "told", "sum", "values"⟩ "_law_met" where
  ex := by
    obtain ⟨oc, od, kV, doc, pm, an, cdv, ct, osl, rfl, lk, hcd⟩ := F.ex
    refine ⟨f, _, _, _, _, _, _, _, _, _, _, _, _, _, N__law_met, "ask", hm, F.kp, lk, hcd, hb, sc__law_met, rfl, .inl (by kernel_rfl), by decide +kernel, by decide +kernel, fun X q hK hM => ?_⟩
    exact met_gives (m := ⟨CS, CV, "total", "held", "told", "sum", "values"⟩) (p21 := ⟨0, 0, 0, 0⟩) (eS := "BadSum") (eV := "BadValues") (n := "e") (by kernel_rfl) (by rw [hM]; exact oS.mg) (by decide +kernel) (by kernel_rfl) (by rw [hM]; exact oV.mg) (by decide +kernel)
      (by rw [hK]; exact oS.xf) (by rw [hK]; exact oS.no) (by rw [hK]; exact oV.xf) (by rw [hK]; exact oV.no) (by decide +kernel) rfl (by kernel_rfl) rfl (fun _ => rfl)
  SS := SS
  VS := VS
  VV := VV
end K8

namespace K8
open PySem PySem.Spec PyProof.Rows L2 Dw
local macro_rules | `(tactic| walk_at "dwvis") => `(tactic| exact vis_of (by kernel_rfl))
local macro_rules | `(tactic| walk_at "dwbin") => `(tactic| first
  | refine ⟨_, od_eqS, ?_⟩ | refine ⟨_, od_neS, ?_⟩ | refine ⟨_, od_add, ?_⟩ | refine ⟨_, od_sub, ?_⟩ | refine ⟨_, od_lt, ?_⟩ | refine ⟨_, od_le, ?_⟩ | refine ⟨_, od_gt, ?_⟩ | refine ⟨_, od_ge, ?_⟩ | refine ⟨_, od_eqI, ?_⟩ | refine ⟨_, od_eqB, ?_⟩ | refine ⟨_, od_neB, ?_⟩
  | refine ⟨_, od_isN, ?_⟩ | refine ⟨_, od_addS (by assumption), ?_⟩ | refine ⟨_, od_inT, ?_⟩ | refine ⟨_, od_notN, ?_⟩ | refine ⟨_, od_inSign, ?_⟩ | refine ⟨_, od_notInSign, ?_⟩)
local macro_rules | `(tactic| walk_at "dwcd") => `(tactic| first
  | refine ⟨_, cd_len (by assumption), ?_⟩ | refine ⟨_, cd_lenS (by assumption), ?_⟩ | refine ⟨_, cd_abs, ?_⟩ | refine ⟨_, cd_intI, ?_⟩ | refine ⟨_, cd_intB, ?_⟩ | refine ⟨_, cd_all, ?_⟩ | refine ⟨_, cd_any, ?_⟩ | refine ⟨_, cd_sum, ?_⟩)
local macro_rules | `(tactic| walk_at "dwname") => `(tactic| first
  | refine ev_name (i := 0) rfl ?_ rfl (by walk_at "dwvis") | refine ev_name (i := 1) rfl ?_ rfl (by walk_at "dwvis")
  | refine ev_name (i := 2) rfl ?_ rfl (by walk_at "dwvis") | refine ev_name (i := 3) rfl ?_ rfl (by walk_at "dwvis")
  | refine ev_name (i := 4) rfl ?_ rfl (by walk_at "dwvis") | refine ev_name (i := 5) rfl ?_ rfl (by walk_at "dwvis") | refine ev_name (i := 6) rfl ?_ rfl (by walk_at "dwvis") | refine ev_name (i := 7) rfl ?_ rfl (by walk_at "dwvis") | refine ev_name (i := 8) rfl ?_ rfl (by walk_at "dwvis") | refine ev_name (i := 9) rfl ?_ rfl (by walk_at "dwvis") | refine ev_name (i := 10) rfl ?_ rfl (by walk_at "dwvis") | refine ev_name (i := 11) rfl ?_ rfl (by walk_at "dwvis")
  | refine ev_globD (by assumption) ?_ (by kernel_rfl))
local macro_rules | `(tactic| walk_at "dwcall") => `(tactic| first
  | refine ev_callH (by assumption) (Nat.le_of_ble_eq_true rfl) ?_ (by kernel_rfl)
  | refine ev_ex (ex_callB (id := "len") (x := "len") ?_ (by kernel_rfl) (Blt.len (by assumption)) PySem.boot_len)
  | refine ev_isi2 (n1 := "list") (n2 := "tuple") (T1 := "list") (T2 := "tuple") ?_ (by decide) (by kernel_rfl) (Blt.isinstance (by assumption)) (by kernel_rfl) (Blt.list (by assumption)) PyProof.Rows.boot_list (by kernel_rfl) (Blt.tuple (by assumption)) PyProof.Rows.boot_tuple
  | refine ev_isi (n := "int") (T := "int") ?_ (by decide) (by kernel_rfl) (Blt.isinstance (by assumption)) (by kernel_rfl) (Blt.int (by assumption)) PyProof.Rows.boot_int
  | refine ev_isi (n := "bool") (T := "bool") ?_ (by decide) (by kernel_rfl) (Blt.isinstance (by assumption)) (by kernel_rfl) (Blt.bool (by assumption)) PyProof.Rows.boot_bool
  | refine ev_isi (n := "str") (T := "str") ?_ (by decide) (by kernel_rfl) (Blt.isinstance (by assumption)) (by kernel_rfl) (Blt.str (by assumption)) PyProof.Rows.boot_str
  | refine ev_isi (n := "dict") (T := "dict") ?_ (by decide) (by kernel_rfl) (Blt.isinstance (by assumption)) (by kernel_rfl) (Blt.dict (by assumption)) PyProof.Rows.boot_dict
  | refine ev_ex (ex_callB (id := "all") (x := "all") ?_ (by kernel_rfl) (Blt.all (by assumption)) PyProof.Rows.boot_all)
  | refine ev_ex (ex_callB (id := "any") (x := "any") ?_ (by kernel_rfl) (Blt.any (by assumption)) PyProof.Rows.boot_any)
  | refine ev_ex (ex_callB (id := "abs") (x := "abs") ?_ (by kernel_rfl) (Blt.abs (by assumption)) PyProof.Rows.boot_abs)
  | refine ev_ex (ex_callTy (T := "int") (x := "int") ?_ (by kernel_rfl) (Blt.int (by assumption)) PyProof.Rows.boot_int))
local macro_rules | `(tactic| walk_at "dwset") => `(tactic| first
  | refine sd_set (i := 0) ?_ rfl (of_decide_eq_true (by kernel_rfl)) (loc_of (by kernel_rfl)) (loc_of (by kernel_rfl)) | refine sd_set (i := 1) ?_ rfl (of_decide_eq_true (by kernel_rfl)) (loc_of (by kernel_rfl)) (loc_of (by kernel_rfl)) | refine sd_set (i := 2) ?_ rfl (of_decide_eq_true (by kernel_rfl)) (loc_of (by kernel_rfl)) (loc_of (by kernel_rfl)) | refine sd_set (i := 3) ?_ rfl (of_decide_eq_true (by kernel_rfl)) (loc_of (by kernel_rfl)) (loc_of (by kernel_rfl)) | refine sd_set (i := 4) ?_ rfl (of_decide_eq_true (by kernel_rfl)) (loc_of (by kernel_rfl)) (loc_of (by kernel_rfl)) | refine sd_set (i := 5) ?_ rfl (of_decide_eq_true (by kernel_rfl)) (loc_of (by kernel_rfl)) (loc_of (by kernel_rfl)) | refine sd_set (i := 6) ?_ rfl (of_decide_eq_true (by kernel_rfl)) (loc_of (by kernel_rfl)) (loc_of (by kernel_rfl)) | refine sd_set (i := 7) ?_ rfl (of_decide_eq_true (by kernel_rfl)) (loc_of (by kernel_rfl)) (loc_of (by kernel_rfl)) | refine sd_set (i := 8) ?_ rfl (of_decide_eq_true (by kernel_rfl)) (loc_of (by kernel_rfl)) (loc_of (by kernel_rfl)) | refine sd_set (i := 9) ?_ rfl (of_decide_eq_true (by kernel_rfl)) (loc_of (by kernel_rfl)) (loc_of (by kernel_rfl)) | refine sd_set (i := 10) ?_ rfl (of_decide_eq_true (by kernel_rfl)) (loc_of (by kernel_rfl)) (loc_of (by kernel_rfl)) | refine sd_set (i := 11) ?_ rfl (of_decide_eq_true (by kernel_rfl)) (loc_of (by kernel_rfl)) (loc_of (by kernel_rfl)))
local macro_rules | `(tactic| walk_at "dwev") => `(tactic| first
  | (show EV _ (.Name _ _) _ _; walk_at "dwname")
  | (show EV _ (.Call _ _ _ _) _ _; walk_at "dwcall")
  | refine ev_int ?_ | refine ev_str ?_ | refine ev_ix ?_ | refine ev_tup ?_ | refine ev_ex (ex_cmp ?_) | refine ev_ex (ex_bin ?_)
  | refine ev_none ?_ | refine ev_bool ?_ | refine ev_and ?_ | refine ev_or ?_ | refine ev_one ?_ | refine ev_not ?_
  | refine ev_chain ?_ | refine ev_ex (ex_un ?_) | refine ev_ex (ex_ifExp ?_) | refine ev_ex (ex_lst ?_))
local macro_rules | `(tactic| walk_at "dw1") => `(tactic| first
  | (show SDs _ _ _ _; first | refine sds_cons ?_ | refine sds_nil ?_)
  | (show SD _ _ _ _; first | refine sd_ret ?_ | refine sd_if ?_ | walk_at "dwset")
  | (show EV _ _ _ _; walk_at "dwev")
  | (show EVs _ _ _ _; first | refine evs_nil ?_ | refine evs_cons ?_)
  | (show EX _ _ _ _; first | refine ex_ifExp ?_ | refine ex_lst ?_ | refine ex_ev ?_)
  | (show ET _ _ _ _; first | refine et_cmp ?_ | refine et_not ?_ | refine et_bo ?_ | refine et_val ?_)
  | (show EW _ _ _ _; first | refine ew_and ?_ | refine ew_or ?_ | refine ew_and1 ?_ | refine ew_or1 ?_)
  | (show ∃ d, IxD _ _ _ d ∧ _; first | refine ⟨_, ix_i (by first | rfl | assumption) (by first | exact atI0 | exact atI1 | exact atI2 | rfl | assumption), ?_⟩ | refine ⟨_, ix_s (by assumption) (by first | assumption | rfl), ?_⟩)
  | (show ∃ Qr, CallD _ _ _ Qr ∧ _; walk_at "dwcd")
  | (show ∃ Qr, BinD _ _ _ _ Qr ∧ _; walk_at "dwbin")
  | (show ∃ Qr, CmpD _ _ _ _ Qr ∧ _; walk_at "dwbin")
  | (show ∃ t, CmpD _ _ _ _ (· = .sh (.bool t)) ∧ _; walk_at "dwbin")
  | (show ∀ r, r = _ → _; intro r hr; subst hr) | refine fun (_ : ∀ (p : Addr) (o : OD), _ = Sl.own p o → _) => ?_
  | refine ⟨_, rfl, ?_⟩ | refine ⟨rfl, ?_⟩ | refine ⟨trivial, ?_⟩
  | refine ⟨Nat.le_of_ble_eq_true rfl, ?_⟩ | refine fun (_ : Addr) (_ : _ ∉ owns _) => ?_ | refine ⟨by decide, ?_⟩
  | refine iteHT rfl ?_ | refine iteHF rfl ?_)
local macro_rules | `(tactic| walk_at "dw") => `(tactic| repeat (walk_at "dw1"))
variable {G : Pg} {f : Addr} {fd : FuncData}
def CStr : List PD → Prop := fun ds => ∃ (is : List Int) (k : Int), ds = [.list (is.map .int), .int k] ∧ is.length ≤ 63 ∧ 0 ≤ k ∧ k ≤ 3
theorem ok_stream (B : Blt G.mg) (F : Fun G.K "_law_stream" "_law_stream" s__law_stream f fd) : FnG G 1 f fd P__law_stream (SpD G.K G.Tb (OwnN 2 CStr fun _ o => ∃ xs, o = .lst xs ∧ SOk 0 xs)) := by
  refine fn_own F sc__law_stream rfl fun W Z ds hl hC => ?_
  obtain ⟨is, k, rfl, hn, hk0, hk3⟩ := hC
  have hi : items (.list (is.map PyData.int)) = some (is.map .int) := rfl
  have absP : ∀ i : Int, 0 ≤ (if i < 0 then -i else i) := fun i => by split <;> omega
  have hB : ∀ t : Int, 0 ≤ t.fmod 2147483647 + 31 * k ∧ t.fmod 2147483647 + 31 * k < 2 ^ 40 := fun t => by
    rw [Int.fmod_eq_emod_of_nonneg _ (by decide)]
    have h1 := Int.emod_nonneg t (show (2147483647 : Int) ≠ 0 by decide)
    have h2 := Int.emod_lt_of_pos t (show (0 : Int) < 2147483647 by decide)
    omega
  walk_at "dw"
  refine iteD (fun g => ?_) fun g => ?_
  · have g := of_decide_eq_true g
    rw [List.length_map] at g
    obtain ⟨n, rfl⟩ := Int.eq_ofNat_of_zero_le hk0
    have hn2 : n < is.length := by omega
    have hat : atI (is.map PyData.int) ((n : Nat) : Int) = some (.int is[n]) := by
      have h : ixN (is.map PyData.int).length ((n : Nat) : Int) = some n := by
        rw [List.length_map]
        unfold ixN
        simp
        omega
      unfold atI
      rw [h]
      show (is.map PyData.int)[n]? = _
      rw [List.getElem?_map, List.getElem?_eq_getElem hn2]
      rfl
    refine ex_ev (ev_ex (ex_callB (id := "abs") (x := "abs") (evs_cons (ev_ix ?_)) (by kernel_rfl) (Blt.abs (by assumption)) PyProof.Rows.boot_abs))
    walk_at "dw"
    have hc : 0 ≤ (if is[n] < 0 then -is[n] else is[n]) := absP _
    generalize (if is[n] < 0 then -is[n] else is[n]) = c at hc ⊢
    refine ev_ex (ex_callB (id := "sum") (x := "sum") ?_ (by kernel_rfl) (Blt.sum (by assumption)) PyProof.Rows.boot_sum)
    refine evs_cons (ev_ex (ex_lc [("at", 4), ("one", 5)] (fun i acc e => (∃ ns : List Int, acc = ns.map PyData.int ∧ ∀ n ∈ ns, 0 ≤ n) ∧ e = [.sh (.list (is.map .int)), .sh (.int ((n : Nat) : Int)), .sh (.int c), .no, .no, .no]) (it_enum ?_ (by kernel_rfl) (Blt.enumerate (by assumption))) (of_decide_eq_true (by kernel_rfl)) (by kernel_rfl)))
    walk_at "dw"
    refine ⟨by rw [enumP_len, List.length_map]; omega, ⟨⟨[], rfl, by simp⟩, rfl⟩, fun i acc e d hacc hI hd => ?_, fun acc e hacc hI p hp => ⟨_, rfl, ?_⟩⟩
    · obtain ⟨⟨ns, rfl, hns⟩, rfl⟩ := hI
      obtain ⟨x, hx, rfl⟩ := enumP_get hd
      rw [List.getElem?_map] at hx
      cases hc' : is[i]? with
      | none => rw [hc'] at hx; cases hx
      | some v =>
        rw [hc'] at hx
        cases hx
        have hi6 : i < is.length := (List.getElem?_eq_some_iff.mp hc').1
        refine tg_tup (tgs_cons (tg_name (i := 4) ?_ (by decide) rfl (of_decide_eq_true (by kernel_rfl)) (loc_of (by kernel_rfl)) (loc_of (by kernel_rfl)))) rfl (fun X g t h => pg_tup g.calm h)
        refine tgs_cons (tg_name (i := 5) ?_ (by decide) rfl (of_decide_eq_true (by kernel_rfl)) (loc_of (by kernel_rfl)) (loc_of (by kernel_rfl)))
        refine tgs_nil (ets_nil (iteT ?_))
        walk_at "dw"
        refine ⟨_, od_mul (.inl ⟨by omega, by omega⟩), ?_⟩
        walk_at "dw"
        refine ⟨⟨ns ++ [((i : Int) + 1) * (if v < 0 then -v else v)], by rw [List.map_append]; rfl, fun n hn' => ?_⟩, rfl⟩
        rcases List.mem_append.mp hn' with h | h
        · exact hns n h
        · rw [List.mem_singleton] at h
          rw [h]
          exact Int.mul_nonneg (by omega) (absP v)
    · obtain ⟨⟨ns, rfl, hns⟩, rfl⟩ := hI
      refine evs_nil ⟨_, cd_sum (ns := ns), ?_⟩
      walk_at "dw"
      refine ⟨_, od_mod (by decide), ?_⟩
      walk_at "dw"
      have hm0 : 0 ≤ ns.sum.fmod 2147483647 := by rw [Int.fmod_eq_emod_of_nonneg _ (by decide)]; exact Int.emod_nonneg _ (by decide)
      generalize ns.sum.fmod 2147483647 = mx at hm0 ⊢
      refine ⟨_, od_pow ⟨by decide, by decide, by decide⟩, ?_⟩
      walk_at "dw"
      refine iteD (fun g2 => ?_) fun g2 => ?_
      · walk_at "dw"
        refine ⟨_, od_mod (by decide), ?_⟩
        walk_at "dw"
        refine ⟨_, od_mul (.inl ⟨by decide, by decide⟩), ?_⟩
        walk_at "dw"
        exact ⟨_, _, rfl, _, rfl, c, _, 0, rfl, hc, (hB _).1, (hB _).2, by decide, by decide⟩
      · walk_at "dw"
        refine ⟨_, od_mod (by decide), ?_⟩
        walk_at "dw"
        refine ⟨_, od_mul (.inl ⟨by decide, by decide⟩), ?_⟩
        walk_at "dw"
        exact ⟨_, _, rfl, _, rfl, 0, _, 0, rfl, by decide, (hB _).1, (hB _).2, by decide, by decide⟩
  · have hcut : cutP (is.map PyData.int) none (some 1) = (is.take (min 1 is.length)).map .int := by
      unfold cutP
      have h1 : HT.sIx (is.map PyData.int).length 0 none = 0 := rfl
      have h2 : HT.sIx (is.map PyData.int).length (is.map PyData.int).length (some 1) = min 1 is.length := by
        have h := HT.sIx_nat (is.map PyData.int).length (is.map PyData.int).length 1
        rw [List.length_map] at h
        rw [List.length_map]
        exact h
      rw [h1, h2, Nat.sub_zero, List.drop_zero, List.map_take]
    refine ex_bin ?_
    refine ev_ex (ex_bin ?_)
    refine ev_ex (ex_callTy (T := "int") (x := "int") ?_ (by kernel_rfl) (Blt.int (by assumption)) PyProof.Rows.boot_int)
    refine evs_cons ?_
    refine ev_ex (ex_callB (id := "sum") (x := "sum") ?_ (by kernel_rfl) (Blt.sum (by assumption)) PyProof.Rows.boot_sum)
    refine evs_cons ?_
    refine ev_ex (ex_slice ?_)
    walk_at "dw"
    refine ep_none ?_
    refine ep_some ?_
    walk_at "dw"
    refine ⟨_, sd_lst, fun r hr hown => ?_⟩
    obtain ⟨p9, rfl⟩ := hr
    refine ⟨_, rfl, ?_⟩
    refine evs_nil ?_
    rw [show (OD.lst (cutP (is.map PyData.int) none (some 1))).pd = .list ((is.take (min 1 is.length)).map .int) by rw [hcut]; rfl]
    refine ⟨_, cd_sum, ?_⟩
    walk_at "dw"
    refine ⟨_, od_mod (by decide), ?_⟩
    walk_at "dw"
    refine ⟨_, od_mul (.inl ⟨by decide, by decide⟩), ?_⟩
    walk_at "dw"
    have hc : 0 ≤ (is.take (min 1 is.length)).sum.fmod 1000003 + 7 * k := by
      rw [Int.fmod_eq_emod_of_nonneg _ (by decide)]
      have h1 := Int.emod_nonneg (is.take (min 1 is.length)).sum (show (1000003 : Int) ≠ 0 by decide)
      omega
    generalize (is.take (min 1 is.length)).sum.fmod 1000003 + 7 * k = c at hc ⊢
    refine ev_ex (ex_callB (id := "sum") (x := "sum") ?_ (by kernel_rfl) (Blt.sum (by assumption)) PyProof.Rows.boot_sum)
    refine evs_cons (ev_ex (ex_lc [("at", 4), ("one", 5)] (fun i acc e => (∃ ns : List Int, acc = ns.map PyData.int ∧ ∀ n ∈ ns, 0 ≤ n) ∧ e = [.sh (.list (is.map .int)), .sh (.int k), .sh (.int c), .no, .no, .no]) (it_enum ?_ (by kernel_rfl) (Blt.enumerate (by assumption))) (of_decide_eq_true (by kernel_rfl)) (by kernel_rfl)))
    walk_at "dw"
    refine ⟨by rw [enumP_len, List.length_map]; omega, ⟨⟨[], rfl, by simp⟩, rfl⟩, fun i acc e d hacc hI hd => ?_, fun acc e hacc hI p hp => ⟨_, rfl, ?_⟩⟩
    · obtain ⟨⟨ns, rfl, hns⟩, rfl⟩ := hI
      obtain ⟨x, hx, rfl⟩ := enumP_get hd
      rw [List.getElem?_map] at hx
      cases hc' : is[i]? with
      | none => rw [hc'] at hx; cases hx
      | some v =>
        rw [hc'] at hx
        cases hx
        have hi6 : i < is.length := (List.getElem?_eq_some_iff.mp hc').1
        refine tg_tup (tgs_cons (tg_name (i := 4) ?_ (by decide) rfl (of_decide_eq_true (by kernel_rfl)) (loc_of (by kernel_rfl)) (loc_of (by kernel_rfl)))) rfl (fun X g t h => pg_tup g.calm h)
        refine tgs_cons (tg_name (i := 5) ?_ (by decide) rfl (of_decide_eq_true (by kernel_rfl)) (loc_of (by kernel_rfl)) (loc_of (by kernel_rfl)))
        refine tgs_nil (ets_nil (iteT ?_))
        walk_at "dw"
        refine ⟨_, od_mul (.inl ⟨by omega, by omega⟩), ?_⟩
        walk_at "dw"
        refine ⟨⟨ns ++ [((i : Int) + 1) * (if v < 0 then -v else v)], by rw [List.map_append]; rfl, fun n hn' => ?_⟩, rfl⟩
        rcases List.mem_append.mp hn' with h | h
        · exact hns n h
        · rw [List.mem_singleton] at h
          rw [h]
          exact Int.mul_nonneg (by omega) (absP v)
    · obtain ⟨⟨ns, rfl, hns⟩, rfl⟩ := hI
      refine evs_nil ⟨_, cd_sum (ns := ns), ?_⟩
      walk_at "dw"
      refine ⟨_, od_mod (by decide), ?_⟩
      walk_at "dw"
      have hm0 : 0 ≤ ns.sum.fmod 2147483647 := by rw [Int.fmod_eq_emod_of_nonneg _ (by decide)]; exact Int.emod_nonneg _ (by decide)
      generalize ns.sum.fmod 2147483647 = mx at hm0 ⊢
      refine ⟨_, od_pow ⟨by decide, by decide, by decide⟩, ?_⟩
      walk_at "dw"
      refine iteD (fun g2 => ?_) fun g2 => ?_
      · walk_at "dw"
        refine ⟨_, od_mod (by decide), ?_⟩
        walk_at "dw"
        refine ⟨_, od_mul (.inl ⟨by decide, by decide⟩), ?_⟩
        walk_at "dw"
        exact ⟨_, _, rfl, _, rfl, c, _, 0, rfl, hc, (hB _).1, (hB _).2, by decide, by decide⟩
      · walk_at "dw"
        refine ⟨_, od_mod (by decide), ?_⟩
        walk_at "dw"
        refine ⟨_, od_mul (.inl ⟨by decide, by decide⟩), ?_⟩
        walk_at "dw"
        exact ⟨_, _, rfl, _, rfl, 0, _, 0, rfl, by decide, (hB _).1, (hB _).2, by decide, by decide⟩
end K8

namespace K8
open PySem PySem.Spec PyProof.Rows L2 Dw
section
variable {Γ : Gm} {env : List Sl} {Q : PD → List Sl → Prop} {e : Expr} {pos : Pos}
/-- isinstance(e, (T1, T2, T3, T4)) -/
theorem ev_isi4 {T1 T2 T3 T4 : Str} {n1 n2 n3 n4 : String} {p p1 p2 p3 p4 p5 : Pos} {kk : Nat} (h : EV Γ e env fun d e1 => Q (.bool (anyTy [n1, n2, n3, n4] d)) e1) (hT : ∀ T ∈ [n1, n2, n3, n4], T ∈ ["int", "bool", "str", "list", "tuple", "dict"])
    (hg : Γ.sc.names.lookup ("isinstance" : Str) = some .globalImplicit) (hm : Γ.mg ("isinstance" : Str) = none)
    (g1 : Γ.sc.names.lookup T1 = some .globalImplicit) (m1 : Γ.mg T1 = none) (v1 : bootBuiltins T1 = some (.type n1))
    (g2 : Γ.sc.names.lookup T2 = some .globalImplicit) (m2 : Γ.mg T2 = none) (v2 : bootBuiltins T2 = some (.type n2))
    (g3 : Γ.sc.names.lookup T3 = some .globalImplicit) (m3 : Γ.mg T3 = none) (v3 : bootBuiltins T3 = some (.type n3))
    (g4 : Γ.sc.names.lookup T4 = some .globalImplicit) (m4 : Γ.mg T4 = none) (v4 : bootBuiltins T4 = some (.type n4))
    (a1 : T1 ≠ "__name__" := by decide +kernel) (b1 : (T1 == ("__debug__" : Str)) = false := by decide +kernel)
    (a2 : T2 ≠ "__name__" := by decide +kernel) (b2 : (T2 == ("__debug__" : Str)) = false := by decide +kernel)
    (a3 : T3 ≠ "__name__" := by decide +kernel) (b3 : (T3 == ("__debug__" : Str)) = false := by decide +kernel)
    (a4 : T4 ≠ "__name__" := by decide +kernel) (b4 : (T4 == ("__debug__" : Str)) = false := by decide +kernel)
    (he : NoStar e [.Tuple [.Name T1 p1, .Name T2 p2, .Name T3 p3, .Name T4 p4] kk p5] := by intro _; rfl) (he0 : NoStar (.Tuple [.Name T1 p1, .Name T2 p2, .Name T3 p3, .Name T4 p4] kk p5) [] := by intro _; rfl)
    (he1 : NoStar (.Name T1 p1) [.Name T2 p2, .Name T3 p3, .Name T4 p4] := by intro _; rfl) (he2 : NoStar (.Name T2 p2) [.Name T3 p3, .Name T4 p4] := by intro _; rfl) (he3 : NoStar (.Name T3 p3) [.Name T4 p4] := by intro _; rfl) (he4 : NoStar (.Name T4 p4) [] := by intro _; rfl)
    (hpl : NoStarAny [.Tuple [.Name T1 p1, .Name T2 p2, .Name T3 p3, .Name T4 p4] kk p5] pos := by intro _; rfl) :
    EV Γ (.Call (.Name "isinstance" p) [e, .Tuple [.Name T1 p1, .Name T2 p2, .Name T3 p3, .Name T4 p4] kk p5] [] pos) env Q := .mk fun F R H σ P E w k =>
  ⟨tCB (rIsiT Γ.K) (tCons (WE Γ e) (tCons (tTup (tCons (tC (.ty n1)) (tCons (tC (.ty n2)) (tCons (tC (.ty n3)) (tCons (tC (.ty n4)) tNil))))) tNil)), fun X g => pe_callB (by rw [← g.K]; exact call_isiT) (by unfold Gl Env.kindOf; rw [g.sc]; exact hg) (by rw [g.mg]; exact hm) PyProof.Rows.boot_isinstance
    (pa_cons (WE.pe g) (pa_cons (pe_tup (pa_cons (pe_tyName g g1 m1 v1 a1 b1) (pa_cons (pe_tyName g g2 m2 v2 a2 b2) (pa_cons (pe_tyName g g3 m3 v3 a3 b3) (pa_cons (pe_tyName g g4 m4 v4 a4 b4) pa_nil (he4 _)) (he3 _)) (he2 _)) (he1 _))) pa_nil (he0 _)) (he _)) (by decide) (by decide) (he _) (hpl _),
  h.run F R H σ _ E w fun d e1 v F1 H1 q s1 E1 r => ⟨by show 4 ≤ sizeLine; decide, fun t ht => ⟨v, t, _, _, _, _, rfl, upd_same, .cons (.ty n1) (.cons (.ty n2) (.cons (.ty n3) (.cons (.ty n4) .nil))), rep_ty (E1.exF.trans (same_upd ht)) r, kitAny_of d [n1, n2, n3, n4] hT, k _ e1 _ F1 _ q s1 (E1.growU ht noTb_tup) rfl⟩⟩⟩
theorem it_LT {tg : Expr} {i : Nat} {x : Str} {d : PD} {xs : List PD} {Qi : List PD → List Sl → Prop} (h : env[i]? = some (.sh d)) (hi : items d = some xs) (q : Qi xs env) (hN : Γ.N[i]? = some x) (hv : Vis Γ.sc x)
    (hd : (x == ("__debug__" : Str)) = false := by decide +kernel) (hcd : (x == ("__classdict__" : Str)) = false := by decide +kernel) : IT Γ tg (.Name x pos) env Qi := by
  cases d with
  | list l => exact it_list (ev_name h ⟨_, rfl, by cases hi; exact q⟩ hN hv hd hcd)
  | tuple l => exact it_tup (ev_name h ⟨_, rfl, by cases hi; exact q⟩ hN hv hd hcd)
  | _ => cases hi
theorem it_zipLT {elts : List Expr} {kk : Nat} {p tpos p1 p2 : Pos} {i j : Nat} {x y : Str} {d : PD} {xs : List PD} {Qi : List PD → List Sl → Prop} (h1 : env[i]? = some (.sh d)) (h2 : env[j]? = some (.sh d)) (hi : items d = some xs) (q : Qi (zipP xs xs) env)
    (hN1 : Γ.N[i]? = some x) (hv1 : Vis Γ.sc x) (hN2 : Γ.N[j]? = some y) (hv2 : Vis Γ.sc y) (hg : Γ.sc.names.lookup ("zip" : Str) = some .globalImplicit) (hm : Γ.mg ("zip" : Str) = none)
    (hd1 : (x == ("__debug__" : Str)) = false := by decide +kernel) (hcd1 : (x == ("__classdict__" : Str)) = false := by decide +kernel) (hd2 : (y == ("__debug__" : Str)) = false := by decide +kernel) (hcd2 : (y == ("__classdict__" : Str)) = false := by decide +kernel) :
    IT Γ (.Tuple elts kk tpos) (.Call (.Name "zip" p) [.Name x p1, .Name y p2] [] pos) env Qi := by
  cases d with
  | list l => exact it_zip (evs_cons (ev_name h1 (evs_cons (ev_name h2 (evs_nil ⟨_, _, .inl rfl, by cases hi; exact q⟩) hN2 hv2 hd2 hcd2)) hN1 hv1 hd1 hcd1)) hg hm
  | tuple l => exact it_zip (evs_cons (ev_name h1 (evs_cons (ev_name h2 (evs_nil ⟨_, _, .inr rfl, by cases hi; exact q⟩) hN2 hv2 hd2 hcd2)) hN1 hv1 hd1 hcd1)) hg hm
  | _ => cases hi
end
local macro_rules | `(tactic| walk_at "dwvis") => `(tactic| exact vis_of (by kernel_rfl))
local macro_rules | `(tactic| walk_at "dwbin") => `(tactic| first
  | refine ⟨_, od_eqS, ?_⟩ | refine ⟨_, od_neS, ?_⟩ | refine ⟨_, od_add, ?_⟩ | refine ⟨_, od_sub, ?_⟩ | refine ⟨_, od_lt, ?_⟩ | refine ⟨_, od_le, ?_⟩ | refine ⟨_, od_gt, ?_⟩ | refine ⟨_, od_ge, ?_⟩ | refine ⟨_, od_eqI, ?_⟩ | refine ⟨_, od_eqB, ?_⟩ | refine ⟨_, od_neB, ?_⟩
  | refine ⟨_, od_isN, ?_⟩ | refine ⟨_, od_addS (by assumption), ?_⟩ | refine ⟨_, od_inT, ?_⟩ | refine ⟨_, od_notN, ?_⟩ | refine ⟨_, od_inSign, ?_⟩ | refine ⟨_, od_notInSign, ?_⟩)
local macro_rules | `(tactic| walk_at "dwcd") => `(tactic| first
  | refine ⟨_, cd_len (by assumption), ?_⟩ | refine ⟨_, cd_lenS (by assumption), ?_⟩ | refine ⟨_, cd_abs, ?_⟩ | refine ⟨_, cd_intI, ?_⟩ | refine ⟨_, cd_intB, ?_⟩ | refine ⟨_, cd_all, ?_⟩ | refine ⟨_, cd_any, ?_⟩ | refine ⟨_, cd_sum, ?_⟩)
local macro_rules | `(tactic| walk_at "dwname") => `(tactic| first
  | refine ev_name (i := 0) rfl ?_ rfl (by walk_at "dwvis") | refine ev_name (i := 1) rfl ?_ rfl (by walk_at "dwvis")
  | refine ev_name (i := 2) rfl ?_ rfl (by walk_at "dwvis") | refine ev_name (i := 3) rfl ?_ rfl (by walk_at "dwvis")
  | refine ev_name (i := 4) rfl ?_ rfl (by walk_at "dwvis") | refine ev_name (i := 5) rfl ?_ rfl (by walk_at "dwvis") | refine ev_name (i := 6) rfl ?_ rfl (by walk_at "dwvis") | refine ev_name (i := 7) rfl ?_ rfl (by walk_at "dwvis") | refine ev_name (i := 8) rfl ?_ rfl (by walk_at "dwvis") | refine ev_name (i := 9) rfl ?_ rfl (by walk_at "dwvis") | refine ev_name (i := 10) rfl ?_ rfl (by walk_at "dwvis") | refine ev_name (i := 11) rfl ?_ rfl (by walk_at "dwvis")
  | refine ev_globD (by assumption) ?_ (by kernel_rfl))
local macro_rules | `(tactic| walk_at "dwcall") => `(tactic| first
  | refine ev_callH (by assumption) (Nat.le_of_ble_eq_true rfl) ?_ (by kernel_rfl)
  | refine ev_ex (ex_callB (id := "len") (x := "len") ?_ (by kernel_rfl) (Blt.len (by assumption)) PySem.boot_len)
  | refine ev_isi2 (n1 := "list") (n2 := "tuple") (T1 := "list") (T2 := "tuple") ?_ (by decide) (by kernel_rfl) (Blt.isinstance (by assumption)) (by kernel_rfl) (Blt.list (by assumption)) PyProof.Rows.boot_list (by kernel_rfl) (Blt.tuple (by assumption)) PyProof.Rows.boot_tuple
  | refine ev_isi (n := "int") (T := "int") ?_ (by decide) (by kernel_rfl) (Blt.isinstance (by assumption)) (by kernel_rfl) (Blt.int (by assumption)) PyProof.Rows.boot_int
  | refine ev_isi (n := "bool") (T := "bool") ?_ (by decide) (by kernel_rfl) (Blt.isinstance (by assumption)) (by kernel_rfl) (Blt.bool (by assumption)) PyProof.Rows.boot_bool
  | refine ev_isi (n := "str") (T := "str") ?_ (by decide) (by kernel_rfl) (Blt.isinstance (by assumption)) (by kernel_rfl) (Blt.str (by assumption)) PyProof.Rows.boot_str
  | refine ev_isi (n := "dict") (T := "dict") ?_ (by decide) (by kernel_rfl) (Blt.isinstance (by assumption)) (by kernel_rfl) (Blt.dict (by assumption)) PyProof.Rows.boot_dict
  | refine ev_ex (ex_callB (id := "all") (x := "all") ?_ (by kernel_rfl) (Blt.all (by assumption)) PyProof.Rows.boot_all)
  | refine ev_ex (ex_callB (id := "any") (x := "any") ?_ (by kernel_rfl) (Blt.any (by assumption)) PyProof.Rows.boot_any)
  | refine ev_ex (ex_callB (id := "abs") (x := "abs") ?_ (by kernel_rfl) (Blt.abs (by assumption)) PyProof.Rows.boot_abs)
  | refine ev_ex (ex_callTy (T := "int") (x := "int") ?_ (by kernel_rfl) (Blt.int (by assumption)) PyProof.Rows.boot_int))
local macro_rules | `(tactic| walk_at "dwset") => `(tactic| first
  | refine sd_set (i := 0) ?_ rfl (of_decide_eq_true (by kernel_rfl)) (loc_of (by kernel_rfl)) (loc_of (by kernel_rfl)) | refine sd_set (i := 1) ?_ rfl (of_decide_eq_true (by kernel_rfl)) (loc_of (by kernel_rfl)) (loc_of (by kernel_rfl)) | refine sd_set (i := 2) ?_ rfl (of_decide_eq_true (by kernel_rfl)) (loc_of (by kernel_rfl)) (loc_of (by kernel_rfl)) | refine sd_set (i := 3) ?_ rfl (of_decide_eq_true (by kernel_rfl)) (loc_of (by kernel_rfl)) (loc_of (by kernel_rfl)) | refine sd_set (i := 4) ?_ rfl (of_decide_eq_true (by kernel_rfl)) (loc_of (by kernel_rfl)) (loc_of (by kernel_rfl)) | refine sd_set (i := 5) ?_ rfl (of_decide_eq_true (by kernel_rfl)) (loc_of (by kernel_rfl)) (loc_of (by kernel_rfl)) | refine sd_set (i := 6) ?_ rfl (of_decide_eq_true (by kernel_rfl)) (loc_of (by kernel_rfl)) (loc_of (by kernel_rfl)) | refine sd_set (i := 7) ?_ rfl (of_decide_eq_true (by kernel_rfl)) (loc_of (by kernel_rfl)) (loc_of (by kernel_rfl)) | refine sd_set (i := 8) ?_ rfl (of_decide_eq_true (by kernel_rfl)) (loc_of (by kernel_rfl)) (loc_of (by kernel_rfl)) | refine sd_set (i := 9) ?_ rfl (of_decide_eq_true (by kernel_rfl)) (loc_of (by kernel_rfl)) (loc_of (by kernel_rfl)) | refine sd_set (i := 10) ?_ rfl (of_decide_eq_true (by kernel_rfl)) (loc_of (by kernel_rfl)) (loc_of (by kernel_rfl)) | refine sd_set (i := 11) ?_ rfl (of_decide_eq_true (by kernel_rfl)) (loc_of (by kernel_rfl)) (loc_of (by kernel_rfl)))
local macro_rules | `(tactic| walk_at "dwev") => `(tactic| first
  | (show EV _ (.Name _ _) _ _; walk_at "dwname")
  | (show EV _ (.Call _ _ _ _) _ _; walk_at "dwcall")
  | refine ev_int ?_ | refine ev_str ?_ | refine ev_ix ?_ | refine ev_tup ?_ | refine ev_ex (ex_cmp ?_) | refine ev_ex (ex_bin ?_)
  | refine ev_none ?_ | refine ev_bool ?_ | refine ev_and ?_ | refine ev_or ?_ | refine ev_one ?_ | refine ev_not ?_
  | refine ev_chain ?_ | refine ev_ex (ex_un ?_) | refine ev_ex (ex_ifExp ?_) | refine ev_ex (ex_lst ?_))
local macro_rules | `(tactic| walk_at "dw1") => `(tactic| first
  | (show SDs _ _ _ _; first | refine sds_cons ?_ | refine sds_nil ?_)
  | (show SD _ _ _ _; first | refine sd_ret ?_ | refine sd_if ?_ | walk_at "dwset")
  | (show EV _ _ _ _; walk_at "dwev")
  | (show EVs _ _ _ _; first | refine evs_nil ?_ | refine evs_cons ?_)
  | (show EX _ _ _ _; first | refine ex_ifExp ?_ | refine ex_lst ?_ | refine ex_ev ?_)
  | (show ET _ _ _ _; first | refine et_cmp ?_ | refine et_not ?_ | refine et_bo ?_ | refine et_val ?_)
  | (show EW _ _ _ _; first | refine ew_and ?_ | refine ew_or ?_ | refine ew_and1 ?_ | refine ew_or1 ?_)
  | (show ∃ d, IxD _ _ _ d ∧ _; first | refine ⟨_, ix_i (by first | rfl | assumption) (by first | exact atI0 | exact atI1 | exact atI2 | rfl | assumption), ?_⟩ | refine ⟨_, ix_s (by assumption) (by first | assumption | rfl), ?_⟩)
  | (show ∃ Qr, CallD _ _ _ Qr ∧ _; walk_at "dwcd")
  | (show ∃ Qr, BinD _ _ _ _ Qr ∧ _; walk_at "dwbin")
  | (show ∃ Qr, CmpD _ _ _ _ Qr ∧ _; walk_at "dwbin")
  | (show ∃ t, CmpD _ _ _ _ (· = .sh (.bool t)) ∧ _; walk_at "dwbin")
  | (show ∀ r, r = _ → _; intro r hr; subst hr) | refine fun (_ : ∀ (p : Addr) (o : OD), _ = Sl.own p o → _) => ?_
  | refine ⟨_, rfl, ?_⟩ | refine ⟨rfl, ?_⟩ | refine ⟨trivial, ?_⟩
  | refine ⟨Nat.le_of_ble_eq_true rfl, ?_⟩ | refine fun (_ : Addr) (_ : _ ∉ owns _) => ?_ | refine ⟨by decide, ?_⟩
  | refine iteHT rfl ?_ | refine iteHF rfl ?_)
local macro_rules | `(tactic| walk_at "dw") => `(tactic| repeat (walk_at "dw1"))

local macro_rules | `(tactic| walk_at "dwcall") => `(tactic| first
  | refine ev_isi (n := "list") (T := "list") ?_ (by decide) (by kernel_rfl) (Blt.isinstance (by assumption)) (by kernel_rfl) (Blt.list (by assumption)) PyProof.Rows.boot_list
  | refine ev_isi (n := "tuple") (T := "tuple") ?_ (by decide) (by kernel_rfl) (Blt.isinstance (by assumption)) (by kernel_rfl) (Blt.tuple (by assumption)) PyProof.Rows.boot_tuple
  | refine ev_isi4 (n1 := "int") (n2 := "list") (n3 := "tuple") (n4 := "dict") (T1 := "int") (T2 := "list") (T3 := "tuple") (T4 := "dict") ?_ (by decide) (by kernel_rfl) (Blt.isinstance (by assumption)) (by kernel_rfl) (Blt.int (by assumption)) PyProof.Rows.boot_int (by kernel_rfl) (Blt.list (by assumption)) PyProof.Rows.boot_list (by kernel_rfl) (Blt.tuple (by assumption)) PyProof.Rows.boot_tuple (by kernel_rfl) (Blt.dict (by assumption)) PyProof.Rows.boot_dict)
variable {G : Pg} {f : Addr} {fd : FuncData}
def flatB : PD → Bool
  | .none => true
  | .bool _ => true
  | .int _ => true
  | .str _ => true
  | _ => false
/-- things that can be compared, as deep as n -/
def Sm : Nat → PD → Prop
  | 0, d => flatB d = true
  | n + 1, d => flatB d = true ∨ (∃ xs, items d = some xs ∧ xs.length ≤ 100000 ∧ ∀ x ∈ xs, Sm n x) ∨ ∃ kvs, d = .dict kvs ∧ kvs.length ≤ 100000 ∧ Sm n (.list (itemsP kvs))
theorem Sm.up : ∀ {n : Nat} {d : PD}, Sm n d → Sm (n + 1) d
  | 0, _, h => .inl h
  | _ + 1, _, .inl h => .inl h
  | _ + 1, _, .inr (.inl ⟨xs, h1, h2, h3⟩) => .inr (.inl ⟨xs, h1, h2, fun x hx => Sm.up (h3 x hx)⟩)
  | _ + 1, _, .inr (.inr ⟨kvs, h1, h2, h3⟩) => .inr (.inr ⟨kvs, h1, h2, Sm.up h3⟩)
theorem Sm.mono {n m : Nat} {d : PD} (h : Sm n d) (hm : n ≤ m) : Sm m d := by
  induction hm with
  | refl => exact h
  | step _ ih => exact ih.up
def CSm (n : Nat) : List PD → Prop := fun ds => ∃ d, ds = [d, d] ∧ Sm n d
abbrev TSame (n : Nat) : TD := PureN 2 (CSm n) fun _ => .bool true
abbrev SHas (G : Pg) (n : Nat) : Prop := Has G "_law_same" P__law_same (n + 1) (TSame n)
theorem it_L {d : PD} {xs : List PD} (h : items d = some xs) : anyTy ["list", "tuple"] d = true := by
  rw [tyLT]
  cases d <;> first | rfl | cases h
theorem fl_L {d : PD} (h : flatB d = true) : anyTy ["list", "tuple"] d = false := by
  rw [tyLT]
  cases d <;> first | rfl | cases h
theorem ne_self (b : Bool) : (!decide (b = b)) = false := by rw [decide_eq_true rfl]; rfl
theorem ok_same (n : Nat) (B : Blt G.mg) (h0 : ∀ k, n = k + 1 → SHas G k) (F : Fun G.K "_law_same" "_law_same" s__law_same f fd) : FnG G (n + 1) f fd P__law_same (SpD G.K G.Tb (TSame n)) := by
  refine fn_pure F sc__law_same rfl fun W Z ds hl hC => ?_
  obtain ⟨d, rfl, hd⟩ := hC
  show SDs _ _ [.sh d, .sh d, .no, .no] _
  have hcase : flatB d = true ∨ ∃ k, n = k + 1 ∧ ((∃ xs, items d = some xs ∧ xs.length ≤ 100000 ∧ ∀ x ∈ xs, Sm k x) ∨ ∃ kvs, d = .dict kvs ∧ kvs.length ≤ 100000 ∧ Sm k (.list (itemsP kvs))) := by
    cases n with
    | zero => exact .inl hd
    | succ k => rcases hd with h | h; exact .inl h; exact .inr ⟨k, rfl, h⟩
  rcases hcase with hf | ⟨k, rfl, ⟨xs, hi, hx1, hx2⟩ | ⟨kvs, rfl, hk1, hk2⟩⟩
  · walk_at "dw"
    refine iteHF (fl_L hf) ?_
    walk_at "dw"
    cases d with
    | none =>
      walk_at "dw"
      refine ⟨_, od_eq (x := .non) (y := .non) rfl rfl rfl, ?_⟩
      walk_at "dw"
      rfl
    | bool x =>
      walk_at "dw"
      exact retB (decide_eq_true rfl)
    | int x =>
      walk_at "dw"
      exact retB (decide_eq_true rfl)
    | str x =>
      walk_at "dw"
      exact retB (decide_eq_true rfl)
    | _ => cases hf
  · have hrec := h0 k rfl
    walk_at "dw"
    refine iteHT (it_L hi) ?_
    walk_at "dw"
    refine iteHF (ne_self _) ?_
    walk_at "dw"
    refine iteHF (ne_self _) ?_
    walk_at "dw"
    refine iteHT (decide_eq_true rfl) ?_
    walk_at "dw"
    refine ev_ex (ex_lc [("x", 2), ("y", 3)] (fun i acc e => acc = List.replicate i (.bool true) ∧ e = [.sh d, .sh d, .no, .no]) (it_zipLT (i := 0) (j := 1) rfl rfl hi ?_ rfl (by walk_at "dwvis") rfl (by walk_at "dwvis") (by kernel_rfl) (Blt.zip (by assumption))) (of_decide_eq_true (by kernel_rfl)) (by kernel_rfl))
    refine ⟨by rw [zipP_len]; omega, ⟨rfl, rfl⟩, fun i acc e d' hacc hI hd' => ?_, fun acc e hacc hI p hp => ⟨_, rfl, ?_⟩⟩
    · obtain ⟨rfl, rfl⟩ := hI
      obtain ⟨x, y, hx, hy, rfl⟩ := zipP_get hd'
      rw [hx] at hy
      cases hy
      refine tg_tup (tgs_cons (tg_name (i := 2) ?_ (by decide) rfl (of_decide_eq_true (by kernel_rfl)) (loc_of (by kernel_rfl)) (loc_of (by kernel_rfl)))) rfl (fun X g t h => pg_tup g.calm h)
      refine tgs_cons (tg_name (i := 3) ?_ (by decide) rfl (of_decide_eq_true (by kernel_rfl)) (loc_of (by kernel_rfl)) (loc_of (by kernel_rfl)))
      refine tgs_nil (ets_nil (iteT ?_))
      refine ev_callH hrec (Nat.le_refl _) ?_ (by kernel_rfl)
      walk_at "dw"
      refine ⟨⟨x, rfl, hx2 x (List.mem_of_getElem? hx)⟩, ?_⟩
      refine ⟨?_, rfl⟩
      rw [List.replicate_succ']
    · obtain ⟨rfl, rfl⟩ := hI
      walk_at "dw"
      rw [show (OD.lst (List.replicate (zipP xs xs).length (PyData.bool true))).pd = .list ((List.replicate (zipP xs xs).length true).map .bool) by rw [List.map_replicate]; rfl]
      walk_at "dw"
      refine retB ?_
      simp
  · have hrec := h0 k rfl
    walk_at "dw"
    refine ev_callH hrec (Nat.le_refl _) ?_ (by kernel_rfl)
    refine evs_cons (ev_ex (ex_items ?_ (by kernel_rfl) (Blt.list (by assumption))))
    walk_at "dw"
    intro l
    refine ⟨_, rfl, ?_⟩
    refine evs_cons (ev_ex (ex_items ?_ (by kernel_rfl) (Blt.list (by assumption))))
    walk_at "dw"
    intro l2
    refine ⟨_, rfl, ?_⟩
    walk_at "dw"
    refine ⟨⟨_, rfl, hk2⟩, ?_⟩
    rfl
/-- alike things are the same, as deep as wanted -/
theorem has_same (B : Blt G.mg) (F : Fun G.K "_law_same" "_law_same" s__law_same f fd) (hm : G.mg "_law_same" = some (.ref f)) (hb : Binds G.K fd P__law_same []) : ∀ n : Nat, SHas G n := by
  intro n
  induction n with
  | zero => exact has_mk F hm hb (ok_same 0 B (fun k h => by cases h) F)
  | succ n ih => exact has_mk F hm hb (ok_same (n + 1) B (fun k h => by cases h; exact ih) F)
end K8

namespace K8
open PySem PySem.Spec PyProof.Rows L2 Dw
local macro_rules | `(tactic| walk_at "dwvis") => `(tactic| exact vis_of (by kernel_rfl))
local macro_rules | `(tactic| walk_at "dwbin") => `(tactic| first
  | refine ⟨_, od_eqS, ?_⟩ | refine ⟨_, od_neS, ?_⟩ | refine ⟨_, od_add, ?_⟩ | refine ⟨_, od_sub, ?_⟩ | refine ⟨_, od_lt, ?_⟩ | refine ⟨_, od_le, ?_⟩ | refine ⟨_, od_gt, ?_⟩ | refine ⟨_, od_ge, ?_⟩ | refine ⟨_, od_eqI, ?_⟩ | refine ⟨_, od_eqB, ?_⟩ | refine ⟨_, od_neB, ?_⟩
  | refine ⟨_, od_isN, ?_⟩ | refine ⟨_, od_addS (by assumption), ?_⟩ | refine ⟨_, od_inT, ?_⟩ | refine ⟨_, od_notN, ?_⟩ | refine ⟨_, od_inSign, ?_⟩ | refine ⟨_, od_notInSign, ?_⟩)
local macro_rules | `(tactic| walk_at "dwcd") => `(tactic| first
  | refine ⟨_, cd_len (by assumption), ?_⟩ | refine ⟨_, cd_lenS (by assumption), ?_⟩ | refine ⟨_, cd_abs, ?_⟩ | refine ⟨_, cd_intI, ?_⟩ | refine ⟨_, cd_intB, ?_⟩ | refine ⟨_, cd_all, ?_⟩ | refine ⟨_, cd_any, ?_⟩ | refine ⟨_, cd_sum, ?_⟩)
local macro_rules | `(tactic| walk_at "dwname") => `(tactic| first
  | refine ev_name (i := 0) rfl ?_ rfl (by walk_at "dwvis") | refine ev_name (i := 1) rfl ?_ rfl (by walk_at "dwvis")
  | refine ev_name (i := 2) rfl ?_ rfl (by walk_at "dwvis") | refine ev_name (i := 3) rfl ?_ rfl (by walk_at "dwvis")
  | refine ev_name (i := 4) rfl ?_ rfl (by walk_at "dwvis") | refine ev_name (i := 5) rfl ?_ rfl (by walk_at "dwvis") | refine ev_name (i := 6) rfl ?_ rfl (by walk_at "dwvis") | refine ev_name (i := 7) rfl ?_ rfl (by walk_at "dwvis") | refine ev_name (i := 8) rfl ?_ rfl (by walk_at "dwvis") | refine ev_name (i := 9) rfl ?_ rfl (by walk_at "dwvis") | refine ev_name (i := 10) rfl ?_ rfl (by walk_at "dwvis") | refine ev_name (i := 11) rfl ?_ rfl (by walk_at "dwvis")
  | refine ev_globD (by assumption) ?_ (by kernel_rfl))
local macro_rules | `(tactic| walk_at "dwcall") => `(tactic| first
  | refine ev_callH (by assumption) (Nat.le_of_ble_eq_true rfl) ?_ (by kernel_rfl)
  | refine ev_ex (ex_callB (id := "len") (x := "len") ?_ (by kernel_rfl) (Blt.len (by assumption)) PySem.boot_len)
  | refine ev_isi2 (n1 := "list") (n2 := "tuple") (T1 := "list") (T2 := "tuple") ?_ (by decide) (by kernel_rfl) (Blt.isinstance (by assumption)) (by kernel_rfl) (Blt.list (by assumption)) PyProof.Rows.boot_list (by kernel_rfl) (Blt.tuple (by assumption)) PyProof.Rows.boot_tuple
  | refine ev_isi (n := "int") (T := "int") ?_ (by decide) (by kernel_rfl) (Blt.isinstance (by assumption)) (by kernel_rfl) (Blt.int (by assumption)) PyProof.Rows.boot_int
  | refine ev_isi (n := "bool") (T := "bool") ?_ (by decide) (by kernel_rfl) (Blt.isinstance (by assumption)) (by kernel_rfl) (Blt.bool (by assumption)) PyProof.Rows.boot_bool
  | refine ev_isi (n := "str") (T := "str") ?_ (by decide) (by kernel_rfl) (Blt.isinstance (by assumption)) (by kernel_rfl) (Blt.str (by assumption)) PyProof.Rows.boot_str
  | refine ev_isi (n := "dict") (T := "dict") ?_ (by decide) (by kernel_rfl) (Blt.isinstance (by assumption)) (by kernel_rfl) (Blt.dict (by assumption)) PyProof.Rows.boot_dict
  | refine ev_ex (ex_callB (id := "all") (x := "all") ?_ (by kernel_rfl) (Blt.all (by assumption)) PyProof.Rows.boot_all)
  | refine ev_ex (ex_callB (id := "any") (x := "any") ?_ (by kernel_rfl) (Blt.any (by assumption)) PyProof.Rows.boot_any)
  | refine ev_ex (ex_callB (id := "abs") (x := "abs") ?_ (by kernel_rfl) (Blt.abs (by assumption)) PyProof.Rows.boot_abs)
  | refine ev_ex (ex_callTy (T := "int") (x := "int") ?_ (by kernel_rfl) (Blt.int (by assumption)) PyProof.Rows.boot_int))
local macro_rules | `(tactic| walk_at "dwset") => `(tactic| first
  | refine sd_set (i := 0) ?_ rfl (of_decide_eq_true (by kernel_rfl)) (loc_of (by kernel_rfl)) (loc_of (by kernel_rfl)) | refine sd_set (i := 1) ?_ rfl (of_decide_eq_true (by kernel_rfl)) (loc_of (by kernel_rfl)) (loc_of (by kernel_rfl)) | refine sd_set (i := 2) ?_ rfl (of_decide_eq_true (by kernel_rfl)) (loc_of (by kernel_rfl)) (loc_of (by kernel_rfl)) | refine sd_set (i := 3) ?_ rfl (of_decide_eq_true (by kernel_rfl)) (loc_of (by kernel_rfl)) (loc_of (by kernel_rfl)) | refine sd_set (i := 4) ?_ rfl (of_decide_eq_true (by kernel_rfl)) (loc_of (by kernel_rfl)) (loc_of (by kernel_rfl)) | refine sd_set (i := 5) ?_ rfl (of_decide_eq_true (by kernel_rfl)) (loc_of (by kernel_rfl)) (loc_of (by kernel_rfl)) | refine sd_set (i := 6) ?_ rfl (of_decide_eq_true (by kernel_rfl)) (loc_of (by kernel_rfl)) (loc_of (by kernel_rfl)) | refine sd_set (i := 7) ?_ rfl (of_decide_eq_true (by kernel_rfl)) (loc_of (by kernel_rfl)) (loc_of (by kernel_rfl)) | refine sd_set (i := 8) ?_ rfl (of_decide_eq_true (by kernel_rfl)) (loc_of (by kernel_rfl)) (loc_of (by kernel_rfl)) | refine sd_set (i := 9) ?_ rfl (of_decide_eq_true (by kernel_rfl)) (loc_of (by kernel_rfl)) (loc_of (by kernel_rfl)) | refine sd_set (i := 10) ?_ rfl (of_decide_eq_true (by kernel_rfl)) (loc_of (by kernel_rfl)) (loc_of (by kernel_rfl)) | refine sd_set (i := 11) ?_ rfl (of_decide_eq_true (by kernel_rfl)) (loc_of (by kernel_rfl)) (loc_of (by kernel_rfl)))
local macro_rules | `(tactic| walk_at "dwev") => `(tactic| first
  | (show EV _ (.Name _ _) _ _; walk_at "dwname")
  | (show EV _ (.Call _ _ _ _) _ _; walk_at "dwcall")
  | refine ev_int ?_ | refine ev_str ?_ | refine ev_ix ?_ | refine ev_tup ?_ | refine ev_ex (ex_cmp ?_) | refine ev_ex (ex_bin ?_)
  | refine ev_none ?_ | refine ev_bool ?_ | refine ev_and ?_ | refine ev_or ?_ | refine ev_one ?_ | refine ev_not ?_
  | refine ev_chain ?_ | refine ev_ex (ex_un ?_) | refine ev_ex (ex_ifExp ?_) | refine ev_ex (ex_lst ?_))
local macro_rules | `(tactic| walk_at "dw1") => `(tactic| first
  | (show SDs _ _ _ _; first | refine sds_cons ?_ | refine sds_nil ?_)
  | (show SD _ _ _ _; first | refine sd_ret ?_ | refine sd_if ?_ | walk_at "dwset")
  | (show EV _ _ _ _; walk_at "dwev")
  | (show EVs _ _ _ _; first | refine evs_nil ?_ | refine evs_cons ?_)
  | (show EX _ _ _ _; first | refine ex_ifExp ?_ | refine ex_lst ?_ | refine ex_ev ?_)
  | (show ET _ _ _ _; first | refine et_cmp ?_ | refine et_not ?_ | refine et_bo ?_ | refine et_val ?_)
  | (show EW _ _ _ _; first | refine ew_and ?_ | refine ew_or ?_ | refine ew_and1 ?_ | refine ew_or1 ?_)
  | (show ∃ d, IxD _ _ _ d ∧ _; first | refine ⟨_, ix_i (by first | rfl | assumption) (by first | exact atI0 | exact atI1 | exact atI2 | rfl | assumption), ?_⟩ | refine ⟨_, ix_s (by assumption) (by first | assumption | rfl), ?_⟩)
  | (show ∃ Qr, CallD _ _ _ Qr ∧ _; walk_at "dwcd")
  | (show ∃ Qr, BinD _ _ _ _ Qr ∧ _; walk_at "dwbin")
  | (show ∃ Qr, CmpD _ _ _ _ Qr ∧ _; walk_at "dwbin")
  | (show ∃ t, CmpD _ _ _ _ (· = .sh (.bool t)) ∧ _; walk_at "dwbin")
  | (show ∀ r, r = _ → _; intro r hr; subst hr) | refine fun (_ : ∀ (p : Addr) (o : OD), _ = Sl.own p o → _) => ?_
  | refine ⟨_, rfl, ?_⟩ | refine ⟨rfl, ?_⟩ | refine ⟨trivial, ?_⟩
  | refine ⟨Nat.le_of_ble_eq_true rfl, ?_⟩ | refine fun (_ : Addr) (_ : _ ∉ owns _) => ?_ | refine ⟨by decide, ?_⟩
  | refine iteHT rfl ?_ | refine iteHF rfl ?_)
local macro_rules | `(tactic| walk_at "dw") => `(tactic| repeat (walk_at "dw1"))

variable {G : Pg} {f : Addr} {fd : FuncData}
def nodeN : Nat → Nat
  | 0 => 0
  | n + 1 => 1 + 3 * nodeN n
/-- trees without dicts, three branches at most -/
def Tr : Nat → PD → Prop
  | 0, d => flatB d = true
  | n + 1, d => flatB d = true ∨ ∃ xs, items d = some xs ∧ xs.length ≤ 3 ∧ ∀ x ∈ xs, Tr n x
/-- the same tree, lists and tuples mixed -/
def Lo : Nat → PD → PD → Prop
  | 0, d, e => e = d
  | n + 1, d, e => (flatB d = true ∧ e = d) ∨ ∃ xs ys, items d = some xs ∧ items e = some ys ∧ ys.length = xs.length ∧ ∀ (i : Nat) (x y : PD), xs[i]? = some x → ys[i]? = some y → Lo n x y
theorem Lo_flat {n : Nat} {d : PD} (h : flatB d = true) : Lo n d d := by
  cases n with
  | zero => exact rfl
  | succ n => exact .inl ⟨h, rfl⟩
def CLo (n : Nat) : List PD → List PD → Prop := fun xs ds => ∃ M, SOk M xs ∧ M + nodeN n ≤ 2 ^ 30 ∧ ∃ d, ds = [d] ∧ Tr n d
def PLo (n : Nat) : List PD → List PD → PD → List PD → Prop := fun xs ds d xs' => (∀ m, SOk m xs → SOk (m + nodeN n) xs') ∧ ∀ d0, ds = [d0] → Lo n d0 d
abbrev LHas (G : Pg) (n : Nat) : Prop := Has G "_law_loose" P__law_loose (n + 2) (StN 1 (CLo n) (PLo n))
theorem ok_loose (n : Nat) (B : Blt G.mg) (h0 : ∀ k, n = k + 1 → LHas G k) (h1 : Has G "_law_draw" P__law_draw 1 (StN 1 CDraw PDraw)) (F : Fun G.K "_law_loose" "_law_loose" s__law_loose f fd) : FnG G (n + 2) f fd P__law_loose (SpD G.K G.Tb (StN 1 (CLo n) (PLo n))) := by
  refine fn_st F sc__law_loose rfl fun W Z p xs ds hl hC => ?_
  obtain ⟨M, hs, hM, d, rfl, hd⟩ := hC
  show SDs _ _ [.own p (.lst xs), .sh d, .no, .no] _
  have hcase : flatB d = true ∨ ∃ k, n = k + 1 ∧ ∃ xs, items d = some xs ∧ xs.length ≤ 3 ∧ ∀ x ∈ xs, Tr k x := by
    cases n with
    | zero => exact .inl hd
    | succ k => rcases hd with h | h; exact .inl h; exact .inr ⟨k, rfl, h⟩
  rcases hcase with hf | ⟨k, rfl, l, hi, hx1, hx2⟩
  · walk_at "dw"
    refine iteHF (fl_L hf) ?_
    walk_at "dw"
    refine ⟨_, xs, rfl, rfl, fun m hm => hm.mono (Nat.le_add_right _ _), fun d0 e => ?_⟩
    cases e
    exact Lo_flat hf
  · have hrec := h0 k rfl
    have hN : nodeN (k + 1) = 1 + 3 * nodeN k := rfl
    walk_at "dw"
    refine iteHT (it_L hi) ?_
    refine sds_cons (sd_setLc (i := 2) [("each", 3)] (fun i acc e => ∃ st, e = [.own p (.lst st), .sh d, .no, .no] ∧ acc.length = i ∧ i ≤ l.length ∧ (∀ (j : Nat) (x y : PD), l[j]? = some x → acc[j]? = some y → Lo k x y) ∧ ∀ m, SOk m xs → SOk (m + i * nodeN k) st) (it_LT (i := 1) rfl hi ?_ rfl (by walk_at "dwvis")) (of_decide_eq_true (by kernel_rfl)) rfl (by kernel_rfl) (by kernel_rfl) (by kernel_rfl) rfl (by decide +kernel))
    refine ⟨by omega, ⟨xs, rfl, rfl, by omega, fun j x y _ h => by simp at h, fun m hm => by rw [Nat.zero_mul]; exact hm⟩, fun i acc e d' hacc hI hd' => ?_, fun acc e hacc hI q hq => ?_⟩
    · obtain ⟨st, rfl, hlen, hil, hLo, hS⟩ := hI
      have hi3 : i < l.length := (List.getElem?_eq_some_iff.mp hd').1
      refine tg_name (i := 3) ?_ (by decide) rfl (of_decide_eq_true (by kernel_rfl)) (loc_of (by kernel_rfl)) (loc_of (by kernel_rfl))
      refine ets_nil (iteT ?_)
      refine ev_callS (i := 0) hrec (Nat.le_refl _) ⟨_, _, rfl, ?_⟩ (by kernel_rfl) rfl (by walk_at "dwvis")
      walk_at "dw"
      refine ⟨⟨M + i * nodeN k, hS M hs, ?_, d', rfl, hx2 d' (List.mem_of_getElem? hd')⟩, fun y st' hp => ?_⟩
      · have : (i + 1) * nodeN k ≤ 3 * nodeN k := Nat.mul_le_mul_right _ (by omega)
        rw [Nat.add_mul, Nat.one_mul] at this
        omega
      · obtain ⟨hp1, hp2⟩ := hp
        refine ⟨st', rfl, by simp [hlen], by omega, fun j x y hx hy => ?_, fun m hm => ?_⟩
        · by_cases hj : j < acc.length
          · rw [List.getElem?_append_left hj] at hy
            exact hLo j x y hx hy
          · have hj2 : j = i := by
              have := (List.getElem?_eq_some_iff.mp hy).1
              rw [List.length_append, List.length_singleton] at this
              omega
            subst hj2
            rw [hd'] at hx
            cases hx
            rw [List.getElem?_append_right (by omega), hlen, Nat.sub_self] at hy
            cases hy
            exact hp2 _ rfl
        · have h := hp1 _ (hS m hm)
          rw [Nat.add_mul, Nat.one_mul, ← Nat.add_assoc]
          exact h
    · obtain ⟨st, rfl, hlen, hil, hLo, hS⟩ := hI
      show SDs _ _ [.own p (.lst st), .sh d, .own q (.lst acc), .no] _
      have hL : ∀ e, items e = some acc → Lo (k + 1) d e := fun e he => .inr ⟨l, acc, hi, he, hlen, hLo⟩
      have hM0 : SOk (2 ^ 30) st := (hS M hs).mono (by
        have : l.length * nodeN k ≤ 3 * nodeN k := Nat.mul_le_mul_right _ hx1
        omega)
      refine sds_cons (sd_ret (ex_ifExp (et_cmp ?_)))
      refine ev_callS (i := 0) h1 (show 1 ≤ k + 1 + 1 by omega) ⟨_, _, rfl, ?_⟩ (by kernel_rfl) rfl (by walk_at "dwvis")
      walk_at "dw"
      refine ⟨⟨hM0, _, rfl, by decide, by decide⟩, fun r st' hpd => ?_⟩
      obtain ⟨hp1, hp2⟩ := hpd
      obtain ⟨r, rfl, r1, r2⟩ := hp2 _ rfl
      have hfin : ∀ m, SOk m xs → SOk (m + nodeN (k + 1)) st' := fun m hm => (hp1 _ (hS m hm)).mono (by
        have : l.length * nodeN k ≤ 3 * nodeN k := Nat.mul_le_mul_right _ hx1
        omega)
      show EV _ _ [.own p (.lst st'), .sh d, .own q (.lst acc), .no] _
      walk_at "dw"
      refine iteD (fun g => ?_) fun g => ?_
      · refine ex_nameO (i := 2) rfl ?_ rfl (by walk_at "dwvis")
        exact ⟨_, st', rfl, rfl, hfin, fun d0 e => by cases e; exact hL _ rfl⟩
      · refine ex_callTy (T := "tuple") (x := "tuple") ?_ (by kernel_rfl) (Blt.tuple (by assumption)) PyProof.Rows.boot_tuple
        refine evs_cons (ev_nameF (i := 2) rfl ?_ rfl (by walk_at "dwvis"))
        walk_at "dw"
        refine ⟨_, cd_tuple rfl, ?_⟩
        walk_at "dw"
        exact ⟨_, st', rfl, rfl, hfin, fun d0 e => by cases e; exact hL _ rfl⟩
theorem has_loose (B : Blt G.mg) (h1 : Has G "_law_draw" P__law_draw 1 (StN 1 CDraw PDraw)) (F : Fun G.K "_law_loose" "_law_loose" s__law_loose f fd) (hm : G.mg "_law_loose" = some (.ref f)) (hb : Binds G.K fd P__law_loose []) : ∀ n : Nat, LHas G n := by
  intro n
  induction n with
  | zero => exact has_mk F hm hb (ok_loose 0 B (fun k h => by cases h) h1 F)
  | succ n ih => exact has_mk F hm hb (ok_loose (n + 1) B (fun k h => by cases h; exact ih) h1 F)
end K8

namespace K8
open PySem PySem.Spec PyProof.Rows L2 Dw
local macro_rules | `(tactic| walk_at "dwvis") => `(tactic| exact vis_of (by kernel_rfl))
local macro_rules | `(tactic| walk_at "dwbin") => `(tactic| first
  | refine ⟨_, od_eqS, ?_⟩ | refine ⟨_, od_neS, ?_⟩ | refine ⟨_, od_add, ?_⟩ | refine ⟨_, od_sub, ?_⟩ | refine ⟨_, od_lt, ?_⟩ | refine ⟨_, od_le, ?_⟩ | refine ⟨_, od_gt, ?_⟩ | refine ⟨_, od_ge, ?_⟩ | refine ⟨_, od_eqI, ?_⟩ | refine ⟨_, od_eqB, ?_⟩ | refine ⟨_, od_neB, ?_⟩
  | refine ⟨_, od_isN, ?_⟩ | refine ⟨_, od_addS (by assumption), ?_⟩ | refine ⟨_, od_inT, ?_⟩ | refine ⟨_, od_notN, ?_⟩ | refine ⟨_, od_inSign, ?_⟩ | refine ⟨_, od_notInSign, ?_⟩)
local macro_rules | `(tactic| walk_at "dwcd") => `(tactic| first
  | refine ⟨_, cd_len (by assumption), ?_⟩ | refine ⟨_, cd_lenS (by assumption), ?_⟩ | refine ⟨_, cd_abs, ?_⟩ | refine ⟨_, cd_intI, ?_⟩ | refine ⟨_, cd_intB, ?_⟩ | refine ⟨_, cd_all, ?_⟩ | refine ⟨_, cd_any, ?_⟩ | refine ⟨_, cd_sum, ?_⟩)
local macro_rules | `(tactic| walk_at "dwname") => `(tactic| first
  | refine ev_name (i := 0) rfl ?_ rfl (by walk_at "dwvis") | refine ev_name (i := 1) rfl ?_ rfl (by walk_at "dwvis")
  | refine ev_name (i := 2) rfl ?_ rfl (by walk_at "dwvis") | refine ev_name (i := 3) rfl ?_ rfl (by walk_at "dwvis")
  | refine ev_name (i := 4) rfl ?_ rfl (by walk_at "dwvis") | refine ev_name (i := 5) rfl ?_ rfl (by walk_at "dwvis") | refine ev_name (i := 6) rfl ?_ rfl (by walk_at "dwvis") | refine ev_name (i := 7) rfl ?_ rfl (by walk_at "dwvis") | refine ev_name (i := 8) rfl ?_ rfl (by walk_at "dwvis") | refine ev_name (i := 9) rfl ?_ rfl (by walk_at "dwvis") | refine ev_name (i := 10) rfl ?_ rfl (by walk_at "dwvis") | refine ev_name (i := 11) rfl ?_ rfl (by walk_at "dwvis")
  | refine ev_globD (by assumption) ?_ (by kernel_rfl))
local macro_rules | `(tactic| walk_at "dwcall") => `(tactic| first
  | refine ev_callH (by assumption) (Nat.le_of_ble_eq_true rfl) ?_ (by kernel_rfl)
  | refine ev_ex (ex_callB (id := "len") (x := "len") ?_ (by kernel_rfl) (Blt.len (by assumption)) PySem.boot_len)
  | refine ev_isi2 (n1 := "list") (n2 := "tuple") (T1 := "list") (T2 := "tuple") ?_ (by decide) (by kernel_rfl) (Blt.isinstance (by assumption)) (by kernel_rfl) (Blt.list (by assumption)) PyProof.Rows.boot_list (by kernel_rfl) (Blt.tuple (by assumption)) PyProof.Rows.boot_tuple
  | refine ev_isi (n := "int") (T := "int") ?_ (by decide) (by kernel_rfl) (Blt.isinstance (by assumption)) (by kernel_rfl) (Blt.int (by assumption)) PyProof.Rows.boot_int
  | refine ev_isi (n := "bool") (T := "bool") ?_ (by decide) (by kernel_rfl) (Blt.isinstance (by assumption)) (by kernel_rfl) (Blt.bool (by assumption)) PyProof.Rows.boot_bool
  | refine ev_isi (n := "str") (T := "str") ?_ (by decide) (by kernel_rfl) (Blt.isinstance (by assumption)) (by kernel_rfl) (Blt.str (by assumption)) PyProof.Rows.boot_str
  | refine ev_isi (n := "dict") (T := "dict") ?_ (by decide) (by kernel_rfl) (Blt.isinstance (by assumption)) (by kernel_rfl) (Blt.dict (by assumption)) PyProof.Rows.boot_dict
  | refine ev_ex (ex_callB (id := "all") (x := "all") ?_ (by kernel_rfl) (Blt.all (by assumption)) PyProof.Rows.boot_all)
  | refine ev_ex (ex_callB (id := "any") (x := "any") ?_ (by kernel_rfl) (Blt.any (by assumption)) PyProof.Rows.boot_any)
  | refine ev_ex (ex_callB (id := "abs") (x := "abs") ?_ (by kernel_rfl) (Blt.abs (by assumption)) PyProof.Rows.boot_abs)
  | refine ev_ex (ex_callTy (T := "int") (x := "int") ?_ (by kernel_rfl) (Blt.int (by assumption)) PyProof.Rows.boot_int))
local macro_rules | `(tactic| walk_at "dwset") => `(tactic| first
  | refine sd_set (i := 0) ?_ rfl (of_decide_eq_true (by kernel_rfl)) (loc_of (by kernel_rfl)) (loc_of (by kernel_rfl)) | refine sd_set (i := 1) ?_ rfl (of_decide_eq_true (by kernel_rfl)) (loc_of (by kernel_rfl)) (loc_of (by kernel_rfl)) | refine sd_set (i := 2) ?_ rfl (of_decide_eq_true (by kernel_rfl)) (loc_of (by kernel_rfl)) (loc_of (by kernel_rfl)) | refine sd_set (i := 3) ?_ rfl (of_decide_eq_true (by kernel_rfl)) (loc_of (by kernel_rfl)) (loc_of (by kernel_rfl)) | refine sd_set (i := 4) ?_ rfl (of_decide_eq_true (by kernel_rfl)) (loc_of (by kernel_rfl)) (loc_of (by kernel_rfl)) | refine sd_set (i := 5) ?_ rfl (of_decide_eq_true (by kernel_rfl)) (loc_of (by kernel_rfl)) (loc_of (by kernel_rfl)) | refine sd_set (i := 6) ?_ rfl (of_decide_eq_true (by kernel_rfl)) (loc_of (by kernel_rfl)) (loc_of (by kernel_rfl)) | refine sd_set (i := 7) ?_ rfl (of_decide_eq_true (by kernel_rfl)) (loc_of (by kernel_rfl)) (loc_of (by kernel_rfl)) | refine sd_set (i := 8) ?_ rfl (of_decide_eq_true (by kernel_rfl)) (loc_of (by kernel_rfl)) (loc_of (by kernel_rfl)) | refine sd_set (i := 9) ?_ rfl (of_decide_eq_true (by kernel_rfl)) (loc_of (by kernel_rfl)) (loc_of (by kernel_rfl)) | refine sd_set (i := 10) ?_ rfl (of_decide_eq_true (by kernel_rfl)) (loc_of (by kernel_rfl)) (loc_of (by kernel_rfl)) | refine sd_set (i := 11) ?_ rfl (of_decide_eq_true (by kernel_rfl)) (loc_of (by kernel_rfl)) (loc_of (by kernel_rfl)))
local macro_rules | `(tactic| walk_at "dwev") => `(tactic| first
  | (show EV _ (.Name _ _) _ _; walk_at "dwname")
  | (show EV _ (.Call _ _ _ _) _ _; walk_at "dwcall")
  | refine ev_int ?_ | refine ev_str ?_ | refine ev_ix ?_ | refine ev_tup ?_ | refine ev_ex (ex_cmp ?_) | refine ev_ex (ex_bin ?_)
  | refine ev_none ?_ | refine ev_bool ?_ | refine ev_and ?_ | refine ev_or ?_ | refine ev_one ?_ | refine ev_not ?_
  | refine ev_chain ?_ | refine ev_ex (ex_un ?_) | refine ev_ex (ex_ifExp ?_) | refine ev_ex (ex_lst ?_))
local macro_rules | `(tactic| walk_at "dw1") => `(tactic| first
  | (show SDs _ _ _ _; first | refine sds_cons ?_ | refine sds_nil ?_)
  | (show SD _ _ _ _; first | refine sd_ret ?_ | refine sd_if ?_ | walk_at "dwset")
  | (show EV _ _ _ _; walk_at "dwev")
  | (show EVs _ _ _ _; first | refine evs_nil ?_ | refine evs_cons ?_)
  | (show EX _ _ _ _; first | refine ex_ifExp ?_ | refine ex_lst ?_ | refine ex_ev ?_)
  | (show ET _ _ _ _; first | refine et_cmp ?_ | refine et_not ?_ | refine et_bo ?_ | refine et_val ?_)
  | (show EW _ _ _ _; first | refine ew_and ?_ | refine ew_or ?_ | refine ew_and1 ?_ | refine ew_or1 ?_)
  | (show ∃ d, IxD _ _ _ d ∧ _; first | refine ⟨_, ix_i (by first | rfl | assumption) (by first | exact atI0 | exact atI1 | exact atI2 | rfl | assumption), ?_⟩ | refine ⟨_, ix_s (by assumption) (by first | assumption | rfl), ?_⟩)
  | (show ∃ Qr, CallD _ _ _ Qr ∧ _; walk_at "dwcd")
  | (show ∃ Qr, BinD _ _ _ _ Qr ∧ _; walk_at "dwbin")
  | (show ∃ Qr, CmpD _ _ _ _ Qr ∧ _; walk_at "dwbin")
  | (show ∃ t, CmpD _ _ _ _ (· = .sh (.bool t)) ∧ _; walk_at "dwbin")
  | (show ∀ r, r = _ → _; intro r hr; subst hr) | refine fun (_ : ∀ (p : Addr) (o : OD), _ = Sl.own p o → _) => ?_
  | refine ⟨_, rfl, ?_⟩ | refine ⟨rfl, ?_⟩ | refine ⟨trivial, ?_⟩
  | refine ⟨Nat.le_of_ble_eq_true rfl, ?_⟩ | refine fun (_ : Addr) (_ : _ ∉ owns _) => ?_ | refine ⟨by decide, ?_⟩
  | refine iteHT rfl ?_ | refine iteHF rfl ?_)
local macro_rules | `(tactic| walk_at "dw") => `(tactic| repeat (walk_at "dw1"))

variable {G : Pg} {f : Addr} {fd : FuncData} {nm : Str → Bool} {GR : Int}
def dN : Nat → Nat
  | 0 => 5
  | n + 1 => 5 + 2 * dN n
def CLs (n : Nat) : List PD → List PD → Prop := fun xs ds => (∃ M, SOk M xs ∧ M + dN n ≤ 2 ^ 30) ∧ ∃ most : Int, ds = [.int n, .int most] ∧ 1 ≤ most ∧ most ≤ 10 ^ 9
def PLs (nm : Str → Bool) (GR : Int) (n : Nat) : List PD → List PD → PD → List PD → Prop := fun xs ds d xs' => (∀ m, SOk m xs → SOk (m + dN n) xs') ∧ ∃ t, d = tupOf t ∧ Okt nm GR TW8 t ∧ dpT t ≤ n
abbrev MHas (G : Pg) (nm : Str → Bool) (GR : Int) (n : Nat) : Prop := Has G "_law_sum" P__law_sum (n + 3) (StN 2 (CLs n) (PLs nm GR n))
theorem sgn_ok {w : Str} (h : w ∈ (["+", "-", "<", "<=", "=", "*", "/", "~"] : List Str)) : inStrs w TW8 = true ∧ w ≠ "number" ∧ w ≠ "name" ∧ w ≠ "less" := by
  simp only [List.mem_cons, List.not_mem_nil, or_false] at h
  rcases h with rfl | rfl | rfl | rfl | rfl | rfl | rfl | rfl <;> decide +kernel
theorem ok_sum_draw (n : Nat) (B : Blt G.mg) (hGR : GR = 999999999) (hnm : ∀ z ∈ (["x", "y2", "eightsgn", "z", "nobody"] : List Str), nm z = true) (h0 : ∀ k, n = k + 1 → MHas G nm GR k)
    (h1 : Has G "_law_draw" P__law_draw 1 (StN 1 CDraw PDraw)) (h2 : Has G "_law_pick" P__law_pick 2 (StN 1 CPick PPick)) (F : Fun G.K "_law_sum" "_law_sum" s__law_sum f fd) : FnG G (n + 3) f fd P__law_sum (SpD G.K G.Tb (StN 2 (CLs n) (PLs nm GR n))) := by
  refine fn_st F sc__law_sum rfl fun W Z p xs ds hl hC => ?_
  obtain ⟨⟨M, hs, hM⟩, most, rfl, hm1, hm2⟩ := hC
  show SDs _ _ [.own p (.lst xs), .sh (.int n), .sh (.int most), .no, .no, .no, .no] _
  have up : ∀ {st : List PD} {a b : Nat}, (∀ m, SOk m xs → SOk (m + a) st) → a ≤ b → b ≤ dN n → SOk (2 ^ 30 - 1) st ∨ dN n ≤ a := fun {st a b} h h1 h2 => by
    by_cases hh : dN n ≤ a
    · exact .inr hh
    · exact .inl ((h M hs).mono (by omega))
  have dr : ∀ {st : List PD} {a : Nat}, (∀ m, SOk m xs → SOk (m + a) st) → a ≤ dN n → SOk (2 ^ 30) st := fun {st a} h h1 => (h M hs).mono (by omega)
  refine sds_cons (sd_if (ET.imp (QB := fun t e => ∃ st, e = [.own p (.lst st), .sh (.int n), .sh (.int most), .no, .no, .no, .no] ∧ (∀ m, SOk m xs → SOk (m + 1) st) ∧ (t = false → ∃ k, n = k + 1)) (et_bo (ew_or (et_cmp ?_))) ?_))
  · walk_at "dw"
    refine iteD (fun g => ?_) fun g => ?_
    · exact ⟨xs, rfl, fun m hm => hm.mono (by omega), fun h => by cases h⟩
    · refine ew_or1 (et_cmp ?_)
      refine ev_callS (i := 0) h1 (show 1 ≤ n + 2 by omega) ⟨_, _, rfl, ?_⟩ (by kernel_rfl) rfl (by walk_at "dwvis")
      walk_at "dw"
      refine ⟨⟨hs.mono (by omega), _, rfl, by decide, by decide⟩, fun r st' hpd => ?_⟩
      obtain ⟨hp1, hp2⟩ := hpd
      obtain ⟨r, rfl, r1, r2⟩ := hp2 _ rfl
      show EV _ _ [.own p (.lst st'), .sh (.int n), .sh (.int most), .no, .no, .no, .no] _
      walk_at "dw"
      refine ⟨hp1, fun _ => ?_⟩
      have g := of_decide_eq_false g
      cases n with
      | zero => exact absurd rfl g
      | succ k => exact ⟨k, rfl⟩
  rintro t e ⟨st, rfl, hS, ht⟩
  have hd5 : 5 ≤ dN n := by cases n <;> (unfold dN; omega)
  refine iteD (fun g => ?_) fun g => ?_
  · -- a leaf
    refine sds_cons (sd_set (i := 3) (ex_ev ?_) rfl (of_decide_eq_true (by kernel_rfl)) (loc_of (by kernel_rfl)) (loc_of (by kernel_rfl)))
    refine ev_callS (i := 0) h2 (show 2 ≤ n + 2 by omega) ⟨_, _, rfl, ?_⟩ (by kernel_rfl) rfl (by walk_at "dwvis")
    walk_at "dw"
    refine ⟨⟨dr hS (by omega), _, _, rfl, rfl, by decide, by decide⟩, fun dz st1 hpd => ?_⟩
    obtain ⟨hp1, hp2⟩ := hpd
    have hz := hp2 _ _ rfl rfl
    have hS1 : ∀ m, SOk m xs → SOk (m + 2) st1 := fun m hm => hp1 _ (hS m hm)
    obtain ⟨z, rfl, hzn⟩ : ∃ z, dz = .str z ∧ nm z = true := by
      simp only [List.mem_cons, List.not_mem_nil, or_false] at hz
      rcases hz with rfl | rfl | rfl | rfl | rfl <;> exact ⟨_, rfl, hnm _ (by simp)⟩
    show SDs _ _ [.own p (.lst st1), .sh (.int n), .sh (.int most), .sh (.str z), .no, .no, .no] _
    refine sds_cons (sd_set (i := 4) (ex_ev ?_) rfl (of_decide_eq_true (by kernel_rfl)) (loc_of (by kernel_rfl)) (loc_of (by kernel_rfl)))
    refine ev_callS (i := 0) h2 (show 2 ≤ n + 2 by omega) ⟨_, _, rfl, ?_⟩ (by kernel_rfl) rfl (by walk_at "dwvis")
    walk_at "dw"
    refine ev_callS (i := 0) h1 (show 1 ≤ n + 2 by omega) ⟨_, _, rfl, ?_⟩ (by kernel_rfl) rfl (by walk_at "dwvis")
    walk_at "dw"
    refine ⟨⟨dr hS1 (by omega), _, rfl, by omega, by omega⟩, fun r st2 hpd => ?_⟩
    obtain ⟨hq1, hq2⟩ := hpd
    obtain ⟨r, rfl, r1, r2⟩ := hq2 _ rfl
    have hS2 : ∀ m, SOk m xs → SOk (m + 3) st2 := fun m hm => hq1 _ (hS1 m hm)
    walk_at "dw"
    refine ⟨⟨dr hS2 (by omega), _, _, rfl, rfl, Nat.le_of_ble_eq_true rfl, Nat.le_of_ble_eq_true rfl⟩, fun dn st3 hpd => ?_⟩
    obtain ⟨hq3, hq4⟩ := hpd
    have hz := hq4 _ _ rfl rfl
    have hS3 : ∀ m, SOk m xs → SOk (m + 4) st3 := fun m hm => hq3 _ (hS2 m hm)
    obtain ⟨i, rfl, hi0, hi1⟩ : ∃ i : Int, dn = .int i ∧ 0 ≤ i ∧ i ≤ GR := by
      simp only [List.mem_cons, List.not_mem_nil, or_false] at hz
      rcases hz with rfl | rfl | rfl | rfl | rfl <;> exact ⟨_, rfl, by omega, by omega⟩
    show SDs _ _ [.own p (.lst st3), .sh (.int n), .sh (.int most), .sh (.str z), .sh (.int i), .no, .no] _
    refine sds_cons (sd_ret (ex_ifExp (et_cmp ?_)))
    refine ev_callS (i := 0) h1 (show 1 ≤ n + 2 by omega) ⟨_, _, rfl, ?_⟩ (by kernel_rfl) rfl (by walk_at "dwvis")
    walk_at "dw"
    refine ⟨⟨dr hS3 (by omega), _, rfl, by decide, by decide⟩, fun r st4 hpd => ?_⟩
    obtain ⟨hq5, hq6⟩ := hpd
    obtain ⟨r, rfl, r1, r2⟩ := hq6 _ rfl
    have hS4 : ∀ m, SOk m xs → SOk (m + dN n) st4 := fun m hm => (hq5 _ (hS3 m hm)).mono (by omega)
    show EV _ _ [.own p (.lst st4), .sh (.int n), .sh (.int most), .sh (.str z), .sh (.int i), .no, .no] _
    walk_at "dw"
    refine iteD (fun g => ?_) fun g => ?_
    · walk_at "dw"
      exact ⟨_, st4, rfl, rfl, hS4, .nam z, rfl, hzn, Nat.zero_le _⟩
    · walk_at "dw"
      exact ⟨_, st4, rfl, rfl, hS4, .num i, rfl, ⟨hi0, hi1⟩, Nat.zero_le _⟩
  · obtain ⟨k, rfl⟩ := ht g
    have hrec := h0 k rfl
    have hdk : dN (k + 1) = 5 + 2 * dN k := rfl
    refine sds_nil ?_
    refine sds_cons (sd_if (et_cmp ?_))
    refine ev_callS (i := 0) h1 (show 1 ≤ k + 1 + 2 by omega) ⟨_, _, rfl, ?_⟩ (by kernel_rfl) rfl (by walk_at "dwvis")
    walk_at "dw"
    refine ⟨⟨dr hS (by omega), _, rfl, by decide, by decide⟩, fun r st1 hpd => ?_⟩
    obtain ⟨hp1, hp2⟩ := hpd
    obtain ⟨r, rfl, r1, r2⟩ := hp2 _ rfl
    have hS1 : ∀ m, SOk m xs → SOk (m + 2) st1 := fun m hm => hp1 _ (hS m hm)
    show EV _ _ [.own p (.lst st1), .sh (.int (k + 1 : Nat)), .sh (.int most), .no, .no, .no, .no] _
    have hk1 : (((k + 1 : Nat) : Int) - 1) = (k : Nat) := by omega
    walk_at "dw"
    refine iteD (fun g => ?_) fun g => ?_
    · walk_at "dw"
      refine ev_callS (i := 0) hrec (show k + 3 ≤ k + 1 + 2 by omega) ⟨_, _, rfl, ?_⟩ (by kernel_rfl) rfl (by walk_at "dwvis")
      walk_at "dw"
      rw [hk1]
      refine ⟨⟨⟨M + 2, hS1 M hs, by omega⟩, most, rfl, hm1, hm2⟩, fun dt st2 hpd => ?_⟩
      obtain ⟨hq1, t, rfl, ht1, ht2⟩ := hpd
      walk_at "dw"
      exact ⟨_, st2, rfl, rfl, fun m hm => (hq1 _ (hS1 m hm)).mono (by omega), .less t, rfl, ht1, Nat.succ_le_succ ht2⟩
    · walk_at "dw"
      obtain ⟨kk, hk, hk01⟩ : ∃ kk : Int, (if decide (most < 1001) = true then (1 : Int) else 0) = kk ∧ (kk = 0 ∨ kk = 1) := by
        by_cases h : decide (most < 1001) = true
        · exact ⟨1, by rw [if_pos h], .inr rfl⟩
        · exact ⟨0, by rw [if_neg h], .inl rfl⟩
      rw [hk]
      refine ⟨_, od_rep (xs := [.str "*", .str "/", .str "~", .str "/", .str "~"]) (by omega) (by omega) (by decide), fun rr hr => ?_⟩
      obtain ⟨p5, rfl⟩ := hr
      refine ⟨_, rfl, ?_⟩
      have hB : ∀ w ∈ (List.replicate kk.toNat [PyData.str "*", .str "/", .str "~", .str "/", .str "~"]).flatten, w ∈ [PyData.str "*", .str "/", .str "~"] := by
        intro w hw
        rcases hk01 with rfl | rfl
        · simp at hw
        · simp at hw ⊢
          rcases hw with h | h | h | h | h <;> simp [h]
      have hBl : (List.replicate kk.toNat [PyData.str "*", .str "/", .str "~", .str "/", .str "~"]).flatten.length ≤ 5 := by
        rcases hk01 with rfl | rfl <;> simp
      generalize (List.replicate kk.toNat [PyData.str "*", .str "/", .str "~", .str "/", .str "~"]).flatten = Bs at hB hBl
      refine ⟨_, od_cat (xs := [.str "+", .str "-", .str "<", .str "<=", .str "="]) (ys := Bs) (by simp only [List.length_cons, List.length_nil]; omega), fun rr hr => ?_⟩
      obtain ⟨p6, rfl⟩ := hr
      have hA : ∀ w ∈ [PyData.str "+", .str "-", .str "<", .str "<=", .str "="] ++ Bs, ∃ s : Str, w = .str s ∧ s ∈ (["+", "-", "<", "<=", "=", "*", "/", "~"] : List Str) := by
        intro w hw
        rcases List.mem_append.mp hw with h | h
        · simp only [List.mem_cons, List.not_mem_nil, or_false] at h
          rcases h with rfl | rfl | rfl | rfl | rfl <;> exact ⟨_, rfl, by simp⟩
        · have h := hB w h
          simp only [List.mem_cons, List.not_mem_nil, or_false] at h
          rcases h with rfl | rfl | rfl <;> exact ⟨_, rfl, by simp⟩
      have hAl : ([PyData.str "+", .str "-", .str "<", .str "<=", .str "="] ++ Bs).length ≤ 1000 := by rw [List.length_append]; simp only [List.length_cons, List.length_nil]; omega
      have hA1 : 1 ≤ ([PyData.str "+", .str "-", .str "<", .str "<=", .str "="] ++ Bs).length := by rw [List.length_append]; simp only [List.length_cons, List.length_nil]; omega
      generalize ([PyData.str "+", .str "-", .str "<", .str "<=", .str "="] ++ Bs) = As at hA hAl hA1
      refine ⟨_, rfl, ?_⟩
      show SDs _ _ [.own p (.lst st1), .sh (.int (k + 1 : Nat)), .sh (.int most), .no, .no, .sh (.list As), .no] _
      refine sds_cons (sd_set (i := 6) (ex_ev ?_) rfl (of_decide_eq_true (by kernel_rfl)) (loc_of (by kernel_rfl)) (loc_of (by kernel_rfl)))
      refine ev_callS (i := 0) hrec (show k + 3 ≤ k + 1 + 2 by omega) ⟨_, _, rfl, ?_⟩ (by kernel_rfl) rfl (by walk_at "dwvis")
      walk_at "dw"
      rw [hk1]
      refine ⟨⟨⟨M + 2, hS1 M hs, by omega⟩, most, rfl, hm1, hm2⟩, fun dt st2 hpd => ?_⟩
      obtain ⟨hq1, t1, rfl, ha1, ha2⟩ := hpd
      have hS2 : ∀ m, SOk m xs → SOk (m + (2 + dN k)) st2 := fun m hm => (hq1 _ (hS1 m hm)).mono (by omega)
      show SDs _ _ [.own p (.lst st2), .sh (.int (k + 1 : Nat)), .sh (.int most), .no, .no, .sh (.list As), .sh (tupOf t1)] _
      refine sds_cons (sd_ret (ex_ev (ev_tup (evs_cons ?_))))
      refine ev_callS (i := 0) h2 (show 2 ≤ k + 1 + 2 by omega) ⟨_, _, rfl, ?_⟩ (by kernel_rfl) rfl (by walk_at "dwvis")
      walk_at "dw"
      refine ⟨⟨dr hS2 (by omega), _, _, rfl, rfl, hA1, hAl⟩, fun dw st3 hpd => ?_⟩
      obtain ⟨hq3, hq4⟩ := hpd
      obtain ⟨w, rfl, hw⟩ := hA _ (hq4 _ _ rfl rfl)
      have hS3 : ∀ m, SOk m xs → SOk (m + (3 + dN k)) st3 := fun m hm => (hq3 _ (hS2 m hm)).mono (by omega)
      show EVs _ _ [.own p (.lst st3), .sh (.int (k + 1 : Nat)), .sh (.int most), .no, .no, .sh (.list As), .sh (tupOf t1)] _
      walk_at "dw"
      refine ev_callS (i := 0) hrec (show k + 3 ≤ k + 1 + 2 by omega) ⟨_, _, rfl, ?_⟩ (by kernel_rfl) rfl (by walk_at "dwvis")
      walk_at "dw"
      rw [hk1]
      refine ⟨⟨⟨M + (3 + dN k), hS3 M hs, by omega⟩, most, rfl, hm1, hm2⟩, fun dt st4 hpd => ?_⟩
      obtain ⟨hq5, t2, rfl, hb1, hb2⟩ := hpd
      walk_at "dw"
      exact ⟨_, st4, rfl, rfl, fun m hm => (hq5 _ (hS3 m hm)).mono (by omega), .two w t1 t2, rfl, ⟨sgn_ok hw, ha1, hb1⟩, by show max (dpT t1) (dpT t2) + 1 ≤ k + 1; omega⟩
theorem has_sum (B : Blt G.mg) (hGR : GR = 999999999) (hnm : ∀ z ∈ (["x", "y2", "eightsgn", "z", "nobody"] : List Str), nm z = true) (h1 : Has G "_law_draw" P__law_draw 1 (StN 1 CDraw PDraw)) (h2 : Has G "_law_pick" P__law_pick 2 (StN 1 CPick PPick))
    (F : Fun G.K "_law_sum" "_law_sum" s__law_sum f fd) (hm : G.mg "_law_sum" = some (.ref f)) (hb : Binds G.K fd P__law_sum []) : ∀ n : Nat, MHas G nm GR n := by
  intro n
  induction n with
  | zero => exact has_mk F hm hb (ok_sum_draw 0 B hGR hnm (fun k h => by cases h) h1 h2 F)
  | succ n ih => exact has_mk F hm hb (ok_sum_draw (n + 1) B hGR hnm (fun k h => by cases h; exact ih) h1 h2 F)
end K8

namespace K8
open PySem PySem.Spec PyProof.Rows L2 Dw
section
variable {Γ : Gm} {env : List Sl} {D : EndsD} {tg iter : Expr} {body : List Stmt} {pos : Pos}
/-- a loop whose word is found when it begins -/
theorem sd_forE (js : List Nat) (h : IT Γ tg iter env fun ds e1 => ∃ I : Nat → List Sl → Prop, I 0 e1 ∧ ∀ i e, I i e → (i = ds.length → D.nx e) ∧ ∀ d, ds[i]? = some d → TG1 Γ tg js e d fun e2 => SDs Γ body e2 { D with nx := I (i + 1), ct := I (i + 1), bk := D.nx })
    (hf : ∀ (env : Env) x, foldedSetIterable iter env x = pure x := by intro _ _; rfl) : SD Γ (.For tg iter body [] pos) env D := .mk fun F R H σ E o w k =>
  ⟨tFor (WI Γ tg iter) (WG Γ tg) (WSs Γ body), fun X g => ps_for g.passes g.calm (WI.pi g) (WG.pg g) (WSs.pss g) (hs := hf _), h.run F R H σ _ o w fun ds e1 J F1 H1 q s1 o1 wk => by
    obtain ⟨I, q0, qs⟩ := q
    refine ⟨fun i m σ2 H2 => m = ds.length - i ∧ i ≤ ds.length ∧ ∃ F2 e2, Same F1 F2 ∧ EnvOk Γ.K Γ.Tb F2 R H2 σ2 e2 ∧ I i e2, ⟨ds.length, by omega, Nat.zero_le _, F1, e1, Same.refl F1, o1, q0⟩, ?_⟩
    rintro i m σ2 H2 ⟨rfl, hi, F2, e2, s2, o2, qi⟩
    obtain ⟨wstop, wgo⟩ := wk F2 R H2 σ2 e2 o2 s2 i
    obtain ⟨qe, qt⟩ := qs i e2 qi
    by_cases hlt : i < ds.length
    · refine .inr ?_
      obtain ⟨g1, g2⟩ := wgo ds[i] (List.getElem?_eq_getElem hlt)
      refine ⟨g1, fun σ' H' => ∃ F3 e3, Same F2 F3 ∧ EnvOk Γ.K Γ.Tb F3 R H' σ' e3 ∧ I (i + 1) e3, fun σ' H' ⟨F3, e3, s3, o3, q3⟩ => ⟨ds.length - (i + 1), by omega, rfl, hlt, F3, e3, s2.trans s3, o3, q3⟩, fun x H3 y => ?_⟩
      obtain ⟨F3, s3, o3, r3⟩ := g2 x H3 y
      refine (qt ds[i] (List.getElem?_eq_getElem hlt)).run F3 R H3 σ2 x _ o3 r3 fun σ4 e4 q4 _ o4 => ?_
      have sB : Same F F3 := (s1.trans s2).trans s3
      exact q4.run F3 R H3 σ4 _ o4 (w.mono sB) ⟨fun env' σ' F' H' z s o => ⟨F', env', s3.trans s, o, z⟩, fun env' σ' F' H' z s o => k.1 env' σ' F' H' z (sB.trans s) o, fun env' σ' F' H' z s o => ⟨F', env', s3.trans s, o, z⟩, fun r env' σ' v F' H' z s o ro => k.2.2.2 r env' σ' v F' H' z (sB.trans s) o ro⟩
    · have he : i = ds.length := by omega
      exact .inl ⟨wstop (by omega), k.1 e2 σ2 F2 H2 (qe he) (s1.trans s2) o2⟩⟩
end
local macro_rules | `(tactic| walk_at "dwvis") => `(tactic| exact vis_of (by kernel_rfl))
local macro_rules | `(tactic| walk_at "dwbin") => `(tactic| first
  | refine ⟨_, od_eqS, ?_⟩ | refine ⟨_, od_neS, ?_⟩ | refine ⟨_, od_add, ?_⟩ | refine ⟨_, od_sub, ?_⟩ | refine ⟨_, od_lt, ?_⟩ | refine ⟨_, od_le, ?_⟩ | refine ⟨_, od_gt, ?_⟩ | refine ⟨_, od_ge, ?_⟩ | refine ⟨_, od_eqI, ?_⟩ | refine ⟨_, od_eqB, ?_⟩ | refine ⟨_, od_neB, ?_⟩
  | refine ⟨_, od_isN, ?_⟩ | refine ⟨_, od_addS (by assumption), ?_⟩ | refine ⟨_, od_inT, ?_⟩ | refine ⟨_, od_notN, ?_⟩ | refine ⟨_, od_inSign, ?_⟩ | refine ⟨_, od_notInSign, ?_⟩)
local macro_rules | `(tactic| walk_at "dwcd") => `(tactic| first
  | refine ⟨_, cd_len (by assumption), ?_⟩ | refine ⟨_, cd_lenS (by assumption), ?_⟩ | refine ⟨_, cd_abs, ?_⟩ | refine ⟨_, cd_intI, ?_⟩ | refine ⟨_, cd_intB, ?_⟩ | refine ⟨_, cd_all, ?_⟩ | refine ⟨_, cd_any, ?_⟩ | refine ⟨_, cd_sum, ?_⟩)
local macro_rules | `(tactic| walk_at "dwname") => `(tactic| first
  | refine ev_name (i := 0) rfl ?_ rfl (by walk_at "dwvis") | refine ev_name (i := 1) rfl ?_ rfl (by walk_at "dwvis")
  | refine ev_name (i := 2) rfl ?_ rfl (by walk_at "dwvis") | refine ev_name (i := 3) rfl ?_ rfl (by walk_at "dwvis")
  | refine ev_name (i := 4) rfl ?_ rfl (by walk_at "dwvis") | refine ev_name (i := 5) rfl ?_ rfl (by walk_at "dwvis") | refine ev_name (i := 6) rfl ?_ rfl (by walk_at "dwvis") | refine ev_name (i := 7) rfl ?_ rfl (by walk_at "dwvis") | refine ev_name (i := 8) rfl ?_ rfl (by walk_at "dwvis") | refine ev_name (i := 9) rfl ?_ rfl (by walk_at "dwvis") | refine ev_name (i := 10) rfl ?_ rfl (by walk_at "dwvis") | refine ev_name (i := 11) rfl ?_ rfl (by walk_at "dwvis")
  | refine ev_globD (by assumption) ?_ (by kernel_rfl))
local macro_rules | `(tactic| walk_at "dwcall") => `(tactic| first
  | refine ev_callH (by assumption) (Nat.le_of_ble_eq_true rfl) ?_ (by kernel_rfl)
  | refine ev_ex (ex_callB (id := "len") (x := "len") ?_ (by kernel_rfl) (Blt.len (by assumption)) PySem.boot_len)
  | refine ev_isi2 (n1 := "list") (n2 := "tuple") (T1 := "list") (T2 := "tuple") ?_ (by decide) (by kernel_rfl) (Blt.isinstance (by assumption)) (by kernel_rfl) (Blt.list (by assumption)) PyProof.Rows.boot_list (by kernel_rfl) (Blt.tuple (by assumption)) PyProof.Rows.boot_tuple
  | refine ev_isi (n := "int") (T := "int") ?_ (by decide) (by kernel_rfl) (Blt.isinstance (by assumption)) (by kernel_rfl) (Blt.int (by assumption)) PyProof.Rows.boot_int
  | refine ev_isi (n := "bool") (T := "bool") ?_ (by decide) (by kernel_rfl) (Blt.isinstance (by assumption)) (by kernel_rfl) (Blt.bool (by assumption)) PyProof.Rows.boot_bool
  | refine ev_isi (n := "str") (T := "str") ?_ (by decide) (by kernel_rfl) (Blt.isinstance (by assumption)) (by kernel_rfl) (Blt.str (by assumption)) PyProof.Rows.boot_str
  | refine ev_isi (n := "dict") (T := "dict") ?_ (by decide) (by kernel_rfl) (Blt.isinstance (by assumption)) (by kernel_rfl) (Blt.dict (by assumption)) PyProof.Rows.boot_dict
  | refine ev_ex (ex_callB (id := "all") (x := "all") ?_ (by kernel_rfl) (Blt.all (by assumption)) PyProof.Rows.boot_all)
  | refine ev_ex (ex_callB (id := "any") (x := "any") ?_ (by kernel_rfl) (Blt.any (by assumption)) PyProof.Rows.boot_any)
  | refine ev_ex (ex_callB (id := "abs") (x := "abs") ?_ (by kernel_rfl) (Blt.abs (by assumption)) PyProof.Rows.boot_abs)
  | refine ev_ex (ex_callTy (T := "int") (x := "int") ?_ (by kernel_rfl) (Blt.int (by assumption)) PyProof.Rows.boot_int))
local macro_rules | `(tactic| walk_at "dwset") => `(tactic| first
  | refine sd_set (i := 0) ?_ rfl (of_decide_eq_true (by kernel_rfl)) (loc_of (by kernel_rfl)) (loc_of (by kernel_rfl)) | refine sd_set (i := 1) ?_ rfl (of_decide_eq_true (by kernel_rfl)) (loc_of (by kernel_rfl)) (loc_of (by kernel_rfl)) | refine sd_set (i := 2) ?_ rfl (of_decide_eq_true (by kernel_rfl)) (loc_of (by kernel_rfl)) (loc_of (by kernel_rfl)) | refine sd_set (i := 3) ?_ rfl (of_decide_eq_true (by kernel_rfl)) (loc_of (by kernel_rfl)) (loc_of (by kernel_rfl)) | refine sd_set (i := 4) ?_ rfl (of_decide_eq_true (by kernel_rfl)) (loc_of (by kernel_rfl)) (loc_of (by kernel_rfl)) | refine sd_set (i := 5) ?_ rfl (of_decide_eq_true (by kernel_rfl)) (loc_of (by kernel_rfl)) (loc_of (by kernel_rfl)) | refine sd_set (i := 6) ?_ rfl (of_decide_eq_true (by kernel_rfl)) (loc_of (by kernel_rfl)) (loc_of (by kernel_rfl)) | refine sd_set (i := 7) ?_ rfl (of_decide_eq_true (by kernel_rfl)) (loc_of (by kernel_rfl)) (loc_of (by kernel_rfl)) | refine sd_set (i := 8) ?_ rfl (of_decide_eq_true (by kernel_rfl)) (loc_of (by kernel_rfl)) (loc_of (by kernel_rfl)) | refine sd_set (i := 9) ?_ rfl (of_decide_eq_true (by kernel_rfl)) (loc_of (by kernel_rfl)) (loc_of (by kernel_rfl)) | refine sd_set (i := 10) ?_ rfl (of_decide_eq_true (by kernel_rfl)) (loc_of (by kernel_rfl)) (loc_of (by kernel_rfl)) | refine sd_set (i := 11) ?_ rfl (of_decide_eq_true (by kernel_rfl)) (loc_of (by kernel_rfl)) (loc_of (by kernel_rfl)))
local macro_rules | `(tactic| walk_at "dwev") => `(tactic| first
  | (show EV _ (.Name _ _) _ _; walk_at "dwname")
  | (show EV _ (.Call _ _ _ _) _ _; walk_at "dwcall")
  | refine ev_int ?_ | refine ev_str ?_ | refine ev_ix ?_ | refine ev_tup ?_ | refine ev_ex (ex_cmp ?_) | refine ev_ex (ex_bin ?_)
  | refine ev_none ?_ | refine ev_bool ?_ | refine ev_and ?_ | refine ev_or ?_ | refine ev_one ?_ | refine ev_not ?_
  | refine ev_chain ?_ | refine ev_ex (ex_un ?_) | refine ev_ex (ex_ifExp ?_) | refine ev_ex (ex_lst ?_))
local macro_rules | `(tactic| walk_at "dw1") => `(tactic| first
  | (show SDs _ _ _ _; first | refine sds_cons ?_ | refine sds_nil ?_)
  | (show SD _ _ _ _; first | refine sd_ret ?_ | refine sd_if ?_ | walk_at "dwset")
  | (show EV _ _ _ _; walk_at "dwev")
  | (show EVs _ _ _ _; first | refine evs_nil ?_ | refine evs_cons ?_)
  | (show EX _ _ _ _; first | refine ex_ifExp ?_ | refine ex_lst ?_ | refine ex_ev ?_)
  | (show ET _ _ _ _; first | refine et_cmp ?_ | refine et_not ?_ | refine et_bo ?_ | refine et_val ?_)
  | (show EW _ _ _ _; first | refine ew_and ?_ | refine ew_or ?_ | refine ew_and1 ?_ | refine ew_or1 ?_)
  | (show ∃ d, IxD _ _ _ d ∧ _; first | refine ⟨_, ix_i (by first | rfl | assumption) (by first | exact atI0 | exact atI1 | exact atI2 | rfl | assumption), ?_⟩ | refine ⟨_, ix_s (by assumption) (by first | assumption | rfl), ?_⟩)
  | (show ∃ Qr, CallD _ _ _ Qr ∧ _; walk_at "dwcd")
  | (show ∃ Qr, BinD _ _ _ _ Qr ∧ _; walk_at "dwbin")
  | (show ∃ Qr, CmpD _ _ _ _ Qr ∧ _; walk_at "dwbin")
  | (show ∃ t, CmpD _ _ _ _ (· = .sh (.bool t)) ∧ _; walk_at "dwbin")
  | (show ∀ r, r = _ → _; intro r hr; subst hr) | refine fun (_ : ∀ (p : Addr) (o : OD), _ = Sl.own p o → _) => ?_
  | refine ⟨_, rfl, ?_⟩ | refine ⟨rfl, ?_⟩ | refine ⟨trivial, ?_⟩
  | refine ⟨Nat.le_of_ble_eq_true rfl, ?_⟩ | refine fun (_ : Addr) (_ : _ ∉ owns _) => ?_ | refine ⟨by decide, ?_⟩
  | refine iteHT rfl ?_ | refine iteHF rfl ?_)
local macro_rules | `(tactic| walk_at "dw") => `(tactic| repeat (walk_at "dw1"))

variable {G : Pg} {f : Addr} {fd : FuncData}
/-- the signs that values are made of -/
def vch (c : Nat) : Bool := decide (32 ≤ c) && decide (c ≤ 126) && !decide (c = 37)
def VOk (d : PD) : Prop := ∃ l : List Nat, d = .str (Sx l) ∧ l.length ≤ 70 ∧ l.all vch = true
theorem Sx_tl (z : Str) : Sx z.cps.toList = z := by cases z; simp
theorem vok {z : Str} (h : z.cps.toList.length ≤ 70) (h2 : z.cps.toList.all vch = true) : VOk (.str z) := ⟨z.cps.toList, by rw [Sx_tl], h, h2⟩
theorem num_tl {n : Nat} (h : n < 10 ^ 9) : (Str.ofString (toString ((n : Nat) : Int))).cps.toList.length ≤ 9 ∧ (Str.ofString (toString ((n : Nat) : Int))).cps.toList.all vch = true := by
  have e : (Str.ofString (toString ((n : Nat) : Int))).cps.toList = TL.numL n := TL.tl_num n
  rw [e]
  refine ⟨TL.numL_len (by decide) h, ?_⟩
  rw [List.all_eq_true]
  intro c hc
  have := TL.numL_digits n c hc
  unfold vch
  simp
  omega
theorem vok_num {n : Nat} (h : n < 10 ^ 9) : VOk (.str (Str.ofString (toString ((n : Nat) : Int)))) := vok (Nat.le_trans (num_tl h).1 (by decide)) (num_tl h).2
theorem vok_neg {n : Nat} (h : n < 10 ^ 9) : VOk (.str ("-" ++ Str.ofString (toString ((n : Nat) : Int)))) := by
  have e : (("-" : Str) ++ Str.ofString (toString ((n : Nat) : Int))).cps.toList = ("-" : Str).cps.toList ++ (Str.ofString (toString ((n : Nat) : Int))).cps.toList := TL.tl_append _ _
  have e1 : ("-" : Str).cps.toList = [45] := by decide +kernel
  refine vok ?_ ?_
  · rw [e, e1, List.length_append]
    have := (num_tl h).1
    simp only [List.length_cons, List.length_nil]
    omega
  · rw [e, e1, List.all_append, (num_tl h).2]
    decide
theorem vok_cut {z : Str} (h : VOk (.str z)) (lo hi : Option Int) : VOk (.str (cutS z lo hi)) := by
  obtain ⟨l, e, h1, h2⟩ := h
  cases e
  refine ⟨_, rfl, ?_, ?_⟩
  · have := List.length_take_le (HT.sIx (Sx l).length (Sx l).length hi - HT.sIx (Sx l).length 0 lo) ((Sx l).cps.toList.drop (HT.sIx (Sx l).length 0 lo))
    have h3 : ((Sx l).cps.toList.drop (HT.sIx (Sx l).length 0 lo)).length ≤ l.length := by
      rw [List.length_drop]
      show l.length - _ ≤ l.length
      omega
    rw [List.length_take]
    omega
  · rw [List.all_eq_true] at h2 ⊢
    intro c hc
    exact h2 c (List.mem_of_mem_drop (List.mem_of_mem_take hc))
def names4 : List PD := [.str "x", .str "y2", .str "eightsgn", .str "z"]
/-- what a drawn dict of values is -/
def HeldOk (kvs : List (PD × PD)) : Prop := kvs.length ≤ 4 ∧ (kvs.map (·.1)).Nodup ∧ (∀ q ∈ kvs, q.1 ∈ names4) ∧ ∀ q ∈ kvs, VOk q.2
def CHeld : List PD → List PD → Prop := fun xs ds => SOk (2 ^ 28) xs ∧ ∃ most : Int, ds = [.int most] ∧ 1 ≤ most ∧ most ≤ 10 ^ 9
def PHeld : List PD → List PD → PD → List PD → Prop := fun xs ds d xs' => (∀ m, SOk m xs → SOk (m + 1100) xs') ∧ ∃ kvs, d = .dict kvs ∧ HeldOk kvs
theorem shp_strs {zs : List Str} (h : ∀ z ∈ zs, PyData.strOk z = true) : Shp (zs.map .str) := fun x hx => by
  obtain ⟨z, hz, rfl⟩ := List.mem_map.mp hx
  refine ⟨?_, ?_, rfl⟩
  · simp [PyData.canLay0, h z hz]
  · simp [PyData.depth]
theorem putD_new {kvs : List (PD × PD)} {k v : PD} (h : ∀ q ∈ kvs, keyD q.1 ≠ keyD k) : putD kvs k v = kvs ++ [(k, v)] := by
  unfold putD
  rw [if_neg]
  rw [List.any_eq_true]
  rintro ⟨q, h1, h2⟩
  exact h q h1 (of_decide_eq_true h2)
theorem ok_held (B : Blt G.mg) (h1 : Has G "_law_draw" P__law_draw 1 (StN 1 CDraw PDraw)) (h2 : Has G "_law_pick" P__law_pick 2 (StN 1 CPick PPick)) (h3 : Has G "_law_mixed" P__law_mixed 2 (StN 1 CMix PMix))
    (F : Fun G.K "_law_held" "_law_held" s__law_held f fd) : FnG G 3 f fd P__law_held (SpD G.K G.Tb (StN 1 CHeld PHeld)) := by
  refine fn_st F sc__law_held rfl fun W Z p xs ds hl hC => ?_
  obtain ⟨hs, most, rfl, hm1, hm2⟩ := hC
  show SDs _ _ [.own p (.lst xs), .sh (.int most), .no, .no, .no, .no, .no] _
  refine sds_cons (sd_set (i := 2) (ex_dnew ?_) rfl (of_decide_eq_true (by kernel_rfl)) (loc_of (by kernel_rfl)) (loc_of (by kernel_rfl)))
  intro pf
  show SDs _ _ [.own p (.lst xs), .sh (.int most), .own pf (.dct []), .no, .no, .no, .no] _
  have dr : ∀ {st : List PD} {a : Nat}, (∀ m, SOk m xs → SOk (m + a) st) → a ≤ 2000 → SOk (2 ^ 29) st := fun {st a} h h1 => (h _ hs).mono (by omega)
  refine sds_cons (sd_forE [3] (it_list (ev_ex (ex_slice ?_))))
  refine ev_callS (i := 0) h3 (Nat.le_refl _) ⟨_, _, rfl, ?_⟩ (by kernel_rfl) rfl (by walk_at "dwvis")
  walk_at "dw"
  refine ⟨⟨dr (a := 0) (fun m hm => hm) (by omega), _, _, rfl, rfl, Nat.le_of_ble_eq_true rfl, ?_⟩, fun dl st1 hpd => ?_⟩
  · exact shp_strs (zs := ["x", "y2", "eightsgn", "z"]) (by decide +kernel)
  obtain ⟨hp1, hp2⟩ := hpd
  obtain ⟨ns, rfl, hperm⟩ := hp2 _ _ rfl rfl
  show EPart _ _ [.own p (.lst st1), .sh (.int most), .own pf (.dct []), .no, .no, .no, .no] _
  refine ep_none ?_
  refine ep_some ?_
  refine ev_callS (i := 0) h2 (Nat.le_refl _) ⟨_, _, rfl, ?_⟩ (by kernel_rfl) rfl (by walk_at "dwvis")
  walk_at "dw"
  refine ⟨⟨(hp1 _ hs).mono (by omega), _, _, rfl, rfl, Nat.le_of_ble_eq_true rfl, Nat.le_of_ble_eq_true rfl⟩, fun dk st2 hpd => ?_⟩
  obtain ⟨hq1, hq2⟩ := hpd
  have hS2 : ∀ m, SOk m xs → SOk (m + 1001) st2 := fun m hm => hq1 _ (hp1 m hm)
  obtain ⟨k, rfl⟩ : ∃ k : Int, dk = .int k := by
    have h := hq2 _ _ rfl rfl
    simp only [List.mem_cons, List.not_mem_nil, or_false] at h
    rcases h with rfl | rfl | rfl | rfl <;> exact ⟨_, rfl⟩
  refine ⟨k, rfl, _, sd_lst, fun r hr hown => ?_⟩
  obtain ⟨pc, rfl⟩ := hr
  refine ⟨_, rfl, _, rfl, ?_⟩
  obtain ⟨cs, hcs, hcsub, hcnd⟩ : ∃ cs, cutP ns none (some k) = cs ∧ (∀ q ∈ cs, q ∈ names4) ∧ cs.Nodup ∧ cs.length ≤ 4 := by
    have hsub : (cutP ns none (some k)).Sublist ns := (List.take_sublist _ _).trans (List.drop_sublist _ _)
    have hnd4 : names4.Nodup := List.Pairwise.map PyData.str (fun a b h z => h (by cases z; rfl)) (show (["x", "y2", "eightsgn", "z"] : List Str).Nodup by decide +kernel)
    refine ⟨_, rfl, fun q hq => hperm.subset (hsub.subset hq), (hperm.nodup_iff.mpr hnd4).sublist hsub, ?_⟩
    have := hsub.length_le
    rw [hperm.length_eq] at this
    exact this
  obtain ⟨hcnd, hcl⟩ := hcnd
  rw [hcs]
  show ∃ I : Nat → List Sl → Prop, I 0 [.own p (.lst st2), .sh (.int most), .own pf (.dct []), .no, .no, .no, .no] ∧ _
  refine ⟨fun i e => ∃ st kvs s3 s4 s5 s6, e = [.own p (.lst st), .sh (.int most), .own pf (.dct kvs), s3, s4, s5, s6] ∧ kvs.map (·.1) = cs.take i ∧ (∀ q ∈ kvs, VOk q.2) ∧ ∀ m, SOk m xs → SOk (m + (1001 + 4 * i)) st, ⟨st2, [], .no, .no, .no, .no, rfl, rfl, by simp, hS2⟩, ?_⟩
  rintro i e ⟨st, kvs, s3, s4, s5, s6, rfl, hkeys, hvals, hS⟩
  refine ⟨fun hi => ?_, fun d hd => ?_⟩
  · subst hi
    rw [List.take_of_length_le (Nat.le_refl _)] at hkeys
    refine sds_cons (sd_ret (ex_nameO (i := 2) rfl ?_ rfl (by walk_at "dwvis")))
    refine ⟨_, st, rfl, rfl, fun m hm => (hS m hm).mono (by omega), kvs, rfl, ?_, ?_, ?_, hvals⟩
    · rw [← hkeys, List.length_map] at hcl; exact hcl
    · rw [hkeys]; exact hcnd
    · intro q hq
      exact hcsub _ (by rw [← hkeys]; exact List.mem_map.mpr ⟨q, hq, rfl⟩)
  · have hi4 : i < cs.length := (List.getElem?_eq_some_iff.mp hd).1
    have hdn : d ∈ names4 := hcsub d (List.mem_of_getElem? hd)
    refine tg_name (i := 3) ?_ (by decide) rfl (of_decide_eq_true (by kernel_rfl)) (loc_of (by kernel_rfl)) (loc_of (by kernel_rfl))
    show SDs _ _ [.own p (.lst st), .sh (.int most), .own pf (.dct kvs), .sh d, s4, s5, s6] _
    refine sds_cons (sd_set (i := 4) (ex_ev ?_) rfl (of_decide_eq_true (by kernel_rfl)) (loc_of (by kernel_rfl)) (loc_of (by kernel_rfl)))
    refine ev_callS (i := 0) h1 (Nat.le_succ _) ⟨_, _, rfl, ?_⟩ (by kernel_rfl) rfl (by walk_at "dwvis")
    walk_at "dw"
    refine ⟨⟨(dr hS (by omega)).mono (by omega), _, rfl, by omega, by omega⟩, fun r st3 hpd => ?_⟩
    obtain ⟨ha1, ha2⟩ := hpd
    obtain ⟨r, rfl, r1, r2⟩ := ha2 _ rfl
    obtain ⟨n, rfl⟩ := Int.eq_ofNat_of_zero_le r1
    have hn9 : n < 10 ^ 9 := by omega
    have hS3 : ∀ m, SOk m xs → SOk (m + (1002 + 4 * i)) st3 := fun m hm => (ha1 _ (hS m hm)).mono (by omega)
    show SDs _ _ [.own p (.lst st3), .sh (.int most), .own pf (.dct kvs), .sh d, .sh (.int n), s5, s6] _
    have hlog : ∀ {j : Nat}, j < 10 ^ 9 → ((j : Int)).natAbs.log2 < 1920 := fun {j} hj => by
      rw [Int.natAbs_natCast]
      have h : j < 2 ^ 1920 := Nat.lt_of_lt_of_le hj (by decide +kernel)
      by_cases h0 : j = 0
      · subst h0; decide
      · exact (Nat.log2_lt h0).mpr h
    obtain ⟨m1, hm1'⟩ := Int.eq_ofNat_of_zero_le (show 0 ≤ most - 1 by omega)
    have hm9 : m1 < 10 ^ 9 := by omega
    refine sds_cons (sd_set (i := 5) (ex_lst ?_) rfl (of_decide_eq_true (by kernel_rfl)) (loc_of (by kernel_rfl)) (loc_of (by kernel_rfl)))
    refine evs_cons (ev_ex (ex_callTy (T := "str") (x := "str") ?_ (by kernel_rfl) (Blt.str (by assumption)) PyProof.Rows.boot_str))
    walk_at "dw"
    refine ⟨_, cd_strI (hlog hn9), ?_⟩
    walk_at "dw"
    refine ev_ex (ex_callTy (T := "str") (x := "str") ?_ (by kernel_rfl) (Blt.str (by assumption)) PyProof.Rows.boot_str)
    walk_at "dw"
    refine ⟨_, cd_strI (hlog hn9), ?_⟩
    walk_at "dw"
    refine ev_ex (ex_callTy (T := "str") (x := "str") ?_ (by kernel_rfl) (Blt.str (by assumption)) PyProof.Rows.boot_str)
    walk_at "dw"
    refine ⟨_, cd_strI (hlog hn9), ?_⟩
    walk_at "dw"
    have hzl : (Str.ofString (toString ((n : Nat) : Int))).length ≤ 9 := (num_tl hn9).1
    refine ⟨_, od_addS (by rw [show ("-" : Str).length = 1 by decide +kernel]; omega), ?_⟩
    walk_at "dw"
    refine ev_ex (ex_slice ?_)
    walk_at "dw"
    refine ep_none ?_
    refine ep_some ?_
    walk_at "dw"
    refine ev_ex (ex_callTy (T := "str") (x := "str") ?_ (by kernel_rfl) (Blt.str (by assumption)) PyProof.Rows.boot_str)
    walk_at "dw"
    rw [hm1']
    refine ⟨_, cd_strI (hlog hm9), ?_⟩
    walk_at "dw"
    have hzm : (Str.ofString (toString ((m1 : Nat) : Int))).length ≤ 9 := (num_tl hm9).1
    refine ⟨_, cd_lenS (by omega), ?_⟩
    walk_at "dw"
    refine ⟨_, sd_str (by decide +kernel), ?_⟩
    walk_at "dw"
    rename_i p5 hp5
    refine ev_callS (i := 0) h2 (Nat.le_refl _) ⟨_, _, rfl, ?_⟩ (by kernel_rfl) rfl (by walk_at "dwvis")
    walk_at "dw"
    refine ⟨⟨(dr hS3 (by omega)).mono (by omega), _, _, rfl, rfl, Nat.le_of_ble_eq_true rfl, Nat.le_of_ble_eq_true rfl⟩, fun dodd st4 hpd => ?_⟩
    obtain ⟨hb1, hb2⟩ := hpd
    have hodd : VOk dodd := by
      have h := hb2 _ _ rfl rfl
      simp only [List.mem_cons, List.not_mem_nil, or_false] at h
      rcases h with rfl | rfl | rfl | rfl | rfl | rfl | rfl | rfl | rfl <;> exact vok (by decide +kernel) (by decide +kernel)
    have hS4 : ∀ m, SOk m xs → SOk (m + (1003 + 4 * i)) st4 := fun m hm => (hb1 _ (hS3 m hm)).mono (by omega)
    have h007 : VOk (.str (cutS "007" none (some ((Str.ofString (toString ((m1 : Nat) : Int))).length : Nat)))) := vok_cut (vok (by decide +kernel) (by decide +kernel)) _ _
    generalize cutS "007" none (some ((Str.ofString (toString ((m1 : Nat) : Int))).length : Nat)) = z7 at h007 ⊢
    have hneg := vok_neg hn9
    have hpos := vok_num hn9
    generalize ("-" : Str) ++ Str.ofString (toString ((n : Nat) : Int)) = zn at hneg ⊢
    generalize Str.ofString (toString ((n : Nat) : Int)) = zp at hpos hzl ⊢
    show SDs _ _ [.own p (.lst st4), .sh (.int most), .own pf (.dct kvs), .sh d, .sh (.int n), .own p5 (.lst [.str zp, .str zp, .str zn, .str "", .str "0", .str "-0", .str z7]), .sh dodd] _
    have hsome : ∀ v ∈ [PyData.str zp, .str zp, .str zn, .str "", .str "0", .str "-0", .str z7], VOk v := by
      intro v hv
      simp only [List.mem_cons, List.not_mem_nil, or_false] at hv
      rcases hv with rfl | rfl | rfl | rfl | rfl | rfl | rfl
      · exact hpos
      · exact hpos
      · exact hneg
      · exact vok (by decide +kernel) (by decide +kernel)
      · exact vok (by decide +kernel) (by decide +kernel)
      · exact vok (by decide +kernel) (by decide +kernel)
      · exact h007
    obtain ⟨z, rfl⟩ : ∃ z, d = .str z := by
      unfold names4 at hdn
      simp only [List.mem_cons, List.not_mem_nil, or_false] at hdn
      rcases hdn with rfl | rfl | rfl | rfl <;> exact ⟨_, rfl⟩
    have hnew : ∀ q ∈ kvs, keyD q.1 ≠ keyD (.str z) := fun q hq hk => by
      have h1 : q.1 ∈ cs.take i := by rw [← hkeys]; exact List.mem_map.mpr ⟨q, hq, rfl⟩
      have h2 : q.1 = .str z := by
        have h3 := hcsub _ (List.mem_of_mem_take h1)
        unfold names4 at h3
        simp only [List.mem_cons, List.not_mem_nil, or_false] at h3
        generalize q.1 = q1 at h3 hk
        rcases h3 with rfl | rfl | rfl | rfl <;> (cases hk; rfl)
      rw [h2] at h1
      obtain ⟨j, hj⟩ := List.mem_iff_getElem?.mp h1
      have hji : j < i := by
        have := (List.getElem?_eq_some_iff.mp hj).1
        rw [List.length_take] at this
        omega
      rw [List.getElem?_take_of_lt hji] at hj
      have hj2 := (List.getElem?_eq_some_iff.mp hj).1
      have : j = i := (List.getElem?_inj (i := j) (j := i) hj2 hcnd).mp (hj.trans hd.symm)
      omega
    have hkl : kvs.length < 100000 := by
      have := congrArg List.length hkeys
      rw [List.length_map, List.length_take] at this
      omega
    have fin : ∀ (v : PD) (st : List PD) (s5 s6 : Sl), VOk v → (∀ m, SOk m xs → SOk (m + (1005 + 4 * i)) st) → ∃ st' kvs' s3' s4' s5' s6', [Sl.own p (.lst st), .sh (.int most), .own pf (.dct (putD kvs (.str z) v)), .sh (.str z), .sh (.int n), s5, s6] = [Sl.own p (.lst st'), .sh (.int most), .own pf (.dct kvs'), s3', s4', s5', s6'] ∧ kvs'.map (·.1) = cs.take (i + 1) ∧ (∀ q ∈ kvs', VOk q.2) ∧ ∀ m, SOk m xs → SOk (m + (1001 + 4 * (i + 1))) st' := by
      intro v st s5 s6 hv hst
      refine ⟨st, _, _, _, _, _, rfl, ?_, ?_, fun m hm => (hst m hm).mono (by omega)⟩
      · rw [putD_new hnew, List.map_append, hkeys, List.take_succ, hd]
        rfl
      · rw [putD_new hnew]
        intro q hq
        rcases List.mem_append.mp hq with h | h
        · exact hvals q h
        · rw [List.mem_singleton] at h
          rw [h]
          exact hv
    refine sds_cons (sd_dput (i := 2) (ev_ex (ex_ifExp (et_cmp ?_))) rfl (by walk_at "dwvis"))
    refine ev_callS (i := 0) h1 (Nat.le_succ _) ⟨_, _, rfl, ?_⟩ (by kernel_rfl) rfl (by walk_at "dwvis")
    walk_at "dw"
    refine ⟨⟨(dr hS4 (by omega)).mono (by omega), _, rfl, by decide, by decide⟩, fun r st5 hpd => ?_⟩
    obtain ⟨hc1, hc2⟩ := hpd
    obtain ⟨r, rfl, r1, r2⟩ := hc2 _ rfl
    have hS5 : ∀ m, SOk m xs → SOk (m + (1004 + 4 * i)) st5 := fun m hm => (hc1 _ (hS4 m hm)).mono (by omega)
    show EV _ _ [.own p (.lst st5), .sh (.int most), .own pf (.dct kvs), .sh (.str z), .sh (.int n), .own p5 (.lst [.str zp, .str zp, .str zn, .str "", .str "0", .str "-0", .str z7]), .sh dodd] _
    walk_at "dw"
    refine iteD (fun g => ?_) fun g => ?_
    · walk_at "dw"
      refine ⟨pf, kvs, rfl, ?_⟩
      walk_at "dw"
      refine ⟨_, kvs, rfl, rfl, hkl, ?_⟩
      refine sds_nil (fin dodd st5 _ _ hodd fun m hm => (hS5 m hm).mono (by omega))
    · refine ex_ev ?_
      refine ev_callS (i := 0) h2 (Nat.le_refl _) ⟨_, _, rfl, ?_⟩ (by kernel_rfl) rfl (by walk_at "dwvis")
      refine evs_cons (ev_nameF (i := 5) rfl ?_ rfl (by walk_at "dwvis"))
      walk_at "dw"
      refine ⟨⟨(dr hS5 (by omega)).mono (by omega), _, _, rfl, rfl, Nat.le_of_ble_eq_true rfl, Nat.le_of_ble_eq_true rfl⟩, fun dv st6 hpd => ?_⟩
      obtain ⟨he1, he2⟩ := hpd
      have hv := hsome _ (he2 _ _ rfl rfl)
      refine ⟨_, rfl, pf, kvs, rfl, ?_⟩
      show EV _ _ [.own p (.lst st6), .sh (.int most), .own pf (.dct kvs), .sh (.str z), .sh (.int n), _, .sh dodd] _
      walk_at "dw"
      refine ⟨_, kvs, rfl, rfl, hkl, ?_⟩
      refine sds_nil (fin dv st6 _ _ hv fun m hm => (he1 _ (hS5 m hm)).mono (by omega))
end K8

/-! K9b: how drawn things are shown, how great they are, that they fit. -/
namespace K8
open PySem PySem.Spec PyProof.Rows L2 Dw
theorem seq_shown {d : PD} {xs : List PD} (hi : items d = some xs) : d.shown.length ≤ piled (PyData.shownAll xs) + 3 := by
  have hj : (Str.join ", " (PyData.shownAll xs)).length ≤ piled (PyData.shownAll xs) := by
    cases xs with
    | nil => simp [PyData.shownAll]; decide +kernel
    | cons x r =>
      have := join_length_add (PyData.shownAll (x :: r)) (by simp [PyData.shownAll])
      omega
  cases d with
  | list l =>
    cases hi
    rw [PyData.shown_list, strLen_append, strLen_append]
    have e1 : ((("[" : String) : Str)).length = 1 := rfl
    have e2 : ((("]" : String) : Str)).length = 1 := rfl
    omega
  | tuple l =>
    cases hi
    rw [PyData.shown_tuple, strLen_append, strLen_append]
    have e1 : ((("(" : String) : Str)).length = 1 := rfl
    have e2 : (((if xs.length == 1 then ",)" else ")" : String) : Str)).length ≤ 2 := by split <;> decide +kernel
    omega
  | _ => cases hi
theorem seq_showable {d : PD} {xs : List PD} (hi : items d = some xs) : d.showable = PyData.showableAll xs := by
  cases d with
  | list l => cases hi; simp only [PyData.showable]
  | tuple l => cases hi; simp only [PyData.showable]
  | _ => cases hi
theorem seq_depth {d : PD} {xs : List PD} (hi : items d = some xs) : d.depth = PyData.depthAll xs + 1 := by
  cases d with
  | list l => cases hi; simp only [PyData.depth]
  | tuple l => cases hi; simp only [PyData.depth]
  | _ => cases hi
theorem str_shown {z : Str} (h : ∀ c ∈ z.cps.toList, c < 128) : (PyData.str z).shown.length ≤ 10 * z.length + 2 := by
  rw [PyData.shown_str]
  exact StrLaws.reprText_len z fun c hc => Nat.lt_of_lt_of_le (h c hc) (by decide)
theorem int_shown {n : Int} (h0 : 0 ≤ n) (h1 : n ≤ 999999999) : (PyData.int n).shown.length ≤ 9 := by
  obtain ⟨k, rfl⟩ := Int.eq_ofNat_of_zero_le h0
  rw [PyData.shown_int]
  exact (num_tl (by omega)).1
theorem pl2 {a b : PD} : piled (PyData.shownAll [a, b]) = a.shown.length + b.shown.length + 4 := by
  simp [PyData.shownAll, piled]; omega
theorem pl3 {a b c : PD} : piled (PyData.shownAll [a, b, c]) = a.shown.length + b.shown.length + c.shown.length + 6 := by
  simp [PyData.shownAll, piled]; omega
variable {nm : Str → Bool} {GR : Int}
/-- names are short, of plain signs -/
def NmOk (nm : Str → Bool) : Prop := ∀ z, nm z = true → z.length ≤ 8 ∧ ∀ c ∈ z.cps.toList, c < 128
theorem w_ok {w : Str} (h : inStrs w TW8 = true) : w.length ≤ 2 ∧ ∀ c ∈ w.cps.toList, c < 128 := by
  have hw8 : w = "+" ∨ w = "-" ∨ w = "*" ∨ w = "/" ∨ w = "~" ∨ w = "<" ∨ w = "<=" ∨ w = "=" := by
    unfold inStrs at h
    simp only [List.any_cons, List.any_nil, Bool.or_false, Bool.or_eq_true, decide_eq_true_eq] at h
    rcases h with h | h | h | h | h | h | h | h <;> simp [← h]
  rcases hw8 with rfl | rfl | rfl | rfl | rfl | rfl | rfl | rfl <;> decide +kernel
theorem shown_tm (hn : NmOk nm) (hG : GR = 999999999) : ∀ {t : Tm} {d : PD}, Is t d → Okt nm GR TW8 t → d.shown.length ≤ 300 * sizeT t
  | .num n, d, h, o => by
    have h1 := seq_shown (show items d = some _ from h)
    rw [pl2] at h1
    have h2 := str_shown (z := "number") (by decide +kernel)
    rw [show ("number" : Str).length = 6 by decide +kernel] at h2
    have o1 : 0 ≤ n := o.1
    have o2 : n ≤ GR := o.2
    have h3 := int_shown o1 (by omega)
    show _ ≤ 300 * 1
    omega
  | .nam z, d, h, o => by
    have h1 := seq_shown (show items d = some _ from h)
    rw [pl2] at h1
    have h2 := str_shown (z := "name") (by decide +kernel)
    rw [show ("name" : Str).length = 4 by decide +kernel] at h2
    obtain ⟨o1, o2⟩ := hn z o
    have h3 := str_shown o2
    show _ ≤ 300 * 1
    omega
  | .less a, d, ⟨x, hi, hx⟩, o => by
    have h1 := seq_shown hi
    rw [pl2] at h1
    have h2 := str_shown (z := "less") (by decide +kernel)
    rw [show ("less" : Str).length = 4 by decide +kernel] at h2
    have h3 := shown_tm hn hG (t := a) hx o
    show _ ≤ 300 * (1 + sizeT a)
    omega
  | .two w a b, d, ⟨x, y, hi, hx, hy⟩, o => by
    have h1 := seq_shown hi
    rw [pl3] at h1
    obtain ⟨w1, w2⟩ := w_ok o.1.1
    have h2 := str_shown w2
    have h3 := shown_tm hn hG (t := a) hx o.2.1
    have h4 := shown_tm hn hG (t := b) hy o.2.2
    show _ ≤ 300 * (1 + sizeT a + sizeT b)
    omega
theorem showable_tm (hG : GR = 999999999) : ∀ {t : Tm} {d : PD}, Is t d → Okt nm GR TW8 t → d.showable = true
  | .num n, d, h, o => by
    rw [seq_showable (show items d = some _ from h)]
    have o1 : 0 ≤ n := o.1
    have o2 : n ≤ GR := o.2
    have : n.natAbs.log2 < 1920 := by
      have h : n.natAbs < 2 ^ 1920 := Nat.lt_of_lt_of_le (show n.natAbs < 10 ^ 9 by omega) (by decide +kernel)
      by_cases h0 : n.natAbs = 0
      · rw [h0]; decide
      · exact (Nat.log2_lt h0).mpr h
    simp [PyData.showableAll, PyData.showable, this]
  | .nam z, d, h, o => by
    rw [seq_showable (show items d = some _ from h)]
    simp [PyData.showableAll, PyData.showable]
  | .less a, d, ⟨x, hi, hx⟩, o => by
    rw [seq_showable hi]
    have h3 := showable_tm hG (t := a) hx o
    simp [PyData.showableAll, PyData.showable, h3]
  | .two w a b, d, ⟨x, y, hi, hx, hy⟩, o => by
    rw [seq_showable hi]
    have h3 := showable_tm hG (t := a) hx o.2.1
    have h4 := showable_tm hG (t := b) hy o.2.2
    simp [PyData.showableAll, PyData.showable, h3, h4]
theorem depth_tm : ∀ {t : Tm} {d : PD}, Is t d → d.depth ≤ dpT t + 1
  | .num n, d, h => by rw [seq_depth (show items d = some _ from h)]; simp [PyData.depthAll, PyData.depth]
  | .nam z, d, h => by rw [seq_depth (show items d = some _ from h)]; simp [PyData.depthAll, PyData.depth]
  | .less a, d, ⟨x, hi, hx⟩ => by
    rw [seq_depth hi]
    have := depth_tm (t := a) hx
    simp only [PyData.depthAll, PyData.depth]
    show _ ≤ dpT a + 1 + 1
    omega
  | .two w a b, d, ⟨x, y, hi, hx, hy⟩ => by
    rw [seq_depth hi]
    have h1 := depth_tm (t := a) hx
    have h2 := depth_tm (t := b) hy
    simp only [PyData.depthAll, PyData.depth]
    show _ ≤ max (dpT a) (dpT b) + 1 + 1
    omega
theorem sz_tm (hn : NmOk nm) : ∀ {t : Tm} {d : PD}, Is t d → Okt nm GR TW8 t → szP d ≤ 30 * sizeT t
  | .num n, d, h, o => by
    rw [szP_items (show items d = some _ from h)]
    simp only [szL, szP]
    rw [show ("number" : Str).length = 6 by decide +kernel]
    show _ ≤ 30 * 1
    omega
  | .nam z, d, h, o => by
    rw [szP_items (show items d = some _ from h)]
    simp only [szL, szP]
    rw [show ("name" : Str).length = 4 by decide +kernel]
    have := (hn z o).1
    show _ ≤ 30 * 1
    omega
  | .less a, d, ⟨x, hi, hx⟩, o => by
    rw [szP_items hi]
    simp only [szL, szP]
    rw [show ("less" : Str).length = 4 by decide +kernel]
    have := sz_tm hn (t := a) hx o
    show _ ≤ 30 * (1 + sizeT a)
    omega
  | .two w a b, d, ⟨x, y, hi, hx, hy⟩, o => by
    rw [szP_items hi]
    simp only [szL, szP]
    have h0 := (w_ok o.1.1).1
    have h1 := sz_tm hn (t := a) hx o.2.1
    have h2 := sz_tm hn (t := b) hy o.2.2
    show _ ≤ 30 * (1 + sizeT a + sizeT b)
    omega
theorem size_dp : ∀ t : Tm, sizeT t + 1 ≤ 2 ^ (dpT t + 1)
  | .num _ => by show 1 + 1 ≤ 2 ^ (0 + 1); decide
  | .nam _ => by show 1 + 1 ≤ 2 ^ (0 + 1); decide
  | .less a => by
    have := size_dp a
    show 1 + sizeT a + 1 ≤ 2 ^ (dpT a + 1 + 1)
    rw [Nat.pow_succ]
    omega
  | .two _ a b => by
    have h1 := size_dp a
    have h2 := size_dp b
    have h3 : 2 ^ (dpT a + 1) ≤ 2 ^ (max (dpT a) (dpT b) + 1) := Nat.pow_le_pow_right (by decide) (by omega)
    have h4 : 2 ^ (dpT b + 1) ≤ 2 ^ (max (dpT a) (dpT b) + 1) := Nat.pow_le_pow_right (by decide) (by omega)
    show 1 + sizeT a + sizeT b + 1 ≤ 2 ^ (max (dpT a) (dpT b) + 1 + 1)
    rw [Nat.pow_succ]
    omega
theorem lv_size : ∀ t : Tm, lvT t ≤ sizeT t
  | .num _ => Nat.le_refl _
  | .nam _ => Nat.le_refl _
  | .less a => by have := lv_size a; show lvT a ≤ 1 + sizeT a; omega
  | .two _ a b => by have := lv_size a; have := lv_size b; show lvT a + lvT b ≤ 1 + sizeT a + sizeT b; omega
theorem size15 {t : Tm} (h : dpT t ≤ 3) : sizeT t ≤ 15 := by
  have h1 := size_dp t
  have h2 : 2 ^ (dpT t + 1) ≤ 2 ^ 4 := Nat.pow_le_pow_right (by decide) (by omega)
  omega
/-- a drawn sum fits -/
theorem fits_tm {LT FG : Str} (hG : GR = 999999999) : ∀ {t : Tm} {d : PD}, Is t d → Okt (nameZ LT FG) GR TW8 t → fitsS LT FG GR TW8 d = true
  | .num n, d, h, o => by
    rw [fitsS_items (show items d = some _ from h), kl_num]
    have o1 : 0 ≤ n := o.1
    have o2 : n ≤ GR := o.2
    have e : isNT (.int n) (.int GR) = true := by
      show (decide (0 ≤ n) && decide (n ≤ GR)) = true
      rw [decide_eq_true o1, decide_eq_true o2]
      rfl
    simp only [e, if_true, fitsK]
    simp
  | .nam z, d, h, o => by
    rw [fitsS_items (show items d = some _ from h), kl_name]
    have e : nameP LT FG (.str z) = true := o
    simp only [e, if_true, fitsK]
    simp
  | .less a, d, ⟨x, hi, hx⟩, o => by
    rw [fitsS_items hi, kl_less]
    have := fits_tm hG (t := a) hx o
    simp only [fitsK, this, Bool.or_true, Bool.and_true]
    simp
  | .two w a b, d, ⟨x, y, hi, hx, hy⟩, o => by
    obtain ⟨o1, o2, o3, o4⟩ := o.1
    rw [fitsS_items hi, kl_two o2 o3 o4, if_pos o1]
    have h1 := fits_tm hG (t := a) hx o.2.1
    have h2 := fits_tm hG (t := b) hy o.2.2
    simp only [fitsK, h1, h2, Bool.or_true, Bool.and_true]
    simp
/-- what is loosened is the same sum -/
theorem Tr_tm : ∀ (t : Tm) (n : Nat), dpT t + 1 ≤ n → Tr n (tupOf t)
  | .num m, n + 1, _ => .inr ⟨_, rfl, by simp, fun x hx => by
      simp only [List.mem_cons, List.not_mem_nil, or_false] at hx
      cases n <;> rcases hx with rfl | rfl <;> first | exact .inl rfl | rfl⟩
  | .nam z, n + 1, _ => .inr ⟨_, rfl, by simp, fun x hx => by
      simp only [List.mem_cons, List.not_mem_nil, or_false] at hx
      cases n <;> rcases hx with rfl | rfl <;> first | exact .inl rfl | rfl⟩
  | .less a, n + 1, h => .inr ⟨_, rfl, by simp, fun x hx => by
      have h : dpT a + 1 + 1 ≤ n + 1 := h
      simp only [List.mem_cons, List.not_mem_nil, or_false] at hx
      rcases hx with rfl | rfl
      · cases n <;> first | exact .inl rfl | rfl
      · exact Tr_tm a n (by omega)⟩
  | .two w a b, n + 1, h => .inr ⟨_, rfl, by simp, fun x hx => by
      have h : max (dpT a) (dpT b) + 1 + 1 ≤ n + 1 := h
      simp only [List.mem_cons, List.not_mem_nil, or_false] at hx
      rcases hx with rfl | rfl | rfl
      · cases n <;> first | exact .inl rfl | rfl
      · exact Tr_tm a n (by omega)
      · exact Tr_tm b n (by omega)⟩
theorem Lo_eq {n : Nat} {d e : PD} (h : flatB d = true) (hl : Lo n d e) : e = d := by
  cases n with
  | zero => exact hl
  | succ n =>
    rcases hl with ⟨_, h⟩ | ⟨xs, ys, h1, _⟩
    · exact h
    · cases d <;> simp [flatB, items] at h h1
theorem Lo_seq {n : Nat} {d e : PD} {xs : List PD} (h : items d = some xs) (hl : Lo n d e) (hn : 1 ≤ n) : ∃ ys k, n = k + 1 ∧ items e = some ys ∧ ys.length = xs.length ∧ ∀ (i : Nat) (x y : PD), xs[i]? = some x → ys[i]? = some y → Lo k x y := by
  cases n with
  | zero => omega
  | succ k =>
    rcases hl with ⟨hf, _⟩ | ⟨xs', ys, h1, h2, h3, h4⟩
    · cases d <;> simp [flatB, items] at h hf
    · rw [h] at h1
      cases h1
      exact ⟨ys, k, rfl, h2, h3, h4⟩
theorem Lo_Is : ∀ (t : Tm) {n : Nat} {e : PD}, dpT t + 1 ≤ n → Lo n (tupOf t) e → Is t e
  | .num m, n, e, hn, h => by
    obtain ⟨ys, k, rfl, h1, h2, h3⟩ := Lo_seq (show items (tupOf (.num m)) = some [.str "number", .int m] from rfl) h (by omega)
    match ys, h2 with
    | [a, b], _ =>
      have e1 := Lo_eq rfl (h3 0 _ _ rfl rfl)
      have e2 := Lo_eq rfl (h3 1 _ _ rfl rfl)
      subst e1 e2
      exact h1
  | .nam z, n, e, hn, h => by
    obtain ⟨ys, k, rfl, h1, h2, h3⟩ := Lo_seq (show items (tupOf (.nam z)) = some [.str "name", .str z] from rfl) h (by omega)
    match ys, h2 with
    | [a, b], _ =>
      have e1 := Lo_eq rfl (h3 0 _ _ rfl rfl)
      have e2 := Lo_eq rfl (h3 1 _ _ rfl rfl)
      subst e1 e2
      exact h1
  | .less a, n, e, hn, h => by
    have hn : dpT a + 1 + 1 ≤ n := hn
    obtain ⟨ys, k, rfl, h1, h2, h3⟩ := Lo_seq (show items (tupOf (.less a)) = some [.str "less", tupOf a] from rfl) h (by omega)
    match ys, h2 with
    | [u, b], _ =>
      have e1 := Lo_eq rfl (h3 0 _ _ rfl rfl)
      subst e1
      exact ⟨b, h1, Lo_Is a (by omega) (h3 1 _ _ rfl rfl)⟩
  | .two w a b, n, e, hn, h => by
    have hn : max (dpT a) (dpT b) + 1 + 1 ≤ n := hn
    obtain ⟨ys, k, rfl, h1, h2, h3⟩ := Lo_seq (show items (tupOf (.two w a b)) = some [.str w, tupOf a, tupOf b] from rfl) h (by omega)
    match ys, h2 with
    | [u, x, y], _ =>
      have e1 := Lo_eq rfl (h3 0 _ _ rfl rfl)
      subst e1
      exact ⟨x, y, h1, Lo_Is a (by omega) (h3 1 _ _ rfl rfl), Lo_Is b (by omega) (h3 2 _ _ rfl rfl)⟩
end K8

/-! K9c: dicts of values in another order; the law's one right sum. -/
namespace K8
open PySem PySem.Spec PyProof.Rows L2 Dw
def prP : PD → PD × PD
  | .tuple [a, b] => (a, b)
  | _ => (.none, .none)
theorem perm_items {l : List PD} {kvs : List (PD × PD)} (h : l.Perm (itemsP kvs)) : ∃ kvs' : List (PD × PD), l = itemsP kvs' ∧ kvs'.Perm kvs := by
  have e1 : (itemsP kvs).map prP = kvs := by
    unfold itemsP
    rw [List.map_map]
    exact (List.map_congr_left fun q _ => rfl).trans (List.map_id _)
  have hm : ∀ d ∈ l, PyData.tuple [(prP d).1, (prP d).2] = d := fun d hd => by
    have h2 := h.subset hd
    unfold itemsP at h2
    obtain ⟨q, _, rfl⟩ := List.mem_map.mp h2
    rfl
  refine ⟨l.map prP, ?_, ?_⟩
  · unfold itemsP
    rw [List.map_map]
    exact ((List.map_congr_left fun d hd => hm d hd).trans (List.map_id _)).symm
  · have := h.map prP
    rw [e1] at this
    exact this
/-- keys are strings, each once -/
def Keyed (kvs : List (PD × PD)) : Prop := (kvs.map (·.1)).Nodup ∧ ∀ q ∈ kvs, ∃ z, q.1 = .str z
theorem Keyed.perm {a b : List (PD × PD)} (h : Keyed a) (p : b.Perm a) : Keyed b := ⟨((p.map (·.1)).nodup_iff).mpr h.1, fun q hq => h.2 q (p.subset hq)⟩
theorem keyD_str {d e : PD} {z y : Str} (h1 : d = .str z) (h2 : e = .str y) (h : keyD d = keyD e) : d = e := by
  subst h1 h2
  cases h
  rfl
theorem fold_put : ∀ (kvs acc : List (PD × PD)), Keyed (acc ++ kvs) → kvs.foldl (fun acc q => putD acc q.1 q.2) acc = acc ++ kvs
  | [], acc, _ => (List.append_nil _).symm
  | (k, v) :: r, acc, h => by
    have hn : ∀ q ∈ acc, keyD q.1 ≠ keyD k := fun q hq hk => by
      obtain ⟨z, hz⟩ := h.2 q (List.mem_append_left _ hq)
      obtain ⟨y, hy⟩ := h.2 (k, v) (List.mem_append_right _ List.mem_cons_self)
      have e := keyD_str hz hy hk
      have hnd := h.1
      rw [List.map_append, List.nodup_append] at hnd
      exact hnd.2.2 q.1 (List.mem_map.mpr ⟨q, hq, rfl⟩) k (by simp) e
    show r.foldl _ (putD acc k v) = _
    rw [putD_new hn]
    have e2 : acc ++ [(k, v)] ++ r = acc ++ (k, v) :: r := by simp
    rw [fold_put r (acc ++ [(k, v)]) (by rw [e2]; exact h), e2]
theorem look_perm {a b : List (PD × PD)} (p : a.Perm b) (h : Keyed a) (k : Key) : lookK a k = lookK b k := by
  induction p with
  | nil => rfl
  | cons q _ ih =>
    have h' : Keyed _ := ⟨(List.nodup_cons.mp h.1).2, fun q hq => h.2 q (List.mem_cons_of_mem _ hq)⟩
    unfold lookK
    rw [ih h']
  | swap x y l =>
    have hne : ¬ (keyD x.1 = some k ∧ keyD y.1 = some k) := fun ⟨h1, h2⟩ => by
      obtain ⟨z, hz⟩ := h.2 x (by simp)
      obtain ⟨w, hw⟩ := h.2 y (by simp)
      have e := keyD_str hz hw (h1.trans h2.symm)
      have hnd := h.1
      simp only [List.map_cons, List.nodup_cons, List.mem_cons] at hnd
      exact hnd.1 (.inl e.symm)
    simp only [lookK]
    by_cases h1 : keyD x.1 = some k
    · have h2 : ¬ keyD y.1 = some k := fun h2 => hne ⟨h1, h2⟩
      rw [if_neg h2, if_pos h1, if_pos h1]
    · rw [if_neg h1, if_neg h1]
  | trans p1 _ ih1 ih2 => rw [ih1 h, ih2 (h.perm p1.symm)]
theorem numH_perm {a b : List (PD × PD)} (p : a.Perm b) (h : Keyed a) : numH a = numH b := funext fun z => by
  unfold numH txtH
  rw [look_perm p h]
theorem n4_str {d : PD} (h : d ∈ names4) : ∃ z, d = .str z ∧ z.length ≤ 8 ∧ ∀ c ∈ z.cps.toList, c < 128 := by
  unfold names4 at h
  simp only [List.mem_cons, List.not_mem_nil, or_false] at h
  rcases h with rfl | rfl | rfl | rfl <;> exact ⟨_, rfl, by decide +kernel, by decide +kernel⟩
theorem HeldOk.keyed {kvs : List (PD × PD)} (h : HeldOk kvs) : Keyed kvs := ⟨h.2.1, fun q hq => by
  obtain ⟨z, hz, _⟩ := n4_str (h.2.2.1 q hq)
  exact ⟨z, hz⟩⟩
theorem HeldOk.perm {a b : List (PD × PD)} (h : HeldOk a) (p : b.Perm a) : HeldOk b := ⟨by rw [p.length_eq]; exact h.1, ((p.map (·.1)).nodup_iff).mpr h.2.1, fun q hq => h.2.2.1 q (p.subset hq), fun q hq => h.2.2.2 q (p.subset hq)⟩
theorem HeldOk.okH {kvs : List (PD × PD)} (h : HeldOk kvs) : OkH kvs := fun q hq => by
  obtain ⟨l, h1, h2, _⟩ := h.2.2.2 q hq
  exact ⟨l, h1, h2⟩
theorem HeldOk.cvals {kvs : List (PD × PD)} (h : HeldOk kvs) : CVals [.dict kvs] := fun kvs' e => by
  cases (show PyData.dict kvs = .dict kvs' from e)
  refine ⟨by have := h.1; omega, fun q hq => ⟨fun z hz => ?_, fun z hz => ?_⟩⟩
  · obtain ⟨y, hy, hl, _⟩ := n4_str (h.2.2.1 q hq)
    rw [hy] at hz
    cases hz
    omega
  · obtain ⟨l, h1, h2, _⟩ := h.2.2.2 q hq
    rw [h1] at hz
    cases hz
    show l.length ≤ 100000
    omega
theorem vch_lt {c : Nat} (h : vch c = true) : c < 128 := by
  unfold vch at h
  simp at h
  omega
theorem VOk.shown {d : PD} (h : VOk d) : d.shown.length ≤ 702 := by
  obtain ⟨l, rfl, h1, h2⟩ := h
  rw [List.all_eq_true] at h2
  have h3 := str_shown (z := Sx l) fun c hc => vch_lt (h2 c hc)
  have h4 : (Sx l).length = l.length := rfl
  omega
theorem kv_shown : ∀ {kvs : List (PD × PD)}, (∀ q ∈ kvs, q.1 ∈ names4) → (∀ q ∈ kvs, VOk q.2) → piled (PyData.shownKv kvs) ≤ 800 * kvs.length
  | [], _, _ => by simp [PyData.shownKv, piled]
  | (k, v) :: r, h1, h2 => by
    have ih := kv_shown (kvs := r) (fun q hq => h1 q (List.mem_cons_of_mem _ hq)) (fun q hq => h2 q (List.mem_cons_of_mem _ hq))
    rw [PyData.shownKv_cons, piled_cons, strLen_append, strLen_append]
    obtain ⟨z, hz, hl, hc⟩ := n4_str (h1 (k, v) List.mem_cons_self)
    have e1 : k = .str z := hz
    have e2 := str_shown hc
    have e3 := VOk.shown (h2 (k, v) List.mem_cons_self)
    have e3 : v.shown.length ≤ 702 := e3
    have e4 : (((": " : String) : Str)).length = 2 := rfl
    rw [e1, List.length_cons]
    omega
theorem HeldOk.shown {kvs : List (PD × PD)} (h : HeldOk kvs) : (PyData.dict kvs).shown.length ≤ 3300 := by
  have hp := kv_shown h.2.2.1 h.2.2.2
  have hl := h.1
  have hj : (Str.join ", " (PyData.shownKv kvs)).length ≤ piled (PyData.shownKv kvs) := by
    cases kvs with
    | nil => simp [PyData.shownKv]; decide +kernel
    | cons x r =>
      have := join_length_add (PyData.shownKv (x :: r)) (by cases x; simp [PyData.shownKv])
      omega
  rw [PyData.shown_dict, strLen_append, strLen_append]
  have e1 : ((("{" : String) : Str)).length = 1 := rfl
  have e2 : ((("}" : String) : Str)).length = 1 := rfl
  omega
theorem kv_showable : ∀ {kvs : List (PD × PD)}, (∀ q ∈ kvs, q.1 ∈ names4) → (∀ q ∈ kvs, VOk q.2) → PyData.showableKv kvs = true ∧ PyData.depthKv kvs = 0
  | [], _, _ => by simp [PyData.showableKv, PyData.depthKv]
  | (k, v) :: r, h1, h2 => by
    obtain ⟨i1, i2⟩ := kv_showable (kvs := r) (fun q hq => h1 q (List.mem_cons_of_mem _ hq)) (fun q hq => h2 q (List.mem_cons_of_mem _ hq))
    obtain ⟨z, hz, _⟩ := n4_str (h1 (k, v) List.mem_cons_self)
    have e1 : k = .str z := hz
    obtain ⟨l, hl, _⟩ := h2 (k, v) List.mem_cons_self
    have e2 : v = .str (Sx l) := hl
    subst e1 e2
    simp [PyData.showableKv, PyData.showable, PyData.depthKv, PyData.depth, i1, i2]
theorem HeldOk.shp {kvs : List (PD × PD)} (h : HeldOk kvs) : Shp (itemsP kvs) := fun x hx => by
  unfold itemsP at hx
  obtain ⟨q, hq, rfl⟩ := List.mem_map.mp hx
  obtain ⟨z, hz, _, hc⟩ := n4_str (h.2.2.1 q hq)
  obtain ⟨l, hl, _, hv⟩ := h.2.2.2 q hq
  rw [hz, hl]
  have k1 : PyData.strOk z = true := by
    unfold PyData.strOk
    rw [← Array.all_toList, List.all_eq_true]
    intro c hcm
    have := hc c hcm
    exact decide_eq_true (by omega)
  have k2 : PyData.strOk (Sx l) = true := by
    unfold PyData.strOk
    rw [← Array.all_toList, List.all_eq_true]
    intro c hcm
    rw [List.all_eq_true] at hv
    have := vch_lt (hv c hcm)
    exact decide_eq_true (by omega)
  refine ⟨by simp [PyData.canLay0, PyData.canLayAll0, k1, k2], by simp [PyData.depth, PyData.depthAll], rfl⟩
/-- what is known of the program's constants -/
structure Kon (LT FG SG : Str) : Prop where
  n4 : ∀ q ∈ names4, nameP LT FG q = true
  sg : ∀ c, vch c = true → c ∈ (SG ++ ("\n" : Str)).cps.toList
  nm : NmOk (nameZ LT FG)
  n5 : ∀ z ∈ (["x", "y2", "eightsgn", "z", "nobody"] : List Str), nameZ LT FG z = true
theorem HeldOk.valsP {LT FG SG : Str} (C : Kon LT FG SG) {kvs : List (PD × PD)} (h : HeldOk kvs) : valsP LT FG SG (.dict kvs) = true := by
  unfold K8.valsP
  rw [List.all_eq_true]
  intro q hq
  rw [C.n4 _ (h.2.2.1 q hq), Bool.true_and]
  obtain ⟨l, hl, _, hv⟩ := h.2.2.2 q hq
  rw [hl]
  unfold textP strOf
  rw [List.all_eq_true] at hv ⊢
  intro c hc
  exact decide_eq_true (C.sg c (hv c hc))
/-- a def called by names alone -/
structure HasK (G : Pg) (x : Str) (ps ks : List Str) (ix : List Nat) (k : Nat) (T : TD) : Prop where
  ex : ∃ (f : Addr) (fd : FuncData), FnG G k f fd ps (SpD G.K G.Tb T) ∧ G.mg x = some (.ref f) ∧ PySem.W.keepIn G.K (.ref f) = true ∧ ∀ ws : List Value, ws.length = ps.length → bindArgs fd ⟨[], ks.zip ws⟩ = pure (ps.zip (permV ix ws))
end K8

namespace K8
open PySem PySem.Spec PyProof.Rows L2 Dw
local macro_rules | `(tactic| walk_at "dwvis") => `(tactic| exact vis_of (by kernel_rfl))
local macro_rules | `(tactic| walk_at "dwbin") => `(tactic| first
  | refine ⟨_, od_eqS, ?_⟩ | refine ⟨_, od_neS, ?_⟩ | refine ⟨_, od_add, ?_⟩ | refine ⟨_, od_sub, ?_⟩ | refine ⟨_, od_lt, ?_⟩ | refine ⟨_, od_le, ?_⟩ | refine ⟨_, od_gt, ?_⟩ | refine ⟨_, od_ge, ?_⟩ | refine ⟨_, od_eqI, ?_⟩ | refine ⟨_, od_eqB, ?_⟩ | refine ⟨_, od_neB, ?_⟩
  | refine ⟨_, od_isN, ?_⟩ | refine ⟨_, od_addS (by assumption), ?_⟩ | refine ⟨_, od_inT, ?_⟩ | refine ⟨_, od_notN, ?_⟩ | refine ⟨_, od_inSign, ?_⟩ | refine ⟨_, od_notInSign, ?_⟩)
local macro_rules | `(tactic| walk_at "dwcd") => `(tactic| first
  | refine ⟨_, cd_len (by assumption), ?_⟩ | refine ⟨_, cd_lenS (by assumption), ?_⟩ | refine ⟨_, cd_abs, ?_⟩ | refine ⟨_, cd_intI, ?_⟩ | refine ⟨_, cd_intB, ?_⟩ | refine ⟨_, cd_all, ?_⟩ | refine ⟨_, cd_any, ?_⟩ | refine ⟨_, cd_sum, ?_⟩)
local macro_rules | `(tactic| walk_at "dwname") => `(tactic| first
  | refine ev_name (i := 0) rfl ?_ rfl (by walk_at "dwvis") | refine ev_name (i := 1) rfl ?_ rfl (by walk_at "dwvis")
  | refine ev_name (i := 2) rfl ?_ rfl (by walk_at "dwvis") | refine ev_name (i := 3) rfl ?_ rfl (by walk_at "dwvis")
  | refine ev_name (i := 4) rfl ?_ rfl (by walk_at "dwvis") | refine ev_name (i := 5) rfl ?_ rfl (by walk_at "dwvis") | refine ev_name (i := 6) rfl ?_ rfl (by walk_at "dwvis") | refine ev_name (i := 7) rfl ?_ rfl (by walk_at "dwvis") | refine ev_name (i := 8) rfl ?_ rfl (by walk_at "dwvis") | refine ev_name (i := 9) rfl ?_ rfl (by walk_at "dwvis") | refine ev_name (i := 10) rfl ?_ rfl (by walk_at "dwvis") | refine ev_name (i := 11) rfl ?_ rfl (by walk_at "dwvis")
  | refine ev_globD (by assumption) ?_ (by kernel_rfl))
local macro_rules | `(tactic| walk_at "dwcall") => `(tactic| first
  | refine ev_callH (by assumption) (Nat.le_of_ble_eq_true rfl) ?_ (by kernel_rfl)
  | refine ev_ex (ex_callB (id := "len") (x := "len") ?_ (by kernel_rfl) (Blt.len (by assumption)) PySem.boot_len)
  | refine ev_isi2 (n1 := "list") (n2 := "tuple") (T1 := "list") (T2 := "tuple") ?_ (by decide) (by kernel_rfl) (Blt.isinstance (by assumption)) (by kernel_rfl) (Blt.list (by assumption)) PyProof.Rows.boot_list (by kernel_rfl) (Blt.tuple (by assumption)) PyProof.Rows.boot_tuple
  | refine ev_isi (n := "int") (T := "int") ?_ (by decide) (by kernel_rfl) (Blt.isinstance (by assumption)) (by kernel_rfl) (Blt.int (by assumption)) PyProof.Rows.boot_int
  | refine ev_isi (n := "bool") (T := "bool") ?_ (by decide) (by kernel_rfl) (Blt.isinstance (by assumption)) (by kernel_rfl) (Blt.bool (by assumption)) PyProof.Rows.boot_bool
  | refine ev_isi (n := "str") (T := "str") ?_ (by decide) (by kernel_rfl) (Blt.isinstance (by assumption)) (by kernel_rfl) (Blt.str (by assumption)) PyProof.Rows.boot_str
  | refine ev_isi (n := "dict") (T := "dict") ?_ (by decide) (by kernel_rfl) (Blt.isinstance (by assumption)) (by kernel_rfl) (Blt.dict (by assumption)) PyProof.Rows.boot_dict
  | refine ev_ex (ex_callB (id := "all") (x := "all") ?_ (by kernel_rfl) (Blt.all (by assumption)) PyProof.Rows.boot_all)
  | refine ev_ex (ex_callB (id := "any") (x := "any") ?_ (by kernel_rfl) (Blt.any (by assumption)) PyProof.Rows.boot_any)
  | refine ev_ex (ex_callB (id := "abs") (x := "abs") ?_ (by kernel_rfl) (Blt.abs (by assumption)) PyProof.Rows.boot_abs)
  | refine ev_ex (ex_callTy (T := "int") (x := "int") ?_ (by kernel_rfl) (Blt.int (by assumption)) PyProof.Rows.boot_int))
local macro_rules | `(tactic| walk_at "dwset") => `(tactic| first
  | refine sd_set (i := 0) ?_ rfl (of_decide_eq_true (by kernel_rfl)) (loc_of (by kernel_rfl)) (loc_of (by kernel_rfl)) | refine sd_set (i := 1) ?_ rfl (of_decide_eq_true (by kernel_rfl)) (loc_of (by kernel_rfl)) (loc_of (by kernel_rfl)) | refine sd_set (i := 2) ?_ rfl (of_decide_eq_true (by kernel_rfl)) (loc_of (by kernel_rfl)) (loc_of (by kernel_rfl)) | refine sd_set (i := 3) ?_ rfl (of_decide_eq_true (by kernel_rfl)) (loc_of (by kernel_rfl)) (loc_of (by kernel_rfl)) | refine sd_set (i := 4) ?_ rfl (of_decide_eq_true (by kernel_rfl)) (loc_of (by kernel_rfl)) (loc_of (by kernel_rfl)) | refine sd_set (i := 5) ?_ rfl (of_decide_eq_true (by kernel_rfl)) (loc_of (by kernel_rfl)) (loc_of (by kernel_rfl)) | refine sd_set (i := 6) ?_ rfl (of_decide_eq_true (by kernel_rfl)) (loc_of (by kernel_rfl)) (loc_of (by kernel_rfl)) | refine sd_set (i := 7) ?_ rfl (of_decide_eq_true (by kernel_rfl)) (loc_of (by kernel_rfl)) (loc_of (by kernel_rfl)) | refine sd_set (i := 8) ?_ rfl (of_decide_eq_true (by kernel_rfl)) (loc_of (by kernel_rfl)) (loc_of (by kernel_rfl)) | refine sd_set (i := 9) ?_ rfl (of_decide_eq_true (by kernel_rfl)) (loc_of (by kernel_rfl)) (loc_of (by kernel_rfl)) | refine sd_set (i := 10) ?_ rfl (of_decide_eq_true (by kernel_rfl)) (loc_of (by kernel_rfl)) (loc_of (by kernel_rfl)) | refine sd_set (i := 11) ?_ rfl (of_decide_eq_true (by kernel_rfl)) (loc_of (by kernel_rfl)) (loc_of (by kernel_rfl)))
local macro_rules | `(tactic| walk_at "dwev") => `(tactic| first
  | (show EV _ (.Name _ _) _ _; walk_at "dwname")
  | (show EV _ (.Call _ _ _ _) _ _; walk_at "dwcall")
  | refine ev_int ?_ | refine ev_str ?_ | refine ev_ix ?_ | refine ev_tup ?_ | refine ev_ex (ex_cmp ?_) | refine ev_ex (ex_bin ?_)
  | refine ev_none ?_ | refine ev_bool ?_ | refine ev_and ?_ | refine ev_or ?_ | refine ev_one ?_ | refine ev_not ?_
  | refine ev_chain ?_ | refine ev_ex (ex_un ?_) | refine ev_ex (ex_ifExp ?_) | refine ev_ex (ex_lst ?_))
local macro_rules | `(tactic| walk_at "dw1") => `(tactic| first
  | (show SDs _ _ _ _; first | refine sds_cons ?_ | refine sds_nil ?_)
  | (show SD _ _ _ _; first | refine sd_ret ?_ | refine sd_if ?_ | walk_at "dwset")
  | (show EV _ _ _ _; walk_at "dwev")
  | (show EVs _ _ _ _; first | refine evs_nil ?_ | refine evs_cons ?_)
  | (show EX _ _ _ _; first | refine ex_ifExp ?_ | refine ex_lst ?_ | refine ex_ev ?_)
  | (show ET _ _ _ _; first | refine et_cmp ?_ | refine et_not ?_ | refine et_bo ?_ | refine et_val ?_)
  | (show EW _ _ _ _; first | refine ew_and ?_ | refine ew_or ?_ | refine ew_and1 ?_ | refine ew_or1 ?_)
  | (show ∃ d, IxD _ _ _ d ∧ _; first | refine ⟨_, ix_i (by first | rfl | assumption) (by first | exact atI0 | exact atI1 | exact atI2 | rfl | assumption), ?_⟩ | refine ⟨_, ix_s (by assumption) (by first | assumption | rfl), ?_⟩)
  | (show ∃ Qr, CallD _ _ _ Qr ∧ _; walk_at "dwcd")
  | (show ∃ Qr, BinD _ _ _ _ Qr ∧ _; walk_at "dwbin")
  | (show ∃ Qr, CmpD _ _ _ _ Qr ∧ _; walk_at "dwbin")
  | (show ∃ t, CmpD _ _ _ _ (· = .sh (.bool t)) ∧ _; walk_at "dwbin")
  | (show ∀ r, r = _ → _; intro r hr; subst hr) | refine fun (_ : ∀ (p : Addr) (o : OD), _ = Sl.own p o → _) => ?_
  | refine ⟨_, rfl, ?_⟩ | refine ⟨rfl, ?_⟩ | refine ⟨trivial, ?_⟩
  | refine ⟨Nat.le_of_ble_eq_true rfl, ?_⟩ | refine fun (_ : Addr) (_ : _ ∉ owns _) => ?_ | refine ⟨by decide, ?_⟩
  | refine iteHT rfl ?_ | refine iteHF rfl ?_)
local macro_rules | `(tactic| walk_at "dw") => `(tactic| repeat (walk_at "dw1"))

variable {G : Pg} {f : Addr} {fd : FuncData} {SG LT FG : Str} {GR : Int} {CS CV : Addr}
abbrev nmS (LT FG : Str) : Str → Bool := nameZ LT FG
def COne (LT FG : Str) (GR : Int) : List PD → List PD → Prop := fun xs ds => SOk (2 ^ 27) xs ∧ ∃ t kvs, ds = [tupOf t, .dict kvs] ∧ Okt (nmS LT FG) GR TW8 t ∧ dpT t ≤ 3 ∧ HeldOk kvs
def POne : List PD → List PD → PD → List PD → Prop := fun xs ds d xs' => d = .bool true ∧ ∀ m, SOk m xs → SOk (m + 1100) xs'
/-- what is told of a sum that is right -/
theorem tsum_right (C : Kon LT FG SG) (hGR : GR = 999999999) {t : Tm} {d : PD} {kvs : List (PD × PD)} {Qd : RS → List Sl → Prop} {Ed : ED} (hd : Is t d) (ho : Okt (nmS LT FG) GR TW8 t) (h3 : dpT t ≤ 3) (hk : HeldOk kvs) (q : Qd (.sh (resPD (evT (numH kvs) t))) [.sh d, .sh (.dict kvs)]) :
    TSum LT FG SG GR TW8 (nmS LT FG) CS CV [.sh d, .sh (.dict kvs)] Qd Ed := by
  have hs := size15 h3
  have hf := fits_tm (LT := LT) (FG := FG) hGR hd ho
  have hv := hk.valsP C
  refine ⟨d, _, rfl, ?_, hk.cvals, fun h => ?_, fun _ h => ?_, fun _ _ => ⟨⟨t, d, kvs, rfl, hd, ho, hk.okH, ?_, by omega⟩, ?_⟩⟩
  · have := sz_tm C.nm hd ho
    omega
  · rw [hf] at h; cases h
  · rw [hv] at h; cases h
  · have := lv_size t
    omega
  · rw [cntM_of hd]
    exact q
theorem res_sm {N : Str → Option Int} {nm : Str → Bool} {TW : List Str} {t : Tm} (o : Okt nm GR TW t) : Sm 2 (resPD (evT N t)) := by
  cases h : evT N t with
  | ok n => exact .inr (.inl ⟨_, rfl, by simp, fun x hx => by
      simp only [List.mem_cons, List.not_mem_nil, or_false] at hx
      rcases hx with rfl | rfl <;> exact .inl rfl⟩)
  | error e =>
    refine .inr (.inl ⟨_, rfl, by simp, fun x hx => ?_⟩)
    simp only [List.mem_cons, List.not_mem_nil, or_false] at hx
    rcases hx with rfl | rfl
    · exact .inl rfl
    · rcases evT_err o h with ⟨z, _, rfl⟩ | rfl
      · refine .inr (.inl ⟨_, rfl, by simp, fun y hy => ?_⟩)
        simp only [List.mem_cons, List.not_mem_nil, or_false] at hy
        rcases hy with rfl | rfl <;> exact rfl
      · refine .inr (.inl ⟨_, rfl, by simp, fun y hy => ?_⟩)
        simp only [List.mem_cons, List.not_mem_nil, or_false] at hy
        subst hy
        exact rfl
theorem ok_one_right (B : Blt G.mg) (hgd : G.gd = true) (hsys : ∃ o, G.base.get? sysModules = some o) (C : Kon LT FG SG) (hGR : GR = 999999999)
    (hL : LHas G 4) (hM : Has G "_law_mixed" P__law_mixed 2 (StN 1 CMix PMix)) (hW : THas G 3 (nmS LT FG) GR) (hS : SHas G 3)
    (hV : Has G "sum_value" P_sum_value 8 (TSum LT FG SG GR TW8 (nmS LT FG) CS CV)) (hVK : HasK G "sum_value" P_sum_value ["held", "total"] [1, 0] 8 (TSum LT FG SG GR TW8 (nmS LT FG) CS CV))
    (F : Fun G.K "_law_one_right" "_law_one_right" s__law_one_right f fd) : FnG G 9 f fd P__law_one_right (SpD G.K G.Tb (StN 2 (COne LT FG GR) POne)) := by
  refine fn_st F sc__law_one_right rfl fun W Z p xs ds hl hC => ?_
  obtain ⟨hs, t, kvs, rfl, ho, hd3, hk⟩ := hC
  show SDs _ _ [.own p (.lst xs), .sh (tupOf t), .sh (.dict kvs), .no, .no, .no] _
  have hN4 : nodeN 4 = 40 := rfl
  refine sds_cons (sd_par (i := 3) (j := 4) (ex2 (ex_lst (evs_cons ?_))) (of_decide_eq_true (by kernel_rfl)) rfl rfl (by decide) (by kernel_rfl) (by kernel_rfl) (fun X g => by have h := g.sc; revert h; generalize X.env = e; intro h; cases e; cases h; kernel_rfl))
  refine ev_callS (i := 0) hL (show 4 + 2 ≤ 8 by omega) ⟨_, _, rfl, ?_⟩ (by kernel_rfl) rfl (by walk_at "dwvis")
  walk_at "dw"
  refine ⟨⟨2 ^ 27, hs, by omega, _, rfl, Tr_tm t 4 (by omega)⟩, fun d' st1 hpd => ?_⟩
  obtain ⟨hp1, hp2⟩ := hpd
  have hI : Is t d' := Lo_Is t (n := 4) (by omega) (hp2 _ rfl)
  have hS1 : ∀ m, SOk m xs → SOk (m + 40) st1 := hp1
  show EVs _ _ [.own p (.lst st1), .sh (tupOf t), .sh (.dict kvs), .no, .no, .no] _
  refine evs_cons (ev_ex (ex_callTy (T := "dict") (x := "dict") (evs_cons ?_) (by kernel_rfl) (Blt.dict (by assumption)) PyProof.Rows.boot_dict))
  refine ev_callS (i := 0) hM (show 2 ≤ 8 by omega) ⟨_, _, rfl, ?_⟩ (by kernel_rfl) rfl (by walk_at "dwvis")
  refine evs_cons (ev_ex (ex_items ?_ (by kernel_rfl) (Blt.list (by assumption))))
  walk_at "dw"
  intro l
  refine ⟨_, rfl, ?_⟩
  walk_at "dw"
  refine ⟨⟨(hS1 _ hs).mono (by omega), _, _, rfl, rfl, ?_, hk.shp⟩, fun dl st2 hpd => ?_⟩
  · unfold itemsP
    rw [List.length_map]
    have := hk.1
    omega
  obtain ⟨hq1, hq2⟩ := hpd
  obtain ⟨l', rfl, hperm⟩ := hq2 _ _ rfl rfl
  obtain ⟨kvs', rfl, hp'⟩ := perm_items hperm
  have hk' := hk.perm hp'
  have hS2 : ∀ m, SOk m xs → SOk (m + 1040) st2 := fun m hm => (hq1 _ (hS1 m hm)).mono (by omega)
  show EVs _ _ [.own p (.lst st2), .sh (tupOf t), .sh (.dict kvs), .no, .no, .no] _
  refine evs_nil ⟨_, cd_dict (fun q hq => ?_), fun r hr hown => ?_⟩
  · obtain ⟨z, hz⟩ := hk'.keyed.2 q hq
    rw [hz]
    exact ⟨_, rfl⟩
  obtain ⟨p7, rfl⟩ := hr
  refine ⟨_, rfl, ?_⟩
  rw [fold_put kvs' [] hk'.keyed, List.nil_append]
  refine evs_nil ⟨Nat.le_of_ble_eq_true rfl, fun p8 hp8 => ⟨(fun rv h => by cases h), ?_⟩⟩
  refine ex_ev (ev_callH hW (show 2 + 3 ≤ 8 by omega) ?_ (by kernel_rfl))
  walk_at "dw"
  refine ⟨⟨t, kvs, rfl, hd3, ho, hk.okH, by have := lv_size t; have := size15 hd3; omega⟩, (fun rv h => by cases h), fun _ => ?_⟩
  rw [cntM_of (Is_tup t)]
  have hnum : numH kvs' = numH kvs := numH_perm hp' hk'.keyed
  have hsm : Sm 2 (resPD (evT (numH kvs) t)) := res_sm ho
  generalize hdue : resPD (evT (numH kvs) t) = due at hsm ⊢
  show SDs _ _ [.own p (.lst st2), .sh (tupOf t), .sh (.dict kvs), .own p8 (.lst [d', .dict kvs']), .sh due, .no] _
  have hsh1 := shown_tm C.nm hGR hI ho
  have hsh2 := hk'.shown
  have hsz := size15 hd3
  have hli : items (.list [d', .dict kvs']) = some [d', .dict kvs'] := rfl
  refine sds_cons (sd_set (i := 5) (ex_callB (id := "repr") (x := "repr") (evs_cons (ev_nameF (i := 3) rfl ?_ rfl (by walk_at "dwvis"))) (by kernel_rfl) (Blt.repr (by assumption)) PyProof.Rows.boot_repr) rfl (of_decide_eq_true (by kernel_rfl)) (loc_of (by kernel_rfl)) (loc_of (by kernel_rfl)))
  have hshow : (PyData.list [d', .dict kvs']).showable = true := by
    have h1 := showable_tm hGR hI ho
    have h2 := (kv_showable hk'.2.2.1 hk'.2.2.2).1
    simp [PyData.showable, PyData.showableAll, h1, h2]
  have hdep : (PyData.list [d', .dict kvs']).depth ≤ 60 := by
    have h1 := depth_tm hI
    have h2 := (kv_showable hk'.2.2.1 hk'.2.2.2).2
    simp [PyData.depth, PyData.depthAll, h2]
    omega
  have hlen : (PyData.list [d', .dict kvs']).shown.length ≤ 100000 := by
    have h := seq_shown hli
    rw [pl2] at h
    omega
  refine evs_nil ⟨_, cd_repr hgd hsys hshow hdep hlen, fun r hr hown => ?_⟩
  subst hr
  generalize hT : (PyData.list [d', .dict kvs']).shown = T
  show SDs _ _ [.own p (.lst st2), .sh (tupOf t), .sh (.dict kvs), .sh (.list [d', .dict kvs']), .sh due, .sh (.str T)] _
  refine sds_cons (sd_if (et_not (et_val (ev_callH hS (show 3 + 1 ≤ 8 by omega) (evs_cons (ev_ex (ex_lst (evs_cons ?_)))) (by kernel_rfl)))))
  refine ev_ex (ex_callH hV (Nat.le_refl _) (eas_evs ?_) (by kernel_rfl))
  walk_at "dw"
  refine ⟨by rw [lends_sh]; exact List.nodup_nil, tsum_right C hGR hI ho hd3 hk' ⟨back_sh [d', .dict kvs'], _, rfl, ?_⟩⟩
  rw [hnum, hdue]
  show EVs _ _ [.own p (.lst st2), .sh (tupOf t), .sh (.dict kvs), .sh (.list [d', .dict kvs']), .sh due, .sh (.str T)] _
  obtain ⟨f2, fd2, g2, m2, k2, b2⟩ := hVK.ex
  refine evs_cons (ev_ex (ex_callK [1, 0] g2 (Nat.le_refl _) m2 k2 b2 (eks_cons ?_) (by kernel_rfl)))
  walk_at "dw"
  refine eks_cons ?_
  walk_at "dw"
  refine eks_nil ⟨rfl, tsum_right C hGR (Is_tup t) ho hd3 hk ⟨rfl, _, rfl, ?_⟩⟩
  rw [hdue]
  walk_at "dw"
  refine ⟨⟨_, rfl, .inr (.inl ⟨_, rfl, by simp, fun x hx => ?_⟩)⟩, ?_⟩
  · simp only [List.mem_cons, List.not_mem_nil, or_false] at hx
    rcases hx with rfl | rfl <;> exact hsm
  walk_at "dw"
  refine ev_ex (ex_callB (id := "repr") (x := "repr") ?_ (by kernel_rfl) (Blt.repr (by assumption)) PyProof.Rows.boot_repr)
  walk_at "dw"
  refine ⟨_, cd_repr hgd hsys hshow hdep hlen, fun r hr hown => ?_⟩
  subst hr
  rw [hT]
  walk_at "dw"
  refine ⟨_, st2, rfl, rfl, ?_, fun m hm => (hS2 m hm).mono (by omega)⟩
  exact congrArg PyData.bool (decide_eq_true rfl)
end K8

/-! K9e: what is no sum, no dict of values. -/
namespace K8
open PySem PySem.Spec PyProof.Rows L2 Dw
def o1 : List PD := [.none, .int 5, .str "x", .list [], .tuple [], .dict [], .bool true, .tuple [.str "number"], .tuple [.str "number", .int (-1)], .tuple [.str "number", .bool true], .tuple [.str "number", .str "1"], .tuple [.str "nought"]]
def o2 : List PD := [.tuple [.str "number", .int (10 ^ 9)], .tuple [.str "number", .int 1, .int 2], .tuple [.str "name", .str "X"], .tuple [.str "name", .int 5], .tuple [.str "name"], .tuple [.str "name", .str "ninesigns"]]
def o3 (T : PD) : List PD := [.tuple [.str "less"], .tuple [.str "less", T, T], .tuple [.str "+", T], .tuple [.str "+", T, T, T], .tuple [.str "!", T, T]]
def o4 (T : PD) : List PD := [.tuple [.str "*", T, .none], .tuple [.str "<", .none, T], .tuple [.str "less", .int 5], .tuple [.list [.str "number"], .int 1], .tuple [.str "==", T, T]]
variable {LT FG SG : Str} {GR : Int}
def Bad (LT FG : Str) (GR : Int) (o : PD) : Prop := fitsS LT FG GR TW8 o = false ∧ szP o ≤ 3000 ∧ Sm 6 o
theorem bad_seq {d : PD} {xs : List PD} (hi : items d = some xs) (hk : kindsL LT FG GR TW8 xs = none) : fitsS LT FG GR TW8 d = false := by
  rw [fitsS_items hi, hk]
theorem sm_flat {n : Nat} {d : PD} (h : flatB d = true) : Sm n d := by
  cases n with
  | zero => exact h
  | succ n => exact .inl h
theorem sm_tup {n : Nat} {xs : List PD} (hl : xs.length ≤ 100000) (h : ∀ x ∈ xs, Sm n x) : Sm (n + 1) (.tuple xs) := .inr (.inl ⟨xs, rfl, hl, h⟩)
theorem sm_lst {n : Nat} {xs : List PD} (hl : xs.length ≤ 100000) (h : ∀ x ∈ xs, Sm n x) : Sm (n + 1) (.list xs) := .inr (.inl ⟨xs, rfl, hl, h⟩)
theorem Sm_tm : ∀ t : Tm, Sm (dpT t + 1) (tupOf t)
  | .num m => sm_tup (by simp) fun x hx => by
    simp only [List.mem_cons, List.not_mem_nil, or_false] at hx
    rcases hx with rfl | rfl <;> exact sm_flat rfl
  | .nam z => sm_tup (by simp) fun x hx => by
    simp only [List.mem_cons, List.not_mem_nil, or_false] at hx
    rcases hx with rfl | rfl <;> exact sm_flat rfl
  | .less a => sm_tup (by simp) fun x hx => by
    simp only [List.mem_cons, List.not_mem_nil, or_false] at hx
    rcases hx with rfl | rfl
    · exact sm_flat rfl
    · exact Sm_tm a
  | .two w a b => sm_tup (by simp) fun x hx => by
    simp only [List.mem_cons, List.not_mem_nil, or_false] at hx
    rcases hx with rfl | rfl | rfl
    · exact sm_flat rfl
    · exact (Sm_tm a).mono (by show dpT a + 1 ≤ max (dpT a) (dpT b) + 1; omega)
    · exact (Sm_tm b).mono (by show dpT b + 1 ≤ max (dpT a) (dpT b) + 1; omega)
structure Kon2 (LT FG : Str) : Prop where
  X : nameP LT FG (.str "X") = false
  nine : nameP LT FG (.str "ninesigns") = false
theorem bad1 : ∀ o ∈ o1, Bad LT FG GR o := by
  intro o ho
  unfold o1 at ho
  simp only [List.mem_cons, List.not_mem_nil, or_false] at ho
  have n1 : szP (.str "number") ≤ 100 := by decide +kernel
  rcases ho with rfl | rfl | rfl | rfl | rfl | rfl | rfl | rfl | rfl | rfl | rfl | rfl
  · exact ⟨by simp only [fitsS], by decide +kernel, sm_flat rfl⟩
  · exact ⟨by simp only [fitsS], by decide +kernel, sm_flat rfl⟩
  · exact ⟨by simp only [fitsS], by decide +kernel, sm_flat rfl⟩
  · exact ⟨bad_seq rfl rfl, by decide +kernel, sm_lst (by simp) (by simp)⟩
  · exact ⟨bad_seq rfl rfl, by decide +kernel, sm_tup (by simp) (by simp)⟩
  · exact ⟨by simp only [fitsS], by decide +kernel, .inr (.inr ⟨[], rfl, by simp, sm_lst (n := 4) (by simp [itemsP]) (by simp [itemsP])⟩)⟩
  · exact ⟨by simp only [fitsS], by decide +kernel, sm_flat rfl⟩
  · exact ⟨bad_seq rfl (by rw [kl_num]), by decide +kernel, sm_tup (by simp) (by simp; exact sm_flat rfl)⟩
  · exact ⟨bad_seq rfl (by rw [kl_num]; simp [isNT]), by decide +kernel, sm_tup (by simp) (by simp; exact ⟨sm_flat rfl, sm_flat rfl⟩)⟩
  · exact ⟨bad_seq rfl (by rw [kl_num]; simp [isNT]), by decide +kernel, sm_tup (by simp) (by simp; exact ⟨sm_flat rfl, sm_flat rfl⟩)⟩
  · exact ⟨bad_seq rfl (by rw [kl_num]; simp [isNT]), by decide +kernel, sm_tup (by simp) (by simp; exact ⟨sm_flat rfl, sm_flat rfl⟩)⟩
  · exact ⟨bad_seq rfl (by rw [kl_two (by decide +kernel) (by decide +kernel) (by decide +kernel), if_neg (by decide +kernel)]), by decide +kernel, sm_tup (by simp) (by simp; exact sm_flat rfl)⟩
theorem bad2 (K : Kon2 LT FG) (hGR : GR = 999999999) : ∀ o ∈ o2, Bad LT FG GR o := by
  intro o ho
  unfold o2 at ho
  simp only [List.mem_cons, List.not_mem_nil, or_false] at ho
  rcases ho with rfl | rfl | rfl | rfl | rfl | rfl
  · exact ⟨bad_seq rfl (by rw [kl_num, hGR]; rfl), by decide +kernel, sm_tup (by simp) (by simp; exact ⟨sm_flat rfl, sm_flat rfl⟩)⟩
  · exact ⟨bad_seq rfl (by rw [kl_num]), by decide +kernel, sm_tup (by simp) (by simp; exact ⟨sm_flat rfl, sm_flat rfl, sm_flat rfl⟩)⟩
  · exact ⟨bad_seq rfl (by rw [kl_name]; simp [K.X]), by decide +kernel, sm_tup (by simp) (by simp; exact ⟨sm_flat rfl, sm_flat rfl⟩)⟩
  · exact ⟨bad_seq rfl (by rw [kl_name]; simp [nameP]), by decide +kernel, sm_tup (by simp) (by simp; exact ⟨sm_flat rfl, sm_flat rfl⟩)⟩
  · exact ⟨bad_seq rfl (by rw [kl_name]), by decide +kernel, sm_tup (by simp) (by simp; exact sm_flat rfl)⟩
  · exact ⟨bad_seq rfl (by rw [kl_name]; simp [K.nine]), by decide +kernel, sm_tup (by simp) (by simp; exact ⟨sm_flat rfl, sm_flat rfl⟩)⟩
theorem szs {w : Str} {a : Nat} (h : 1 + w.length ≤ a) : szP (.str w) ≤ a := h
theorem bad3 {T : PD} (h1 : szP T ≤ 500) (h2 : Sm 4 T) : ∀ o ∈ o3 T, Bad LT FG GR o := by
  intro o ho
  unfold o3 at ho
  simp only [List.mem_cons, List.not_mem_nil, or_false] at ho
  have l1 : szP (.str "less") ≤ 10 := by decide +kernel
  have l2 : szP (.str "+") ≤ 10 := by decide +kernel
  have l3 : szP (.str "!") ≤ 10 := by decide +kernel
  have h5 : Sm 5 T := h2.up
  rcases ho with rfl | rfl | rfl | rfl | rfl
  · exact ⟨bad_seq rfl (by rw [kl_less]), by decide +kernel, sm_tup (by simp) (by simp; exact sm_flat rfl)⟩
  · refine ⟨bad_seq rfl (by rw [kl_less]), ?_, sm_tup (by simp) (by simp; exact ⟨sm_flat rfl, h5⟩)⟩
    rw [szP_items (show items _ = some _ from rfl)]; simp only [szL]; omega
  · refine ⟨bad_seq rfl (by rw [kl_two (by decide +kernel) (by decide +kernel) (by decide +kernel), if_pos (by decide +kernel)]), ?_, sm_tup (by simp) (by simp; exact ⟨sm_flat rfl, h5⟩)⟩
    rw [szP_items (show items _ = some _ from rfl)]; simp only [szL]; omega
  · refine ⟨bad_seq rfl (by rw [kl_two (by decide +kernel) (by decide +kernel) (by decide +kernel), if_pos (by decide +kernel)]), ?_, sm_tup (by simp) (by simp; exact ⟨sm_flat rfl, h5⟩)⟩
    rw [szP_items (show items _ = some _ from rfl)]; simp only [szL]; omega
  · refine ⟨bad_seq rfl (by rw [kl_two (by decide +kernel) (by decide +kernel) (by decide +kernel), if_neg (by decide +kernel)]), ?_, sm_tup (by simp) (by simp; exact ⟨sm_flat rfl, h5⟩)⟩
    rw [szP_items (show items _ = some _ from rfl)]; simp only [szL]; omega
theorem fits_no {w : Str} {T : PD} {a b : PD} (hw : inStrs w TW8 = true) (h1 : w ≠ "number") (h2 : w ≠ "name") (h3 : w ≠ "less") (h : fitsS LT FG GR TW8 a = false ∨ fitsS LT FG GR TW8 b = false) : fitsS LT FG GR TW8 (.tuple [.str w, a, b]) = false := by
  rw [fitsS_items (show items _ = some _ from rfl), kl_two h1 h2 h3, if_pos hw]
  simp only [fitsK]
  rw [show decide (("sum" : Str) = "leaf") = false by decide +kernel]
  rcases h with h | h <;> rw [h] <;> simp
theorem bad4 {T : PD} (h1 : szP T ≤ 500) (h2 : Sm 4 T) : ∀ o ∈ o4 T, Bad LT FG GR o := by
  intro o ho
  unfold o4 at ho
  simp only [List.mem_cons, List.not_mem_nil, or_false] at ho
  have l1 : szP (.str "*") ≤ 10 := by decide +kernel
  have l2 : szP (.str "<") ≤ 10 := by decide +kernel
  have l3 : szP (.str "==") ≤ 10 := by decide +kernel
  have l4 : szP PyData.none ≤ 10 := by decide +kernel
  have h5 : Sm 5 T := h2.up
  have fN : fitsS LT FG GR TW8 PyData.none = false := by simp only [fitsS]
  rcases ho with rfl | rfl | rfl | rfl | rfl
  · refine ⟨fits_no (T := T) (by decide +kernel) (by decide +kernel) (by decide +kernel) (by decide +kernel) (.inr fN), ?_, sm_tup (by simp) (by simp; exact ⟨sm_flat rfl, h5, sm_flat rfl⟩)⟩
    rw [szP_items (show items _ = some _ from rfl)]; simp only [szL]; omega
  · refine ⟨fits_no (T := T) (by decide +kernel) (by decide +kernel) (by decide +kernel) (by decide +kernel) (.inl fN), ?_, sm_tup (by simp) (by simp; exact ⟨sm_flat rfl, sm_flat rfl, h5⟩)⟩
    rw [szP_items (show items _ = some _ from rfl)]; simp only [szL]; omega
  · refine ⟨?_, by decide +kernel, sm_tup (by simp) (by simp; exact ⟨sm_flat rfl, sm_flat rfl⟩)⟩
    rw [fitsS_items (show items _ = some _ from rfl), kl_less]
    simp only [fitsK, fitsS]
    rw [show decide (("sum" : Str) = "leaf") = false by decide +kernel]
    simp
  · exact ⟨bad_seq rfl rfl, by decide +kernel, sm_tup (by simp) (by simp; exact ⟨sm_lst (by simp) (by simp; exact sm_flat rfl), sm_flat rfl⟩)⟩
  · refine ⟨bad_seq rfl (by rw [kl_two (by decide +kernel) (by decide +kernel) (by decide +kernel), if_neg (by decide +kernel)]), ?_, sm_tup (by simp) (by simp; exact ⟨sm_flat rfl, h5⟩)⟩
    rw [szP_items (show items _ = some _ from rfl)]; simp only [szL]; omega
theorem bad_plus {T o : PD} (h1 : szP T ≤ 500) (h2 : Sm 4 T) (h : Bad LT FG GR o) : fitsS LT FG GR TW8 (.tuple [.str "+", T, o]) = false ∧ szP (.tuple [.str "+", T, o]) ≤ 100000 ∧ Sm 7 (.tuple [.str "+", T, o]) := by
  obtain ⟨b1, b2, b3⟩ := h
  have l2 : szP (.str "+") ≤ 10 := by decide +kernel
  refine ⟨fits_no (T := T) (by decide +kernel) (by decide +kernel) (by decide +kernel) (by decide +kernel) (.inr b1), ?_, sm_tup (by simp) (by simp; exact ⟨sm_flat rfl, h2.up.up, b3⟩)⟩
  rw [szP_items (show items _ = some _ from rfl)]; simp only [szL]; omega
/-- no dicts of values -/
def v1 : List PD := [.none, .int 5, .list [], .str "x", .bool true, .dict [(.str "X", .str "1")], .dict [(.int 5, .str "1")], .dict [(.str "x", .int 5)], .dict [(.str "x", .none)], .dict [(.str "x", .list [.str "1"])], .dict [(.str "", .str "1")]]
def BadV (LT FG SG : Str) (o : PD) : Prop := valsP LT FG SG o = false ∧ CVals [o] ∧ Sm 6 o
structure Kon3 (LT FG SG : Str) : Prop where
  e : nameP LT FG (.str "") = false
theorem sm_d1 {k v : PD} (h1 : Sm 3 k) (h2 : Sm 3 v) : Sm 6 (.dict [(k, v)]) := .inr (.inr ⟨_, rfl, by simp, sm_lst (by simp [itemsP]) (by simp only [itemsP, List.map_cons, List.map_nil, List.mem_singleton]; rintro x rfl; exact sm_tup (by simp) (by simp; exact ⟨h1, h2⟩))⟩)
theorem cv_flat {o : PD} (h : ∀ kvs, o ≠ .dict kvs) : CVals [o] := fun kvs e => absurd e (h kvs)
theorem cv_d1 {k v : PD} (h1 : ∀ z, k = .str z → z.length ≤ 100000) (h2 : ∀ z, v = .str z → z.length ≤ 100000) : CVals [.dict [(k, v)]] := fun kvs e => by
  cases (show PyData.dict [(k, v)] = .dict kvs from e)
  refine ⟨by simp, fun q hq => ?_⟩
  rw [List.mem_singleton] at hq
  subst hq
  exact ⟨h1, h2⟩
theorem badv (K : Kon2 LT FG) (K3 : Kon3 LT FG SG) : ∀ o ∈ v1, BadV LT FG SG o := by
  intro o ho
  unfold v1 at ho
  simp only [List.mem_cons, List.not_mem_nil, or_false] at ho
  have s1 : ∀ z, PyData.str "X" = .str z → z.length ≤ 100000 := fun z e => by cases e; decide +kernel
  have s2 : ∀ z, PyData.str "1" = .str z → z.length ≤ 100000 := fun z e => by cases e; decide +kernel
  have s3 : ∀ z, PyData.str "x" = .str z → z.length ≤ 100000 := fun z e => by cases e; decide +kernel
  have s4 : ∀ z, PyData.str "" = .str z → z.length ≤ 100000 := fun z e => by cases e; decide +kernel
  rcases ho with rfl | rfl | rfl | rfl | rfl | rfl | rfl | rfl | rfl | rfl | rfl
  · exact ⟨rfl, cv_flat (by intro k e; cases e), sm_flat rfl⟩
  · exact ⟨rfl, cv_flat (by intro k e; cases e), sm_flat rfl⟩
  · exact ⟨rfl, cv_flat (by intro k e; cases e), sm_lst (by simp) (by simp)⟩
  · exact ⟨rfl, cv_flat (by intro k e; cases e), sm_flat rfl⟩
  · exact ⟨rfl, cv_flat (by intro k e; cases e), sm_flat rfl⟩
  · exact ⟨by simp [valsP, K.X], cv_d1 s1 s2, sm_d1 (sm_flat rfl) (sm_flat rfl)⟩
  · exact ⟨by simp [valsP, nameP], cv_d1 (by intro z e; cases e) s2, sm_d1 (sm_flat rfl) (sm_flat rfl)⟩
  · exact ⟨by simp [valsP, textP, strOf], cv_d1 s3 (by intro z e; cases e), sm_d1 (sm_flat rfl) (sm_flat rfl)⟩
  · exact ⟨by simp [valsP, textP, strOf], cv_d1 s3 (by intro z e; cases e), sm_d1 (sm_flat rfl) (sm_flat rfl)⟩
  · exact ⟨by simp [valsP, textP, strOf], cv_d1 s3 (by intro z e; cases e), sm_d1 (sm_flat rfl) (sm_lst (by simp) (by simp; exact sm_flat rfl))⟩
  · exact ⟨by simp [valsP, K3.e], cv_d1 s4 s2, sm_d1 (sm_flat rfl) (sm_flat rfl)⟩
end K8

namespace K8
open PySem PySem.Spec PyProof.Rows L2 Dw
section
variable {Γ : Gm} {env : List Sl} {tg iter : Expr}
theorem IT.imp {Qi Qi' : List PD → List Sl → Prop} (h : IT Γ tg iter env Qi) (hq : ∀ ds e, Qi ds e → Qi' ds e) : IT Γ tg iter env Qi' := ⟨fun F R H σ P E w k => h.run F R H σ P E w fun ds env' J F' H' q => k ds env' J F' H' (hq _ _ q)⟩
end
local macro_rules | `(tactic| walk_at "dwvis") => `(tactic| exact vis_of (by kernel_rfl))
local macro_rules | `(tactic| walk_at "dwbin") => `(tactic| first
  | refine ⟨_, od_eqS, ?_⟩ | refine ⟨_, od_neS, ?_⟩ | refine ⟨_, od_add, ?_⟩ | refine ⟨_, od_sub, ?_⟩ | refine ⟨_, od_lt, ?_⟩ | refine ⟨_, od_le, ?_⟩ | refine ⟨_, od_gt, ?_⟩ | refine ⟨_, od_ge, ?_⟩ | refine ⟨_, od_eqI, ?_⟩ | refine ⟨_, od_eqB, ?_⟩ | refine ⟨_, od_neB, ?_⟩
  | refine ⟨_, od_isN, ?_⟩ | refine ⟨_, od_addS (by assumption), ?_⟩ | refine ⟨_, od_inT, ?_⟩ | refine ⟨_, od_notN, ?_⟩ | refine ⟨_, od_inSign, ?_⟩ | refine ⟨_, od_notInSign, ?_⟩)
local macro_rules | `(tactic| walk_at "dwcd") => `(tactic| first
  | refine ⟨_, cd_len (by assumption), ?_⟩ | refine ⟨_, cd_lenS (by assumption), ?_⟩ | refine ⟨_, cd_abs, ?_⟩ | refine ⟨_, cd_intI, ?_⟩ | refine ⟨_, cd_intB, ?_⟩ | refine ⟨_, cd_all, ?_⟩ | refine ⟨_, cd_any, ?_⟩ | refine ⟨_, cd_sum, ?_⟩)
local macro_rules | `(tactic| walk_at "dwname") => `(tactic| first
  | refine ev_name (i := 0) rfl ?_ rfl (by walk_at "dwvis") | refine ev_name (i := 1) rfl ?_ rfl (by walk_at "dwvis")
  | refine ev_name (i := 2) rfl ?_ rfl (by walk_at "dwvis") | refine ev_name (i := 3) rfl ?_ rfl (by walk_at "dwvis")
  | refine ev_name (i := 4) rfl ?_ rfl (by walk_at "dwvis") | refine ev_name (i := 5) rfl ?_ rfl (by walk_at "dwvis") | refine ev_name (i := 6) rfl ?_ rfl (by walk_at "dwvis") | refine ev_name (i := 7) rfl ?_ rfl (by walk_at "dwvis") | refine ev_name (i := 8) rfl ?_ rfl (by walk_at "dwvis") | refine ev_name (i := 9) rfl ?_ rfl (by walk_at "dwvis") | refine ev_name (i := 10) rfl ?_ rfl (by walk_at "dwvis") | refine ev_name (i := 11) rfl ?_ rfl (by walk_at "dwvis")
  | refine ev_globD (by assumption) ?_ (by kernel_rfl))
local macro_rules | `(tactic| walk_at "dwcall") => `(tactic| first
  | refine ev_callH (by assumption) (Nat.le_of_ble_eq_true rfl) ?_ (by kernel_rfl)
  | refine ev_ex (ex_callB (id := "len") (x := "len") ?_ (by kernel_rfl) (Blt.len (by assumption)) PySem.boot_len)
  | refine ev_isi2 (n1 := "list") (n2 := "tuple") (T1 := "list") (T2 := "tuple") ?_ (by decide) (by kernel_rfl) (Blt.isinstance (by assumption)) (by kernel_rfl) (Blt.list (by assumption)) PyProof.Rows.boot_list (by kernel_rfl) (Blt.tuple (by assumption)) PyProof.Rows.boot_tuple
  | refine ev_isi (n := "int") (T := "int") ?_ (by decide) (by kernel_rfl) (Blt.isinstance (by assumption)) (by kernel_rfl) (Blt.int (by assumption)) PyProof.Rows.boot_int
  | refine ev_isi (n := "bool") (T := "bool") ?_ (by decide) (by kernel_rfl) (Blt.isinstance (by assumption)) (by kernel_rfl) (Blt.bool (by assumption)) PyProof.Rows.boot_bool
  | refine ev_isi (n := "str") (T := "str") ?_ (by decide) (by kernel_rfl) (Blt.isinstance (by assumption)) (by kernel_rfl) (Blt.str (by assumption)) PyProof.Rows.boot_str
  | refine ev_isi (n := "dict") (T := "dict") ?_ (by decide) (by kernel_rfl) (Blt.isinstance (by assumption)) (by kernel_rfl) (Blt.dict (by assumption)) PyProof.Rows.boot_dict
  | refine ev_ex (ex_callB (id := "all") (x := "all") ?_ (by kernel_rfl) (Blt.all (by assumption)) PyProof.Rows.boot_all)
  | refine ev_ex (ex_callB (id := "any") (x := "any") ?_ (by kernel_rfl) (Blt.any (by assumption)) PyProof.Rows.boot_any)
  | refine ev_ex (ex_callB (id := "abs") (x := "abs") ?_ (by kernel_rfl) (Blt.abs (by assumption)) PyProof.Rows.boot_abs)
  | refine ev_ex (ex_callTy (T := "int") (x := "int") ?_ (by kernel_rfl) (Blt.int (by assumption)) PyProof.Rows.boot_int))
local macro_rules | `(tactic| walk_at "dwset") => `(tactic| first
  | refine sd_set (i := 0) ?_ rfl (of_decide_eq_true (by kernel_rfl)) (loc_of (by kernel_rfl)) (loc_of (by kernel_rfl)) | refine sd_set (i := 1) ?_ rfl (of_decide_eq_true (by kernel_rfl)) (loc_of (by kernel_rfl)) (loc_of (by kernel_rfl)) | refine sd_set (i := 2) ?_ rfl (of_decide_eq_true (by kernel_rfl)) (loc_of (by kernel_rfl)) (loc_of (by kernel_rfl)) | refine sd_set (i := 3) ?_ rfl (of_decide_eq_true (by kernel_rfl)) (loc_of (by kernel_rfl)) (loc_of (by kernel_rfl)) | refine sd_set (i := 4) ?_ rfl (of_decide_eq_true (by kernel_rfl)) (loc_of (by kernel_rfl)) (loc_of (by kernel_rfl)) | refine sd_set (i := 5) ?_ rfl (of_decide_eq_true (by kernel_rfl)) (loc_of (by kernel_rfl)) (loc_of (by kernel_rfl)) | refine sd_set (i := 6) ?_ rfl (of_decide_eq_true (by kernel_rfl)) (loc_of (by kernel_rfl)) (loc_of (by kernel_rfl)) | refine sd_set (i := 7) ?_ rfl (of_decide_eq_true (by kernel_rfl)) (loc_of (by kernel_rfl)) (loc_of (by kernel_rfl)) | refine sd_set (i := 8) ?_ rfl (of_decide_eq_true (by kernel_rfl)) (loc_of (by kernel_rfl)) (loc_of (by kernel_rfl)) | refine sd_set (i := 9) ?_ rfl (of_decide_eq_true (by kernel_rfl)) (loc_of (by kernel_rfl)) (loc_of (by kernel_rfl)) | refine sd_set (i := 10) ?_ rfl (of_decide_eq_true (by kernel_rfl)) (loc_of (by kernel_rfl)) (loc_of (by kernel_rfl)) | refine sd_set (i := 11) ?_ rfl (of_decide_eq_true (by kernel_rfl)) (loc_of (by kernel_rfl)) (loc_of (by kernel_rfl)))
local macro_rules | `(tactic| walk_at "dwev") => `(tactic| first
  | (show EV _ (.Name _ _) _ _; walk_at "dwname")
  | (show EV _ (.Call _ _ _ _) _ _; walk_at "dwcall")
  | refine ev_int ?_ | refine ev_str ?_ | refine ev_ix ?_ | refine ev_tup ?_ | refine ev_ex (ex_cmp ?_) | refine ev_ex (ex_bin ?_)
  | refine ev_none ?_ | refine ev_bool ?_ | refine ev_and ?_ | refine ev_or ?_ | refine ev_one ?_ | refine ev_not ?_
  | refine ev_chain ?_ | refine ev_ex (ex_un ?_) | refine ev_ex (ex_ifExp ?_) | refine ev_ex (ex_lst ?_))
local macro_rules | `(tactic| walk_at "dw1") => `(tactic| first
  | (show SDs _ _ _ _; first | refine sds_cons ?_ | refine sds_nil ?_)
  | (show SD _ _ _ _; first | refine sd_ret ?_ | refine sd_if ?_ | walk_at "dwset")
  | (show EV _ _ _ _; walk_at "dwev")
  | (show EVs _ _ _ _; first | refine evs_nil ?_ | refine evs_cons ?_)
  | (show EX _ _ _ _; first | refine ex_ifExp ?_ | refine ex_lst ?_ | refine ex_ev ?_)
  | (show ET _ _ _ _; first | refine et_cmp ?_ | refine et_not ?_ | refine et_bo ?_ | refine et_val ?_)
  | (show EW _ _ _ _; first | refine ew_and ?_ | refine ew_or ?_ | refine ew_and1 ?_ | refine ew_or1 ?_)
  | (show ∃ d, IxD _ _ _ d ∧ _; first | refine ⟨_, ix_i (by first | rfl | assumption) (by first | exact atI0 | exact atI1 | exact atI2 | rfl | assumption), ?_⟩ | refine ⟨_, ix_s (by assumption) (by first | assumption | rfl), ?_⟩)
  | (show ∃ Qr, CallD _ _ _ Qr ∧ _; walk_at "dwcd")
  | (show ∃ Qr, BinD _ _ _ _ Qr ∧ _; walk_at "dwbin")
  | (show ∃ Qr, CmpD _ _ _ _ Qr ∧ _; walk_at "dwbin")
  | (show ∃ t, CmpD _ _ _ _ (· = .sh (.bool t)) ∧ _; walk_at "dwbin")
  | (show ∀ r, r = _ → _; intro r hr; subst hr) | refine fun (_ : ∀ (p : Addr) (o : OD), _ = Sl.own p o → _) => ?_
  | refine ⟨_, rfl, ?_⟩ | refine ⟨rfl, ?_⟩ | refine ⟨trivial, ?_⟩
  | refine ⟨Nat.le_of_ble_eq_true rfl, ?_⟩ | refine fun (_ : Addr) (_ : _ ∉ owns _) => ?_ | refine ⟨by decide, ?_⟩
  | refine iteHT rfl ?_ | refine iteHF rfl ?_)
local macro_rules | `(tactic| walk_at "dw") => `(tactic| repeat (walk_at "dw1"))

local macro_rules | `(tactic| walk_at "dwev") => `(tactic| first | refine ev_ex (ex_dnew ?_) | refine ev_ex (ex_d1 ?_))
local macro_rules | `(tactic| walk_at "dwbin") => `(tactic| refine ⟨_, ud_neg, ?_⟩)
local macro_rules | `(tactic| walk_at "dw1") => `(tactic| first | refine fun (_ : Addr) => ⟨_, rfl, ?_⟩ | refine ⟨_, ud_neg, ?_⟩)
variable {G : Pg} {f : Addr} {fd : FuncData} {SG LT FG : Str} {GR : Int} {CS CV : Addr}
def CRef (LT FG : Str) (GR : Int) : List PD → List PD → Prop := fun xs ds => SOk (2 ^ 28) xs ∧ ∃ t, ds = [tupOf t] ∧ Okt (nmS LT FG) GR TW8 t ∧ dpT t ≤ 3
def PRef : List PD → List PD → PD → List PD → Prop := fun xs ds d xs' => d = .bool true ∧ xs' = xs
abbrev mC (CS CV : Addr) : MetC := ⟨CS, CV, "total", "held", "told", "sum", "values"⟩
abbrev lamQ : Str := "_law_refused_right" ++ ".<locals>."
abbrev offG (G : Pg) : Pg := { G with gd := false }
theorem ok_refused (B : Blt G.mg) (C : Kon LT FG SG) (K2 : Kon2 LT FG) (K3 : Kon3 LT FG SG) (hGR : GR = 999999999) (hS : SHas G 8)
    (hV : Has (offG G) "sum_value" P_sum_value 8 (TSum LT FG SG GR TW8 (nmS LT FG) CS CV)) (M : MetOk G (mC CS CV) "_law_met")
    (F : Fun G.K "_law_refused_right" "_law_refused_right" s__law_refused_right f fd)
    (LO : ∃ c P : Addr, fd.code = .ref c ∧ LamX.TabB G.base G.mg c P ∧ (P, lamQ ++ "<lambda>") ∈ G.Tb ∧ ∀ p ∈ G.Tb, p.1 = P → p.2 = lamQ ++ "<lambda>") :
    FnG G 11 f fd P__law_refused_right (SpD G.K G.Tb (StN 1 (CRef LT FG GR) PRef)) := by
  refine fn_st F sc__law_refused_right rfl fun W Z p xs ds hl hC => ?_
  obtain ⟨hs, t, rfl, ho, hd3⟩ := hC
  have LOk : LamOk ⟨N__law_refused_right, defScope s__law_refused_right, G, fd.code, "_law_refused_right" ++ ".<locals>.", 10, W, Z, L2.Loc (defScope s__law_refused_right)⟩ := ⟨LO⟩
  have hzT : szP (tupOf t) ≤ 500 := by
    have := sz_tm C.nm (Is_tup t) ho
    have := size15 hd3
    omega
  have hST : Sm 4 (tupOf t) := (Sm_tm t).mono (by omega)
  generalize hT : tupOf t = T at hzT hST
  show SDs _ _ [.own p (.lst xs), .sh T, .no, .no, .no] _
  refine sds_cons (sd_set (i := 2) (ex_lst ?_) rfl (of_decide_eq_true (by kernel_rfl)) (loc_of (by kernel_rfl)) (loc_of (by kernel_rfl)))
  walk_at "dw"
  rename_i p2 hp2
  show SD _ _ [.own p (.lst xs), .sh T, .own p2 (.lst o1), .no, .no] _
  refine sd_expr (ex_extend (i := 2) ⟨_, _, rfl⟩ ?_ rfl (by walk_at "dwvis"))
  walk_at "dw"
  refine ⟨_, od_pow ⟨by decide, by decide, by decide⟩, ?_⟩
  walk_at "dw"
  refine ⟨p2, o1, o2, rfl, rfl, rfl, Nat.le_of_ble_eq_true rfl, ?_⟩
  show SDs _ _ [.own p (.lst xs), .sh T, .own p2 (.lst (o1 ++ o2)), .no, .no] _
  refine sds_cons (sd_expr (ex_extend (i := 2) ⟨_, _, rfl⟩ ?_ rfl (by walk_at "dwvis")))
  walk_at "dw"
  refine ⟨p2, o1 ++ o2, o3 T, rfl, rfl, rfl, Nat.le_of_ble_eq_true rfl, ?_⟩
  show SDs _ _ [.own p (.lst xs), .sh T, .own p2 (.lst (o1 ++ o2 ++ o3 T)), .no, .no] _
  refine sds_cons (sd_expr (ex_extend (i := 2) ⟨_, _, rfl⟩ ?_ rfl (by walk_at "dwvis")))
  walk_at "dw"
  refine ⟨p2, o1 ++ o2 ++ o3 T, o4 T, rfl, rfl, rfl, Nat.le_of_ble_eq_true rfl, ?_⟩
  have hbad : ∀ o ∈ o1 ++ o2 ++ o3 T ++ o4 T, Bad LT FG GR o := by
    intro o ho
    rcases List.mem_append.mp ho with ho | ho
    · rcases List.mem_append.mp ho with ho | ho
      · rcases List.mem_append.mp ho with ho | ho
        · exact bad1 o ho
        · exact bad2 K2 hGR o ho
      · exact bad3 hzT hST o ho
    · exact bad4 hzT hST o ho
  generalize o1 ++ o2 ++ o3 T ++ o4 T = Os at hbad
  show SDs _ _ [.own p (.lst xs), .sh T, .own p2 (.lst Os), .no, .no] _
  refine sds_cons (sd_for (fun i e => ∃ s3 s4, e = [.own p (.lst xs), .sh T, .sh (.list Os), s3, s4]) [3] (it_list (ev_nameF (i := 2) rfl ⟨_, rfl, ?_⟩ rfl (by walk_at "dwvis"))))
  refine ⟨⟨_, _, rfl⟩, ?_⟩
  rintro i e ⟨s3, s4, rfl⟩
  refine ⟨fun hi => ?_, fun o hoi => ?_⟩
  · walk_at "dw"
    rename_i p6 hp6
    show SD _ _ [.own p (.lst xs), .sh T, .own p6 (.lst v1), s3, s4] _
    refine sd_for (fun i e => ∃ s3, e = [.own p (.lst xs), .sh T, .sh (.list v1), s3, s4]) [3] (it_list (ev_nameF (i := 2) rfl ⟨_, rfl, ?_⟩ rfl (by walk_at "dwvis")))
    refine ⟨⟨_, rfl⟩, ?_⟩
    rintro j e ⟨s3, rfl⟩
    refine ⟨fun hi => ?_, fun o hoi => ?_⟩
    · walk_at "dw"
      exact ⟨_, xs, rfl, rfl, rfl, rfl⟩
    · obtain ⟨b1, b2, b3⟩ := badv (SG := SG) K2 K3 o (List.mem_of_getElem? hoi)
      refine tg_name (i := 3) ?_ (by decide) rfl (of_decide_eq_true (by kernel_rfl)) (loc_of (by kernel_rfl)) (loc_of (by kernel_rfl))
      show SDs _ _ [.own p (.lst xs), .sh T, .sh (.list v1), .sh o, s4] _
      refine sds_cons (sd_if (et_not (et_val (ev_callH hS (show 8 + 1 ≤ 10 by omega) (evs_cons (ev_ex (ex_met (j := 8) M LOk (show 8 + 2 ≤ 10 by omega) (fun E c' => ?_) (LamX.lamS_by (by kernel_rfl)) (by kernel_rfl)))) (by kernel_rfl)))))
      refine ev_ex (ex_callH hV (Nat.le_refl _) (eas_evs ?_) (by kernel_rfl))
      walk_at "dw"
      have hfT : fitsS LT FG GR TW8 T = true := by rw [← hT]; exact fits_tm hGR (Is_tup t) ho
      refine ⟨by rw [lends_sh]; exact List.nodup_nil, T, o, rfl, by omega, b2, (fun h => by rw [hfT] at h; cases h), fun _ _ => ⟨back_sh [T, o], .inr ⟨rfl, rfl, o, rfl, _, rfl, ?_⟩⟩, fun _ h => by rw [b1] at h; cases h⟩
      walk_at "dw"
      refine ⟨⟨_, rfl, sm_tup (by simp) (by simp; exact ⟨sm_flat rfl, b3.up⟩)⟩, ?_⟩
      walk_at "dw"
      exact ⟨_, rfl⟩
  · obtain ⟨b1, b2, b3⟩ := hbad o (List.mem_of_getElem? hoi)
    refine tg_name (i := 3) ?_ (by decide) rfl (of_decide_eq_true (by kernel_rfl)) (loc_of (by kernel_rfl)) (loc_of (by kernel_rfl))
    show SDs _ _ [.own p (.lst xs), .sh T, .sh (.list Os), .sh o, s4] _
    refine sds_cons (sd_forE [4] (IT.imp (Qi := fun ds e1 => e1 = [.own p (.lst xs), .sh T, .sh (.list Os), .sh o, s4] ∧ ∀ s ∈ ds, fitsS LT FG GR TW8 s = false ∧ szP s ≤ 100000 ∧ Sm 7 s) (it_tup (ev_ex (ex_ifExp ?_))) ?_))
    · walk_at "dw"
      refine iteD (fun g => ?_) fun g => ?_
      · refine ex_ev ?_
        walk_at "dw"
        refine fun s hsm => ?_
        simp only [List.mem_cons, List.not_mem_nil, or_false] at hsm
        rcases hsm with rfl | rfl
        · exact ⟨b1, by omega, b3.up⟩
        · exact bad_plus hzT hST ⟨b1, b2, b3⟩
      · refine ex_ev ?_
        walk_at "dw"
        refine fun s hsm => ?_
        simp only [List.mem_cons, List.not_mem_nil, or_false] at hsm
        subst hsm
        exact ⟨b1, by omega, b3.up⟩
    rintro ds e ⟨rfl, hds⟩
    refine ⟨fun i e => ∃ s4, e = [.own p (.lst xs), .sh T, .sh (.list Os), .sh o, s4], ⟨s4, rfl⟩, ?_⟩
    rintro j e ⟨s5, rfl⟩
    refine ⟨fun _ => sds_nil ⟨_, _, rfl⟩, fun s hsj => ?_⟩
    obtain ⟨c1, c2, c3⟩ := hds s (List.mem_of_getElem? hsj)
    refine tg_name (i := 4) ?_ (by decide) rfl (of_decide_eq_true (by kernel_rfl)) (loc_of (by kernel_rfl)) (loc_of (by kernel_rfl))
    show SDs _ _ [.own p (.lst xs), .sh T, .sh (.list Os), .sh o, .sh s] _
    refine sds_cons (sd_if (et_not (et_val (ev_callH hS (show 8 + 1 ≤ 10 by omega) (evs_cons (ev_ex (ex_met (j := 8) M LOk (show 8 + 2 ≤ 10 by omega) (fun E c' => ?_) (LamX.lamS_by (by kernel_rfl)) (by kernel_rfl)))) (by kernel_rfl)))))
    refine ev_ex (ex_callH hV (Nat.le_refl _) (eas_evs ?_) (by kernel_rfl))
    walk_at "dw"
    refine ⟨by rw [lends_sh]; exact List.nodup_nil, s, .none, rfl, c2, cv_flat (by intro k e; cases e), fun _ => ⟨back_sh [s, .none], .inl ⟨rfl, rfl, s, rfl, _, rfl, ?_⟩⟩, (fun h => by rw [c1] at h; cases h), fun h => by rw [c1] at h; cases h⟩
    walk_at "dw"
    refine ⟨⟨_, rfl, sm_tup (by simp) (by simp; exact ⟨sm_flat rfl, c3⟩)⟩, ?_⟩
    walk_at "dw"
    exact ⟨_, rfl⟩
end K8

namespace K8
open PySem PySem.Spec PyProof.Rows L2 Dw
local macro_rules | `(tactic| walk_at "dwvis") => `(tactic| exact vis_of (by kernel_rfl))
local macro_rules | `(tactic| walk_at "dwbin") => `(tactic| first
  | refine ⟨_, od_eqS, ?_⟩ | refine ⟨_, od_neS, ?_⟩ | refine ⟨_, od_add, ?_⟩ | refine ⟨_, od_sub, ?_⟩ | refine ⟨_, od_lt, ?_⟩ | refine ⟨_, od_le, ?_⟩ | refine ⟨_, od_gt, ?_⟩ | refine ⟨_, od_ge, ?_⟩ | refine ⟨_, od_eqI, ?_⟩ | refine ⟨_, od_eqB, ?_⟩ | refine ⟨_, od_neB, ?_⟩
  | refine ⟨_, od_isN, ?_⟩ | refine ⟨_, od_addS (by assumption), ?_⟩ | refine ⟨_, od_inT, ?_⟩ | refine ⟨_, od_notN, ?_⟩ | refine ⟨_, od_inSign, ?_⟩ | refine ⟨_, od_notInSign, ?_⟩)
local macro_rules | `(tactic| walk_at "dwcd") => `(tactic| first
  | refine ⟨_, cd_len (by assumption), ?_⟩ | refine ⟨_, cd_lenS (by assumption), ?_⟩ | refine ⟨_, cd_abs, ?_⟩ | refine ⟨_, cd_intI, ?_⟩ | refine ⟨_, cd_intB, ?_⟩ | refine ⟨_, cd_all, ?_⟩ | refine ⟨_, cd_any, ?_⟩ | refine ⟨_, cd_sum, ?_⟩)
local macro_rules | `(tactic| walk_at "dwname") => `(tactic| first
  | refine ev_name (i := 0) rfl ?_ rfl (by walk_at "dwvis") | refine ev_name (i := 1) rfl ?_ rfl (by walk_at "dwvis")
  | refine ev_name (i := 2) rfl ?_ rfl (by walk_at "dwvis") | refine ev_name (i := 3) rfl ?_ rfl (by walk_at "dwvis")
  | refine ev_name (i := 4) rfl ?_ rfl (by walk_at "dwvis") | refine ev_name (i := 5) rfl ?_ rfl (by walk_at "dwvis") | refine ev_name (i := 6) rfl ?_ rfl (by walk_at "dwvis") | refine ev_name (i := 7) rfl ?_ rfl (by walk_at "dwvis") | refine ev_name (i := 8) rfl ?_ rfl (by walk_at "dwvis") | refine ev_name (i := 9) rfl ?_ rfl (by walk_at "dwvis") | refine ev_name (i := 10) rfl ?_ rfl (by walk_at "dwvis") | refine ev_name (i := 11) rfl ?_ rfl (by walk_at "dwvis")
  | refine ev_globD (by assumption) ?_ (by kernel_rfl))
local macro_rules | `(tactic| walk_at "dwcall") => `(tactic| first
  | refine ev_callH (by assumption) (Nat.le_of_ble_eq_true rfl) ?_ (by kernel_rfl)
  | refine ev_ex (ex_callB (id := "len") (x := "len") ?_ (by kernel_rfl) (Blt.len (by assumption)) PySem.boot_len)
  | refine ev_isi2 (n1 := "list") (n2 := "tuple") (T1 := "list") (T2 := "tuple") ?_ (by decide) (by kernel_rfl) (Blt.isinstance (by assumption)) (by kernel_rfl) (Blt.list (by assumption)) PyProof.Rows.boot_list (by kernel_rfl) (Blt.tuple (by assumption)) PyProof.Rows.boot_tuple
  | refine ev_isi (n := "int") (T := "int") ?_ (by decide) (by kernel_rfl) (Blt.isinstance (by assumption)) (by kernel_rfl) (Blt.int (by assumption)) PyProof.Rows.boot_int
  | refine ev_isi (n := "bool") (T := "bool") ?_ (by decide) (by kernel_rfl) (Blt.isinstance (by assumption)) (by kernel_rfl) (Blt.bool (by assumption)) PyProof.Rows.boot_bool
  | refine ev_isi (n := "str") (T := "str") ?_ (by decide) (by kernel_rfl) (Blt.isinstance (by assumption)) (by kernel_rfl) (Blt.str (by assumption)) PyProof.Rows.boot_str
  | refine ev_isi (n := "dict") (T := "dict") ?_ (by decide) (by kernel_rfl) (Blt.isinstance (by assumption)) (by kernel_rfl) (Blt.dict (by assumption)) PyProof.Rows.boot_dict
  | refine ev_ex (ex_callB (id := "all") (x := "all") ?_ (by kernel_rfl) (Blt.all (by assumption)) PyProof.Rows.boot_all)
  | refine ev_ex (ex_callB (id := "any") (x := "any") ?_ (by kernel_rfl) (Blt.any (by assumption)) PyProof.Rows.boot_any)
  | refine ev_ex (ex_callB (id := "abs") (x := "abs") ?_ (by kernel_rfl) (Blt.abs (by assumption)) PyProof.Rows.boot_abs)
  | refine ev_ex (ex_callTy (T := "int") (x := "int") ?_ (by kernel_rfl) (Blt.int (by assumption)) PyProof.Rows.boot_int))
local macro_rules | `(tactic| walk_at "dwset") => `(tactic| first
  | refine sd_set (i := 0) ?_ rfl (of_decide_eq_true (by kernel_rfl)) (loc_of (by kernel_rfl)) (loc_of (by kernel_rfl)) | refine sd_set (i := 1) ?_ rfl (of_decide_eq_true (by kernel_rfl)) (loc_of (by kernel_rfl)) (loc_of (by kernel_rfl)) | refine sd_set (i := 2) ?_ rfl (of_decide_eq_true (by kernel_rfl)) (loc_of (by kernel_rfl)) (loc_of (by kernel_rfl)) | refine sd_set (i := 3) ?_ rfl (of_decide_eq_true (by kernel_rfl)) (loc_of (by kernel_rfl)) (loc_of (by kernel_rfl)) | refine sd_set (i := 4) ?_ rfl (of_decide_eq_true (by kernel_rfl)) (loc_of (by kernel_rfl)) (loc_of (by kernel_rfl)) | refine sd_set (i := 5) ?_ rfl (of_decide_eq_true (by kernel_rfl)) (loc_of (by kernel_rfl)) (loc_of (by kernel_rfl)) | refine sd_set (i := 6) ?_ rfl (of_decide_eq_true (by kernel_rfl)) (loc_of (by kernel_rfl)) (loc_of (by kernel_rfl)) | refine sd_set (i := 7) ?_ rfl (of_decide_eq_true (by kernel_rfl)) (loc_of (by kernel_rfl)) (loc_of (by kernel_rfl)) | refine sd_set (i := 8) ?_ rfl (of_decide_eq_true (by kernel_rfl)) (loc_of (by kernel_rfl)) (loc_of (by kernel_rfl)) | refine sd_set (i := 9) ?_ rfl (of_decide_eq_true (by kernel_rfl)) (loc_of (by kernel_rfl)) (loc_of (by kernel_rfl)) | refine sd_set (i := 10) ?_ rfl (of_decide_eq_true (by kernel_rfl)) (loc_of (by kernel_rfl)) (loc_of (by kernel_rfl)) | refine sd_set (i := 11) ?_ rfl (of_decide_eq_true (by kernel_rfl)) (loc_of (by kernel_rfl)) (loc_of (by kernel_rfl)))
local macro_rules | `(tactic| walk_at "dwev") => `(tactic| first
  | (show EV _ (.Name _ _) _ _; walk_at "dwname")
  | (show EV _ (.Call _ _ _ _) _ _; walk_at "dwcall")
  | refine ev_int ?_ | refine ev_str ?_ | refine ev_ix ?_ | refine ev_tup ?_ | refine ev_ex (ex_cmp ?_) | refine ev_ex (ex_bin ?_)
  | refine ev_none ?_ | refine ev_bool ?_ | refine ev_and ?_ | refine ev_or ?_ | refine ev_one ?_ | refine ev_not ?_
  | refine ev_chain ?_ | refine ev_ex (ex_un ?_) | refine ev_ex (ex_ifExp ?_) | refine ev_ex (ex_lst ?_))
local macro_rules | `(tactic| walk_at "dw1") => `(tactic| first
  | (show SDs _ _ _ _; first | refine sds_cons ?_ | refine sds_nil ?_)
  | (show SD _ _ _ _; first | refine sd_ret ?_ | refine sd_if ?_ | walk_at "dwset")
  | (show EV _ _ _ _; walk_at "dwev")
  | (show EVs _ _ _ _; first | refine evs_nil ?_ | refine evs_cons ?_)
  | (show EX _ _ _ _; first | refine ex_ifExp ?_ | refine ex_lst ?_ | refine ex_ev ?_)
  | (show ET _ _ _ _; first | refine et_cmp ?_ | refine et_not ?_ | refine et_bo ?_ | refine et_val ?_)
  | (show EW _ _ _ _; first | refine ew_and ?_ | refine ew_or ?_ | refine ew_and1 ?_ | refine ew_or1 ?_)
  | (show ∃ d, IxD _ _ _ d ∧ _; first | refine ⟨_, ix_i (by first | rfl | assumption) (by first | exact atI0 | exact atI1 | exact atI2 | rfl | assumption), ?_⟩ | refine ⟨_, ix_s (by assumption) (by first | assumption | rfl), ?_⟩)
  | (show ∃ Qr, CallD _ _ _ Qr ∧ _; walk_at "dwcd")
  | (show ∃ Qr, BinD _ _ _ _ Qr ∧ _; walk_at "dwbin")
  | (show ∃ Qr, CmpD _ _ _ _ Qr ∧ _; walk_at "dwbin")
  | (show ∃ t, CmpD _ _ _ _ (· = .sh (.bool t)) ∧ _; walk_at "dwbin")
  | (show ∀ r, r = _ → _; intro r hr; subst hr) | refine fun (_ : ∀ (p : Addr) (o : OD), _ = Sl.own p o → _) => ?_
  | refine ⟨_, rfl, ?_⟩ | refine ⟨rfl, ?_⟩ | refine ⟨trivial, ?_⟩
  | refine ⟨Nat.le_of_ble_eq_true rfl, ?_⟩ | refine fun (_ : Addr) (_ : _ ∉ owns _) => ?_ | refine ⟨by decide, ?_⟩
  | refine iteHT rfl ?_ | refine iteHF rfl ?_)
local macro_rules | `(tactic| walk_at "dw") => `(tactic| repeat (walk_at "dw1"))

local macro_rules | `(tactic| walk_at "dwev") => `(tactic| first | refine ev_ex (ex_dnew ?_) | refine ev_ex (ex_d1 ?_))
local macro_rules | `(tactic| walk_at "dw1") => `(tactic| first | refine fun (_ : Addr) => ⟨_, rfl, ?_⟩ | refine ⟨_, ud_neg, ?_⟩)
variable {G : Pg} {f : Addr} {fd : FuncData} {SG LT FG : Str} {GR : Int} {CS CV : Addr} {nm : Str → Bool}
def CLa : List PD → List PD → Prop := fun xs ds => (∃ M, SOk M xs ∧ M + 100 ≤ 2 ^ 30) ∧ ∃ (n : Nat) (most : Int), n ≤ 3 ∧ ds = [.int n, .int most] ∧ 1 ≤ most ∧ most ≤ 10 ^ 9
def PLa (nm : Str → Bool) (GR : Int) : List PD → List PD → PD → List PD → Prop := fun xs ds d xs' => (∀ m, SOk m xs → SOk (m + 100) xs') ∧ ∃ t, d = tupOf t ∧ Okt nm GR TW8 t ∧ dpT t ≤ 3
theorem dN_le {n : Nat} (h : n ≤ 3) : dN n ≤ 75 := by
  match n, h with
  | 0, _ => decide
  | 1, _ => decide
  | 2, _ => decide
  | 3, _ => decide
/-- a drawn sum, three deep at most -/
theorem ok_sum_any (B : Blt G.mg) (hGR : GR = 999999999) (hnm : ∀ z ∈ (["x", "y2", "eightsgn", "z", "nobody"] : List Str), nm z = true) (h1 : Has G "_law_draw" P__law_draw 1 (StN 1 CDraw PDraw)) (h2 : Has G "_law_pick" P__law_pick 2 (StN 1 CPick PPick))
    (F : Fun G.K "_law_sum" "_law_sum" s__law_sum f fd) (hm : G.mg "_law_sum" = some (.ref f)) (hb : Binds G.K fd P__law_sum []) : FnG G 6 f fd P__law_sum (SpD G.K G.Tb (StN 2 CLa (PLa nm GR))) := by
  have hn : ∀ n, n ≤ 3 → FnG G 6 f fd P__law_sum (SpD G.K G.Tb (StN 2 (CLs n) (PLs nm GR n))) := fun n h => (ok_sum_draw n B hGR hnm (fun k _ => has_sum B hGR hnm h1 h2 F hm hb k) h1 h2 F).mono (by omega)
  have key : ∀ vs H Q E, SpD G.K G.Tb (StN 2 CLa (PLa nm GR)) vs H Q E → ∃ n, n ≤ 3 ∧ SpD G.K G.Tb (StN 2 (CLs n) (PLs nm GR n)) vs H Q E := by
    rintro vs H Q E ⟨F0, R0, as, Qd, Ed, e1, ⟨p, xs, ds, rfl, hl, ⟨⟨M, hM1, hM2⟩, n, most, hn3, hds, hm1, hm2⟩, q⟩, e2, e3⟩
    have := dN_le hn3
    refine ⟨n, hn3, F0, R0, _, Qd, Ed, e1, ⟨p, xs, ds, rfl, hl, ⟨⟨M, hM1, by omega⟩, most, hds, hm1, hm2⟩, fun d xs' hp => q d xs' ⟨fun m hm => (hp.1 m hm).mono (by omega), ?_⟩⟩, e2, e3⟩
    obtain ⟨_, t, h1, h2, h3⟩ := hp
    exact ⟨t, h1, h2, by omega⟩
  refine ⟨fun vs H Q E h => ?_, fun A outer s H args us vs Q E hr hg he hb hv hs => ?_⟩
  · obtain ⟨n, hn3, h⟩ := key vs H Q E h
    exact (hn n hn3).len vs H Q E h
  · obtain ⟨n, hn3, h⟩ := key vs H Q E hs
    exact (hn n hn3).run A outer s H args us vs Q E hr hg he hb hv h
/-- what is told of a sum that is right, of any dict of values -/
theorem tsum_gen (C : Kon LT FG SG) (hGR : GR = 999999999) {t : Tm} {d : PD} {kvs : List (PD × PD)} {Qd : RS → List Sl → Prop} {Ed : ED} (hd : Is t d) (ho : Okt (nmS LT FG) GR TW8 t) (h3 : dpT t ≤ 3) (hv : valsP LT FG SG (.dict kvs) = true) (hcv : CVals [.dict kvs]) (hoH : OkH kvs)
    (q : Qd (.sh (resPD (evT (numH kvs) t))) [.sh d, .sh (.dict kvs)]) : TSum LT FG SG GR TW8 (nmS LT FG) CS CV [.sh d, .sh (.dict kvs)] Qd Ed := by
  have hs := size15 h3
  have hf := fits_tm (LT := LT) (FG := FG) hGR hd ho
  refine ⟨d, _, rfl, ?_, hcv, fun h => ?_, fun _ h => ?_, fun _ _ => ⟨⟨t, d, kvs, rfl, hd, ho, hoH, ?_, by omega⟩, ?_⟩⟩
  · have := sz_tm C.nm hd ho
    omega
  · rw [hf] at h; cases h
  · rw [hv] at h; cases h
  · have := lv_size t
    omega
  · rw [cntM_of hd]
    exact q
theorem num_x {z : Str} {c : Int} (h : numL z.cps.toList = some c) : numH [(PyData.str "x", PyData.str z)] "x" = some c := by
  unfold numH txtH
  have e : lookK [(PyData.str "x", PyData.str z)] (.inr "x") = some (.str z) := by unfold lookK; exact if_pos rfl
  rw [e]
  exact h
theorem num_a : numH [(PyData.str "a", PyData.str "-")] "a" = none := by
  unfold numH txtH
  have e : lookK [(PyData.str "a", PyData.str "-")] (.inr "a") = some (.str "-") := by unfold lookK; exact if_pos rfl
  rw [e]
  decide +kernel
theorem part_num {w : Str} {a c : Int} (h : c ≠ 0) : ∃ v, partI w a c = .tuple [.str "number", .int v] := ⟨_, by unfold partI; rw [if_neg h]⟩
theorem two_x {w : Str} {a c : Int} {t1 : Tm} {N : Str → Option Int} (hw : w = "/" ∨ w = "~") (h1 : evT N t1 = .ok a) (h2 : N "x" = some c) : resPD (evT N (.two w t1 (.nam "x"))) = partI w a c := by
  have e : evT N (.two w t1 (.nam "x")) = (if badW w c = true then .error (.tuple [.str "nought"]) else .ok (joinI w a c)) := by
    show (match evT N t1 with | .error e => .error e | .ok x => match (match N "x" with | some n => .ok n | none => .error (.tuple [.str "number", .str "x"]) : Res) with | .error e => .error e | .ok y => if badW w y = true then .error (.tuple [.str "nought"]) else .ok (joinI w x y) : Res) = _
    rw [h1, h2]
  rw [e]
  rcases hw with rfl | rfl
  · rw [part_of (by decide +kernel) (by rw [j_div, if_pos (by decide +kernel)])]
  · rw [part_of (by decide +kernel) (by rw [j_rest, if_neg (by decide +kernel)])]
abbrev CLaw : List PD → Prop := fun ds => ∃ is : List Int, ds = [.list (is.map .int)] ∧ is.length ≤ 63
theorem ok_law (B : Blt G.mg) (C : Kon LT FG SG) (hGR : GR = 999999999) (hA : nameZ LT FG "a" = true)
    (hSt : Has G "_law_stream" P__law_stream 1 (OwnN 2 CStr fun _ o => ∃ xs, o = .lst xs ∧ SOk 0 xs)) (hD : Has G "_law_draw" P__law_draw 1 (StN 1 CDraw PDraw)) (hH : Has G "_law_held" P__law_held 3 (StN 1 CHeld PHeld))
    (hM : Has G "_law_sum" P__law_sum 6 (StN 2 CLa (PLa (nmS LT FG) GR))) (hO : Has G "_law_one_right" P__law_one_right 9 (StN 2 (COne LT FG GR) POne)) (hR : Has G "_law_refused_right" P__law_refused_right 11 (StN 1 (CRef LT FG GR) PRef))
    (hP : Has G "_law_parted" P__law_parted 1 (PureN 3 CPart fP)) (hS : SHas G 3) (hV : Has G "sum_value" P_sum_value 8 (TSum LT FG SG GR TW8 (nmS LT FG) CS CV))
    (F : Fun G.K "law" "law" s_law f fd) : FnG G 12 f fd P_law (SpD G.K G.Tb (PureN 1 CLaw fun _ => .bool true)) := by
  refine fn_pure F sc_law rfl fun W Z ds hl hC => ?_
  obtain ⟨is, rfl, h63⟩ := hC
  show SDs _ _ [.sh (.list (is.map .int)), .no, .no, .no, .no, .no, .no, .no, .no, .no, .no, .no, .no] _
  generalize hSC : PyData.list (is.map .int) = SC
  refine sds_cons (sd_for (fun i e => ∃ s1 s2 s3 s4 s5 s6 s7 s8 s9 s10 s11 s12, e = [.sh SC, s1, s2, s3, s4, s5, s6, s7, s8, s9, s10, s11, s12]) [1] (it_range1 ?_ (by kernel_rfl) (Blt.range (by assumption))))
  walk_at "dw"
  refine ⟨⟨_, _, _, _, _, _, _, _, _, _, _, _, rfl⟩, ?_⟩
  rintro i e ⟨s1, s2, s3, s4, s5, s6, s7, s8, s9, s10, s11, s12, rfl⟩
  refine ⟨fun hi => ?_, fun d hd => ?_⟩
  · clear hi
    refine sds_cons (sd_forE [7, 8] (it_tup (ev_tup ?_)))
    walk_at "dw"
    refine ⟨fun i e => ∃ s1 s2 s3 s4 s5 s6 s7 s8 s9 s10 s11 s12, e = [.sh SC, s1, s2, s3, s4, s5, s6, s7, s8, s9, s10, s11, s12], ⟨_, _, _, _, _, _, _, _, _, _, _, _, rfl⟩, ?_⟩
    clear s1 s2 s3 s4 s5 s6 s7 s8 s9 s10 s11 s12
    rintro i e ⟨s1, s2, s3, s4, s5, s6, s7, s8, s9, s10, s11, s12, rfl⟩
    refine ⟨fun hi => ?_, fun d hd => ?_⟩
    · clear hi
      refine sds_cons (sd_ret (ex_ev (ev_callH hS (show 3 + 1 ≤ 11 by omega) (evs_cons (ev_ex (ex_callH hV (show 8 ≤ 11 by omega) (eas_evs ?_) (by kernel_rfl)))) (by kernel_rfl))))
      walk_at "dw"
      refine tsum_gen C hGR (t := .two "/" (.nam "a") (.num 0)) (Is_tup _) ⟨by decide +kernel, hA, ⟨Int.le_refl _, by omega⟩⟩ (Nat.le_of_ble_eq_true rfl) ?_ (cv_d1 (by intro z e; cases e; decide +kernel) (by intro z e; cases e; decide +kernel)) ?_ ⟨back_sh [_, _], _, rfl, ?_⟩
      · show ([(PyData.str "a", PyData.str "-")].all fun q => nameP LT FG q.1 && textP SG q.2) = true
        rw [List.all_cons, List.all_nil, Bool.and_true]
        show (nameP LT FG (.str "a") && textP SG (.str "-")) = true
        rw [show nameP LT FG (.str "a") = true from hA, Bool.true_and]
        unfold textP strOf
        rw [List.all_eq_true]
        intro c hc
        exact decide_eq_true (C.sg c (by
          have h : ("-" : Str).cps.toList.all vch = true := by decide +kernel
          rw [List.all_eq_true] at h
          exact h c hc))
      · intro q hq
        rw [List.mem_singleton] at hq
        subst hq
        exact ⟨("-" : Str).cps.toList, by rw [Sx_tl], by decide +kernel⟩
      have e : resPD (evT (numH [(PyData.str "a", PyData.str "-")]) (.two "/" (.nam "a") (.num 0))) = .tuple [.str "refused", .tuple [.str "number", .str "a"]] := by
        have e1 : evT (numH [(PyData.str "a", PyData.str "-")]) (.nam "a") = .error (.tuple [.str "number", .str "a"]) := by
          show (match numH [(PyData.str "a", PyData.str "-")] "a" with | some n => .ok n | none => .error (.tuple [.str "number", .str "a"]) : Res) = _
          rw [num_a]
        show resPD (match evT (numH [(PyData.str "a", PyData.str "-")]) (.nam "a") with | .error e => .error e | .ok x => match evT (numH [(PyData.str "a", PyData.str "-")]) (.num 0) with | .error e => .error e | .ok y => if badW "/" y = true then .error (.tuple [.str "nought"]) else .ok (joinI "/" x y) : Res) = _
        rw [e1]
        rfl
      rw [e]
      walk_at "dw"
      refine ⟨⟨_, rfl, sm_tup (by simp) (by simp; exact ⟨sm_flat rfl, sm_tup (by simp) (by simp; exact ⟨sm_flat rfl, sm_flat rfl⟩)⟩)⟩, ?_⟩
      rfl
    · obtain ⟨a, c, rfl, ha, hc0, hc, hv, hnum⟩ : ∃ a c : Int, d = .tuple [.int a, .int c] ∧ a.natAbs ≤ 7 ∧ c ≠ 0 ∧ c.natAbs ≤ 5 ∧ VOk (.str (Str.ofString (toString c))) ∧ numL (Str.ofString (toString c)).cps.toList = some c := by
        have h := List.mem_of_getElem? hd
        simp only [List.mem_cons, List.not_mem_nil, or_false] at h
        rcases h with rfl | rfl | rfl | rfl | rfl | rfl
        · exact ⟨7, 2, rfl, by decide, by decide, by decide, vok (by decide +kernel) (by decide +kernel), by decide +kernel⟩
        · exact ⟨-7, 2, rfl, by decide, by decide, by decide, vok (by decide +kernel) (by decide +kernel), by decide +kernel⟩
        · exact ⟨7, -2, rfl, by decide, by decide, by decide, vok (by decide +kernel) (by decide +kernel), by decide +kernel⟩
        · exact ⟨-7, -2, rfl, by decide, by decide, by decide, vok (by decide +kernel) (by decide +kernel), by decide +kernel⟩
        · exact ⟨6, 3, rfl, by decide, by decide, by decide, vok (by decide +kernel) (by decide +kernel), by decide +kernel⟩
        · exact ⟨0, -5, rfl, by decide, by decide, by decide, vok (by decide +kernel) (by decide +kernel), by decide +kernel⟩
      generalize hz : Str.ofString (toString c) = z at hv hnum
      refine tg_tup (tgs_cons (tg_name (i := 7) ?_ (by decide) rfl (of_decide_eq_true (by kernel_rfl)) (loc_of (by kernel_rfl)) (loc_of (by kernel_rfl)))) rfl (fun X g t h => pg_tup g.calm h)
      refine tgs_cons (tg_name (i := 8) ?_ (by decide) rfl (of_decide_eq_true (by kernel_rfl)) (loc_of (by kernel_rfl)) (loc_of (by kernel_rfl)))
      refine tgs_nil ?_
      show SDs _ _ [.sh SC, s1, s2, s3, s4, s5, s6, .sh (.int a), .sh (.int c), s9, s10, s11, s12] _
      refine sds_cons (sd_set (i := 9) (ex_lst (evs_cons (EV.imp (Q := fun d e => e = [.sh SC, s1, s2, s3, s4, s5, s6, .sh (.int a), .sh (.int c), s9, s10, s11, s12] ∧ ∃ t, d = tupOf t ∧ Okt (nmS LT FG) GR TW8 t ∧ dpT t ≤ 1 ∧ ∀ N, evT N t = .ok a) (ev_ex (ex_ifExp ?_)) ?_))) rfl (of_decide_eq_true (by kernel_rfl)) (loc_of (by kernel_rfl)) (loc_of (by kernel_rfl)))
      · walk_at "dw"
        refine iteD (fun g => ?_) fun g => ?_
        · have g := of_decide_eq_true g
          refine ex_ev ?_
          walk_at "dw"
          refine ⟨.num a, ?_, ⟨g, by omega⟩, Nat.zero_le _, fun N => rfl⟩
          rw [if_neg (by omega)]
          rfl
        · have g := of_decide_eq_false g
          refine ex_ev ?_
          walk_at "dw"
          refine ⟨.less (.num (0 - a)), rfl, ⟨by omega, by omega⟩, Nat.le_refl _, fun N => ?_⟩
          show (Except.ok (-(0 - a)) : Res) = .ok a
          rw [show -(0 - a) = a by omega]
      rintro d e ⟨rfl, t1, rfl, ho1, hd1, he1⟩
      walk_at "dw"
      rename_i p9 hp9
      show SD _ _ [.sh SC, s1, s2, s3, s4, s5, s6, .sh (.int a), .sh (.int c), .own p9 (.lst [tupOf t1, .tuple [.str "name", .str "x"]]), s10, s11, s12] _
      refine sd_for (fun i e => ∃ s10 s11, e = [.sh SC, s1, s2, s3, s4, s5, s6, .sh (.int a), .sh (.int c), .own p9 (.lst [tupOf t1, .tuple [.str "name", .str "x"]]), s10, s11, s12]) [10] (it_tup (ev_tup ?_))
      walk_at "dw"
      refine ⟨⟨_, _, rfl⟩, ?_⟩
      rintro i e ⟨s10, s11, rfl⟩
      refine ⟨fun _ => sds_nil ⟨_, _, _, _, _, _, _, _, _, _, _, _, rfl⟩, fun d hd => ?_⟩
      obtain ⟨w, rfl, hw⟩ : ∃ w : Str, d = .str w ∧ (w = "/" ∨ w = "~") := by
        have h := List.mem_of_getElem? hd
        simp only [List.mem_cons, List.not_mem_nil, or_false] at h
        rcases h with rfl | rfl
        · exact ⟨_, rfl, .inl rfl⟩
        · exact ⟨_, rfl, .inr rfl⟩
      have hw8 : inStrs w TW8 = true ∧ w ≠ "number" ∧ w ≠ "name" ∧ w ≠ "less" := by rcases hw with rfl | rfl <;> decide +kernel
      refine tg_name (i := 10) ?_ (by decide) rfl (of_decide_eq_true (by kernel_rfl)) (loc_of (by kernel_rfl)) (loc_of (by kernel_rfl))
      show SDs _ _ [.sh SC, s1, s2, s3, s4, s5, s6, .sh (.int a), .sh (.int c), .own p9 (.lst [tupOf t1, .tuple [.str "name", .str "x"]]), .sh (.str w), s11, s12] _
      have la : a.natAbs.log2 < 8000 := log2_of (show a.natAbs < 2 ^ 3 by omega) (by decide)
      have lc : c.natAbs.log2 < 8000 := log2_of (show c.natAbs < 2 ^ 3 by omega) (by decide)
      refine sds_cons (sd_set (i := 11) (ex_ev (ev_callH hP (show 1 ≤ 11 by omega) ?_ (by kernel_rfl))) rfl (of_decide_eq_true (by kernel_rfl)) (loc_of (by kernel_rfl)) (loc_of (by kernel_rfl)))
      walk_at "dw"
      refine ⟨⟨w, a, c, rfl, la, lc⟩, ?_⟩
      show SDs _ _ [.sh SC, s1, s2, s3, s4, s5, s6, .sh (.int a), .sh (.int c), .own p9 (.lst [tupOf t1, .tuple [.str "name", .str "x"]]), .sh (.str w), .sh (partI w a c), s12] _
      refine sds_cons (sd_if (et_not (et_val (ev_callH hS (show 3 + 1 ≤ 11 by omega) (evs_cons (ev_ex (ex_callH hV (show 8 ≤ 11 by omega) (eas_evs ?_) (by kernel_rfl)))) (by kernel_rfl)))))
      refine evs_cons (ev_tup (evs_cons ?_))
      refine ev_name (i := 10) rfl ?_ rfl (by walk_at "dwvis")
      refine evs_cons (ev_ixO (i := 9) (ev_int ?_) rfl (by walk_at "dwvis") ⟨_, _, rfl⟩)
      refine ⟨0, rfl, _, _, rfl, rfl, _, atI0, ?_⟩
      refine evs_cons (ev_ixO (i := 9) (ev_int ?_) rfl (by walk_at "dwvis") ⟨_, _, rfl⟩)
      refine ⟨1, rfl, _, _, rfl, rfl, _, atI1, ?_⟩
      walk_at "dw"
      refine ev_ex (ex_callTy (T := "str") (x := "str") ?_ (by kernel_rfl) (Blt.str (by assumption)) PyProof.Rows.boot_str)
      walk_at "dw"
      refine ⟨_, cd_strI (show c.natAbs.log2 < 1920 from Nat.lt_of_le_of_lt (log2_mono (show c.natAbs ≤ 7 by omega)) (by decide)), ?_⟩
      rw [hz]
      walk_at "dw"
      have hk : HeldOk [(PyData.str "x", PyData.str z)] := ⟨by simp, by simp, by simp [names4], by simpa using hv⟩
      refine ⟨by rw [lends_sh]; exact List.nodup_nil, ?_⟩
      refine tsum_right C hGR (t := .two w t1 (.nam "x")) (Is_tup (.two w t1 (.nam "x"))) (show Okt (nmS LT FG) GR TW8 (.two w t1 (.nam "x")) from ⟨hw8, ho1, C.n5 "x" (by simp)⟩) (by show max (dpT t1) 0 + 1 ≤ 3; omega) hk ?_
      refine ⟨back_sh [_, _], _, rfl, ?_⟩
      rw [two_x hw (he1 _) (num_x hnum)]
      walk_at "dw"
      obtain ⟨v, ev⟩ := part_num (w := w) (a := a) hc0
      rw [ev]
      refine ⟨⟨_, rfl, sm_tup (by simp) (by simp; exact ⟨sm_flat rfl, sm_flat rfl⟩)⟩, ?_⟩
      walk_at "dw"
      exact ⟨_, _, rfl⟩
  · obtain ⟨k, rfl, hk⟩ : ∃ k : Nat, d = .int k ∧ k ≤ 3 := by
      unfold intsP at hd
      rw [List.getElem?_map] at hd
      cases hr : (List.range (4 : Int).toNat)[i]? with
      | none => rw [hr] at hd; cases hd
      | some k =>
        rw [hr] at hd
        cases hd
        have := List.mem_of_getElem? hr
        rw [List.mem_range] at this
        have h4 : (4 : Int).toNat = 4 := rfl
        exact ⟨k, by simp, by omega⟩
    refine tg_name (i := 1) ?_ (by decide) rfl (of_decide_eq_true (by kernel_rfl)) (loc_of (by kernel_rfl)) (loc_of (by kernel_rfl))
    show SDs _ _ [.sh SC, .sh (.int k), s2, s3, s4, s5, s6, s7, s8, s9, s10, s11, s12] _
    refine sds_cons (sd_set (i := 2) (ex_callO hSt (show 1 ≤ 11 by omega) ?_ (by kernel_rfl)) rfl (of_decide_eq_true (by kernel_rfl)) (loc_of (by kernel_rfl)) (loc_of (by kernel_rfl)))
    walk_at "dw"
    refine ⟨⟨is, k, by rw [hSC], h63, by omega, by omega⟩, fun q o hqo => ?_⟩
    obtain ⟨xs, rfl, hx0⟩ := hqo
    show SDs _ _ [.sh SC, .sh (.int k), .own q (.lst xs), s3, s4, s5, s6, s7, s8, s9, s10, s11, s12] _
    refine sds_cons (sd_for (fun j e => ∃ st s3 s4 s5 s6 s7 s8 s9 s10 s11 s12, e = [.sh SC, .sh (.int k), .own q (.lst st), s3, s4, s5, s6, s7, s8, s9, s10, s11, s12] ∧ SOk (j * 20000) st ∧ j ≤ 3 ∧ (1 ≤ j → ∃ (t : Tm) (r : List PD), s5 = .sh (.list (tupOf t :: r)) ∧ Okt (nmS LT FG) GR TW8 t ∧ dpT t ≤ 3)) [3] (it_tup (ev_tup ?_)))
    walk_at "dw"
    refine ⟨_, od_pow ⟨by decide, by decide, by decide⟩, ?_⟩
    walk_at "dw"
    refine ⟨⟨xs, _, _, _, _, _, _, _, _, _, _, rfl, by simpa using hx0, by omega, fun h => by omega⟩, ?_⟩
    rintro j e ⟨st, s3, s4, s5, s6, s7, s8, s9, s10, s11, s12, rfl, hst, hj3, hsum⟩
    refine ⟨fun hj => ?_, fun d hd => ?_⟩
    · have hj : j = 3 := hj
      subst hj
      obtain ⟨t, r, rfl, ho, hd3⟩ := hsum (by omega)
      refine sds_cons (sd_if (et_not (et_val ?_)))
      refine ev_callS (i := 2) hR (show 11 ≤ 11 by omega) ⟨_, _, rfl, ?_⟩ (by kernel_rfl) rfl (by walk_at "dwvis")
      walk_at "dw"
      refine ⟨⟨hst.mono (by omega), t, rfl, ho, hd3⟩, fun d xs' hp => ?_⟩
      obtain ⟨rfl, rfl⟩ := hp
      refine ⟨_, rfl, ?_⟩
      walk_at "dw"
      exact ⟨_, _, _, _, _, _, _, _, _, _, _, _, rfl⟩
    · obtain ⟨most, rfl, hm1, hm2⟩ : ∃ most : Int, d = .int most ∧ 1 ≤ most ∧ most ≤ 10 ^ 9 := by
        have h := List.mem_of_getElem? hd
        simp only [List.mem_cons, List.not_mem_nil, or_false] at h
        rcases h with rfl | rfl | rfl
        · exact ⟨10, rfl, by decide, by decide⟩
        · exact ⟨1000, rfl, by decide, by decide⟩
        · exact ⟨10 ^ 9, rfl, by decide, by decide⟩
      have hj2 : j < 3 := (List.getElem?_eq_some_iff.mp hd).1
      refine tg_name (i := 3) ?_ (by decide) rfl (of_decide_eq_true (by kernel_rfl)) (loc_of (by kernel_rfl)) (loc_of (by kernel_rfl))
      show SDs _ _ [.sh SC, .sh (.int k), .own q (.lst st), .sh (.int most), s4, s5, s6, s7, s8, s9, s10, s11, s12] _
      refine sds_cons (sd_set (i := 4) (ex_ev ?_) rfl (of_decide_eq_true (by kernel_rfl)) (loc_of (by kernel_rfl)) (loc_of (by kernel_rfl)))
      refine ev_callS (i := 2) hH (show 3 ≤ 11 by omega) ⟨_, _, rfl, ?_⟩ (by kernel_rfl) rfl (by walk_at "dwvis")
      walk_at "dw"
      refine ⟨⟨hst.mono (by omega), most, rfl, hm1, hm2⟩, fun dh st1 hp => ?_⟩
      obtain ⟨hp1, kvs, rfl, hk⟩ := hp
      have hst1 : SOk (j * 20000 + 1100) st1 := hp1 _ hst
      show SDs _ _ [.sh SC, .sh (.int k), .own q (.lst st1), .sh (.int most), .sh (.dict kvs), s5, s6, s7, s8, s9, s10, s11, s12] _
      refine sds_cons (sd_setLc (i := 5) [("k", 12)] (fun i acc e => ∃ (st : List PD) (ts : List Tm), e = [.sh SC, .sh (.int k), .own q (.lst st), .sh (.int most), .sh (.dict kvs), s5, s6, s7, s8, s9, s10, s11, .no] ∧ acc = ts.map tupOf ∧ ts.length = i ∧ (∀ t ∈ ts, Okt (nmS LT FG) GR TW8 t ∧ dpT t ≤ 3) ∧ i ≤ 5 ∧ SOk (j * 20000 + 1100 + i * 101) st) (it_range1 ?_ (by kernel_rfl) (Blt.range (by assumption))) (of_decide_eq_true (by kernel_rfl)) rfl (by kernel_rfl) (by kernel_rfl) (by kernel_rfl) rfl (by decide +kernel))
      walk_at "dw"
      refine ⟨⟨st1, [], rfl, rfl, rfl, by simp, by omega, by simpa using hst1⟩, fun i acc e d hacc hI hd' => ?_, fun acc e hacc hI p5 hp5 => ?_⟩
      · obtain ⟨st2, ts, rfl, rfl, hts, hok, hi5, hst2⟩ := hI
        have hi6 : i < 5 := by
          have := (List.getElem?_eq_some_iff.mp hd').1
          exact this
        refine tg_name (i := 12) ?_ (by decide) rfl (of_decide_eq_true (by kernel_rfl)) (loc_of (by kernel_rfl)) (loc_of (by kernel_rfl))
        refine ets_nil (iteT ?_)
        refine ev_callS (i := 2) hM (show 6 ≤ 11 by omega) ⟨_, _, rfl, ?_⟩ (by kernel_rfl) rfl (by walk_at "dwvis")
        walk_at "dw"
        refine ev_callS (i := 2) hD (show 1 ≤ 11 by omega) ⟨_, _, rfl, ?_⟩ (by kernel_rfl) rfl (by walk_at "dwvis")
        walk_at "dw"
        refine ⟨⟨hst2.mono (by omega), _, rfl, by decide, by decide⟩, fun r st3 hpd => ?_⟩
        obtain ⟨ha1, ha2⟩ := hpd
        obtain ⟨r, rfl, r1, r2⟩ := ha2 _ rfl
        obtain ⟨n, rfl⟩ := Int.eq_ofNat_of_zero_le r1
        walk_at "dw"
        refine ⟨⟨⟨_, ha1 _ hst2, by omega⟩, n + 1, most, by omega, by rw [show (1 : Int) + (n : Int) = ((n + 1 : Nat) : Int) by omega], hm1, hm2⟩, fun dt st4 hpd => ?_⟩
        obtain ⟨hb1, t, rfl, ho, hd3⟩ := hpd
        refine ⟨st4, ts ++ [t], rfl, by simp, by simp [hts], fun t' ht' => ?_, by omega, (hb1 _ (ha1 _ hst2)).mono (by omega)⟩
        rcases List.mem_append.mp ht' with h | h
        · exact hok t' h
        · rw [List.mem_singleton] at h
          subst h
          exact ⟨ho, hd3⟩
      · obtain ⟨st2, ts, rfl, rfl, hts, hok, hi5, hst2⟩ := hI
        have hts5 : ts.length = 5 := hts
        have hst2 : SOk (j * 20000 + 1605) st2 := hst2.mono (by omega)
        show SDs _ _ [.sh SC, .sh (.int k), .own q (.lst st2), .sh (.int most), .sh (.dict kvs), .own p5 (.lst (ts.map tupOf)), s6, s7, s8, s9, s10, s11, .no] _
        refine sds_cons (sd_forE [6] (it_list (ev_ex (ex_bin ?_))))
        refine ev_nameF (i := 5) rfl ?_ rfl (by walk_at "dwvis")
        show EV _ _ [.sh SC, .sh (.int k), .own q (.lst st2), .sh (.int most), .sh (.dict kvs), .sh (.list (ts.map tupOf)), s6, s7, s8, s9, s10, s11, .no] _
        refine ev_ex (ex_slice ?_)
        walk_at "dw"
        refine ep_none ?_
        refine ep_some ?_
        walk_at "dw"
        refine ⟨_, sd_lst, fun r hr hown => ?_⟩
        obtain ⟨p6, rfl⟩ := hr
        refine ⟨_, rfl, ?_⟩
        have hcl : (cutP (ts.map tupOf) none (some 1)).length ≤ 5 := by
          unfold cutP
          rw [List.length_take, List.length_drop, List.length_map]
          omega
        have hcut : ∀ x ∈ ts.map tupOf ++ cutP (ts.map tupOf) none (some 1), ∃ t, x = tupOf t ∧ Okt (nmS LT FG) GR TW8 t ∧ dpT t ≤ 3 := by
          intro x hx
          have hx2 : x ∈ ts.map tupOf := by
            rcases List.mem_append.mp hx with h | h
            · exact h
            · unfold cutP at h
              exact List.mem_of_mem_drop (List.mem_of_mem_take h)
          obtain ⟨t, ht, rfl⟩ := List.mem_map.mp hx2
          exact ⟨t, rfl, hok t ht⟩
        refine ⟨_, od_cat (xs := ts.map tupOf) (ys := cutP (ts.map tupOf) none (some 1)) (by rw [List.length_map]; omega), fun r hr => ?_⟩
        obtain ⟨p7, rfl⟩ := hr
        refine ⟨_, rfl, _, rfl, ?_⟩
        have hcl2 : (ts.map tupOf ++ cutP (ts.map tupOf) none (some 1)).length ≤ 10 := by rw [List.length_append, List.length_map]; omega
        generalize ts.map tupOf ++ cutP (ts.map tupOf) none (some 1) = As at hcut hcl2
        show ∃ I : Nat → List Sl → Prop, I 0 [.sh SC, .sh (.int k), .own q (.lst st2), .sh (.int most), .sh (.dict kvs), .sh (.list (ts.map tupOf)), s6, s7, s8, s9, s10, s11, .no] ∧ _
        refine ⟨fun i e => ∃ (st : List PD) (s6 : Sl), e = [.sh SC, .sh (.int k), .own q (.lst st), .sh (.int most), .sh (.dict kvs), .sh (.list (ts.map tupOf)), s6, s7, s8, s9, s10, s11, .no] ∧ SOk (j * 20000 + 1605 + i * 1100) st, ⟨st2, s6, rfl, by simpa using hst2⟩, ?_⟩
        rintro i e ⟨st3, s6, rfl, hst3⟩
        refine ⟨fun hi => ?_, fun x hx => ?_⟩
        · match ts, hts5 with
          | t :: r, _ =>
            have hh := hok t List.mem_cons_self
            refine sds_nil ⟨st3, _, _, _, _, _, _, _, _, _, _, rfl, hst3.mono (by omega), by omega, fun _ => ⟨t, r.map tupOf, rfl, hh⟩⟩
        · obtain ⟨t, rfl, ho, hd3⟩ := hcut x (List.mem_of_getElem? hx)
          have hi10 : i < As.length := (List.getElem?_eq_some_iff.mp hx).1
          refine tg_name (i := 6) ?_ (by decide) rfl (of_decide_eq_true (by kernel_rfl)) (loc_of (by kernel_rfl)) (loc_of (by kernel_rfl))
          show SDs _ _ [.sh SC, .sh (.int k), .own q (.lst st3), .sh (.int most), .sh (.dict kvs), .sh (.list (ts.map tupOf)), .sh (tupOf t), s7, s8, s9, s10, s11, .no] _
          refine sds_cons (sd_if (et_not (et_val ?_)))
          refine ev_callS (i := 2) hO (show 9 ≤ 11 by omega) ⟨_, _, rfl, ?_⟩ (by kernel_rfl) rfl (by walk_at "dwvis")
          walk_at "dw"
          refine ⟨⟨hst3.mono (by omega), t, kvs, rfl, ho, hd3, hk⟩, fun d xs' hp => ?_⟩
          obtain ⟨rfl, hp2⟩ := hp
          refine ⟨_, rfl, ?_⟩
          walk_at "dw"
          exact ⟨xs', _, rfl, (hp2 _ hst3).mono (by omega)⟩
end K8

/-! K9t: the law's call from the top, nothing being shown there, one table of code objects. -/
namespace K8
open PySem PySem.Spec PyProof.Rows L2 Dw
/-- what is tracked at the call: the script, the table -/
def h0 (lo : Obj) (vs : List V) (a T : Addr) : Hp := fun b => if b = a then some (.frz lo (.lst vs)) else if b = T then some (.tbl #[]) else none
def f0 (lo : Obj) (vs : List V) (a : Addr) : Hp := fun b => if b = a then some (.frz lo (.lst vs)) else none
theorem repL_map (K : PySem.W.Frag) (F : Hp) : ∀ ns : List Int, RepL K F (ns.map PyData.int) (ns.map V.int)
  | [] => rfl
  | n :: ns => ⟨.int n, ns.map V.int, rfl, rfl, repL_map K F ns⟩
section
variable {P : Program} {w : World} {K : PySem.W.Frag} {mg mb : Str → Option Value} {k : Nat} {fa a c T : Addr} {x q : Str} {s : Shared} {us : List Value} {ns : List Int}
theorem law_top (KX : K.In s.heap) (gN : s.heap.Ns mainGlobals mg) (bN : s.heap.Ns builtinsNs mb) (bB : ∀ y : Str, y ≠ "__name__" → mb y = bootBuiltins y) (lim : s.heap.NoLimit) (gens : s.gens = #[])
    (eT : s.heap.get? T = some { cls := .none, data := .fields #[] }) (kT : K.lookup T = none) (cT : PySem.W.CodeHd s.heap c T)
    (bm : ∃ (m : Addr) (ob : Obj), mg "__builtins__" = some (.ref m) ∧ m ≠ builtinsNs ∧ s.heap.get? m = some ob ∧ ob.cls = .type "module" ∧ ob.dict = some builtinsNs ∧ ob.data = .plain)
    (sM : ∃ (o : Obj) (es : Array DictEntry) (ep : Nat), s.heap.get? sysModules = some o ∧ o.data = .dict es ep)
    (ea : s.heap.get? a = some { cls := .type "list", data := .seq us.toArray }) (ka : K.lookup a = none) (hi : IntsAre us ns) (hl : ns.length ≤ 63) (room : Room k callerA)
    (F : ∀ base : Heap, K.In base → base.Ns mainGlobals mg → LamX.TabB base mg c T → (∃ o, base.get? sysModules = some o) → ∃ fd, FnG ⟨P, w, K, mg, base, [(T, q)], true⟩ k fa fd [x] (SpD K [(T, q)] (PureN 1 CLaw fun _ => .bool true)) ∧ ∀ u, BindsTo s fd ⟨[u], []⟩ [(x, u)]) :
    codeAny (model P w) callerA (.call (.ref fa) ⟨[.ref a], []⟩) (fun r s' => r = .ok (.ret (.bool true)) ∧ OldK s.heap s'.heap ∧ s'.os = s.os ∧ AllBare s'.gens) s := by
  have hv := vals_ints hi
  have hlen := hi.length
  have aT : T ≠ a := fun z => by
    rw [z, ea] at eT
    have z' := congrArg Obj.data (Option.some.inj eT)
    cases z'
  let lo : Obj := { cls := .type "list", data := .seq us.toArray }
  have Ha : h0 lo (ns.map V.int) a T a = some (.frz lo (.lst (ns.map V.int))) := if_pos rfl
  have HT : h0 lo (ns.map V.int) a T T = some (.tbl #[]) := (if_neg aT).trans (if_pos rfl)
  have Hno : ∀ {b : Addr}, b ≠ a → b ≠ T → h0 lo (ns.map V.int) a T b = none := fun h1 h2 => (if_neg h1).trans (if_neg h2)
  generalize hH : h0 lo (ns.map V.int) a T = H at Ha HT Hno
  have off : ∀ {b : Addr} {o : Obj}, s.heap.get? b = some o → (∀ l n, o.data ≠ .seq l n) → o.data ≠ .fields #[] → H b = none := fun {b o} e d1 d2 => Hno (fun z => by
      rw [z, ea] at e
      cases e
      exact d1 _ _ rfl) fun z => by
      rw [z, eT] at e
      cases e
      exact d2 rfl
  have base : ∀ {b : Addr} {o : Obj}, s.heap.get? b = some o → (∀ l n, o.data ≠ .seq l n) → o.data ≠ .fields #[] → (hidT s.heap H).get? b = some o := fun e d1 d2 => hidT_get e (off e d1 d2)
  have nsB : ∀ {b : Addr} {m : Str → Option Value}, s.heap.Ns b m → (hidT s.heap H).Ns b m := fun {b m} h => by
    obtain ⟨o, es, ep, e, d, r⟩ := h
    exact ⟨o, es, ep, base e (fun l n z => by rw [d] at z; cases z) (fun z => by rw [d] at z; cases z), d, r⟩
  have KB : K.In (hidT s.heap H) := fun b o e => hidT_get (KX b o e) (Hno (fun z => by
      rw [z, ka] at e
      cases e) fun z => by
      rw [z, kT] at e
      cases e)
  have MB : L2.Mod K mg (hidT s.heap H) := ⟨KB, nsB gN, ⟨mb, nsB bN, bB⟩, by
    obtain ⟨mc, l1, l2⟩ := lim
    exact ⟨mc, nsB l1, l2⟩⟩
  have tb : LamX.TabB (hidT s.heap H) mg c T := by
    refine ⟨?_, ?_, fun z => ?_⟩
    · obtain ⟨o, vs, file, tf, flags, tg, inF, text, tt, e1, e2, e3, e4, rest⟩ := cT
      refine ⟨o, vs, file, tf, flags, tg, inF, text, tt, base e1 (fun l n z => by rw [e3] at z; cases z) (fun z => ?_), e2, e3, e4, rest⟩
      rw [e3] at z
      cases z
      simp at e4
    · obtain ⟨m, ob, b1, b2, b3, b4, b5, b6⟩ := bm
      refine ⟨m, ob, b1, b2, fun z => ?_, fun z => ?_, base b3 (fun l n z => by rw [b6] at z; cases z) (fun z => by rw [b6] at z; cases z), b4, b5, b6⟩
      · obtain ⟨o, es, ep, e, d, _⟩ := gN
        rw [z, e] at b3
        cases b3
        rw [d] at b6
        cases b6
      · rw [z, eT] at b3
        cases b3
        cases b6
    · obtain ⟨o, es, ep, e, d, _⟩ := gN
      rw [z, eT] at e
      cases e
      cases d
  have okH : HOk P w H s.heap := fun b u e => by
    by_cases h1 : b = a
    · subst h1
      rw [Ha] at e
      cases e
      exact ⟨ea, by rw [List.length_map]; exact Nat.le_trans hl (by decide), us, _, hv, ea⟩
    · by_cases h2 : b = T
      · subst h2
        rw [HT] at e
        cases e
        exact eT
      · rw [Hno h1 h2] at e
        cases e
  have env : Env0 P w K mg (hidT s.heap H) callerA [] s H := ⟨rfl, MB, fun b o e => of_hidT e, Nat.le_of_eq (hidT_size _ _), trivial, (by intro b hb; cases hb), okH, .of_eq gens⟩
  have sB : ∃ o, (hidT s.heap H).get? sysModules = some o := by
    obtain ⟨o, es, ep, e, d⟩ := sM
    exact ⟨o, base e (fun l n z => by rw [d] at z; cases z) (fun z => by rw [d] at z; cases z)⟩
  obtain ⟨fd, G, bind⟩ := F _ KB (nsB gN) tb sB
  have start : EnvOk K [(T, q)] (f0 lo (ns.map V.int) a) (fun _ => none) H [some (.ref a)] [.sh (.list (ns.map .int))] := by
    refine ⟨fun b u e => ?_, (fun b u e => by cases e), (fun p o e => rfl), rfl, fun i v sl e1 e2 => ?_, ?_, fun p hp => ?_, fun b ps e => ⟨?_, rfl⟩⟩
    · by_cases h1 : b = a
      · subst h1
        rw [Ha, ← (show f0 lo (ns.map V.int) b b = some (.frz lo (.lst (ns.map V.int))) from if_pos rfl)]
        exact e
      · have z := (if_neg h1).symm.trans e
        cases z
    · cases i with
      | zero =>
        cases e1
        cases e2
        exact ⟨a, ns.map V.int, rfl, .inr ⟨lo, if_pos rfl⟩, repL_map _ _ ns⟩
      | succ i => cases e1
    · exact List.nodup_nil
    · rw [List.mem_singleton] at hp
      subst hp
      exact ⟨#[], HT, trivial, fun pos cv z => by cases z⟩
    · by_cases h1 : b = a
      · subst h1
        rw [Ha] at e
        cases e
      · exact if_neg h1
  have spec : SpD K [(T, q)] (PureN 1 CLaw fun _ => .bool true) [.ref a] H (fun v _ => v = .bl true) fun _ _ _ => False :=
    ⟨_, _, _, fun r _ => r = .sh (.bool true), fun _ _ _ => False, start, ⟨[.list (ns.map .int)], rfl, rfl, ⟨ns, rfl, hl⟩, rfl⟩, (by
      rintro r as' v F' H' rfl _ _ z
      exact z), fun C ds as' da F' H' z => z.elim⟩
  refine codeAny_mono (G.run callerA [] s H ⟨[.ref a], []⟩ [.ref a] [.ref a] _ _ room (fun _ => rfl) env (bind (.ref a)) (.cons rfl .nil) spec) fun r s' out => ?_
  cases r with
  | error e =>
    obtain ⟨_, _, _, _, _, _, _, _, _, _, _, _, z⟩ := out
    exact z.elim
  | ok fl =>
    cases fl with
    | ret u =>
      obtain ⟨v, H', os, bare, un, ok', ru, rfl⟩ := out
      cases (show u = Value.bool true from ru)
      have same : ∀ b o, b ≠ T → s.heap.get? b = some o → s'.heap.get? b = some o := fun b o nb e => by
        by_cases h1 : b = a
        · subst h1
          obtain ⟨e2, _⟩ := ok' b _ (un.frzs b lo _ Ha)
          rw [ea] at e
          cases e
          exact e2
        · exact un.keep b o e (Hno h1 nb) (by intro z; cases z) (by intro z; cases z)
      obtain ⟨more, eM⟩ := un.tbls T #[] HT
      have grown : s'.heap.get? T = some { cls := .none, data := .fields (#[] ++ more) } := ok' T _ eM
      refine ⟨rfl, ⟨fun b o e => ?_, fun b o e => ?_⟩, os, bare⟩
      · by_cases h1 : b = T
        · subst h1
          rw [eT] at e
          cases e
          exact .inr (.inl ⟨(cT.tab eT).isCodeTable, rfl, #[], more, rfl, by rw [grown, Array.empty_append]⟩)
        · exact .inl (same b o h1 e)
      · by_cases h1 : b = T
        · subst h1
          exact ⟨_, grown⟩
        · exact ⟨o, same b o h1 e⟩
    | _ => exact False.elim out
end
end K8

/-! K9v: all defs, behind the top. -/
namespace K8
open PySem PySem.Spec PyProof.Rows L2 Dw
def LT0 : Str := "abcdefghijklmnopqrstuvwxyz"
def FG0 : Str := "0123456789"
def SG0 : Str := " !\"#$&'()*+,-./0123456789:;<=>?@ABCDEFGHIJKLMNOPQRSTUVWXYZ[\\]^_`abcdefghijklmnopqrstuvwxyz{|}~"
theorem kon : Kon LT0 FG0 SG0 where
  n4 := by
    intro q hq
    unfold names4 at hq
    simp only [List.mem_cons, List.not_mem_nil, or_false] at hq
    rcases hq with rfl | rfl | rfl | rfl <;> decide +kernel
  sg := by
    intro c hc
    have h : ((List.range 127).all fun c => !vch c || decide (c ∈ (SG0 ++ ("\n" : Str)).cps.toList)) = true := by decide +kernel
    rw [List.all_eq_true] at h
    have hlt : c < 127 := by
      unfold vch at hc
      simp at hc
      omega
    have h2 := h c (List.mem_range.mpr hlt)
    rw [hc] at h2
    exact of_decide_eq_true h2
  nm := by
    intro z hz
    have h : (LT0 ++ FG0).cps.toList.all (fun c => decide (c < 128)) = true := by decide +kernel
    rw [List.all_eq_true] at h
    unfold nameZ at hz
    simp only [Bool.and_eq_true, decide_eq_true_eq] at hz
    obtain ⟨h1, ⟨_, h2⟩, _⟩ := hz
    refine ⟨h2, fun c hc => ?_⟩
    unfold strOf at h1
    rw [List.all_eq_true] at h1
    exact of_decide_eq_true (h c (of_decide_eq_true (h1 c hc)))
  n5 := by
    intro z hz
    simp only [List.mem_cons, List.not_mem_nil, or_false] at hz
    rcases hz with rfl | rfl | rfl | rfl | rfl <;> decide +kernel
theorem kon2 : Kon2 LT0 FG0 := ⟨by decide +kernel, by decide +kernel⟩
theorem kon3 : Kon3 LT0 FG0 SG0 := ⟨by decide +kernel⟩
theorem nm_ok {z : Str} (h : nameZ LT0 FG0 z = true) : PyData.strOk z = true := by
  obtain ⟨_, h2⟩ := kon.nm z h
  unfold PyData.strOk
  rw [← Array.all_toList, List.all_eq_true]
  intro c hc
  have := h2 c hc
  exact decide_eq_true (by omega)
theorem toFun {K : PySem.W.Frag} {x qual : Str} {st : Stmt} {f : Addr} {fd : FuncData} (F : FunD K x qual (defArgs st) (defBody st) (defScope st) [] [] f fd) : Fun K x qual st f fd := by
  obtain ⟨oc, od, dV, kV, doc, pm, an, cdv, ct, osl, rfl, lk, hcd, hD, hK⟩ := F.ex
  rcases hD with ⟨_, rfl⟩ | ⟨e, _⟩
  · exact ⟨⟨oc, od, kV, doc, pm, an, cdv, ct, osl, rfl, lk, hcd⟩, F.kp⟩
  · exact absurd rfl e
section
variable {w : World} {K : PySem.W.Frag} {h : Heap} {mg : Str → Option Value} {base : Heap}
abbrev P0 : Program := PySem.Challenge.pw_everypipe_k08_whole_sums
abbrev qL : Str := lamQ ++ "<lambda>"
abbrev tabL (K : PySem.W.Frag) : Addr := (He.cT K ("_law_refused_right", none)).2
abbrev codL (K : PySem.W.Frag) : Addr := (He.cT K ("_law_refused_right", none)).1
abbrev Gd (w : World) (K : PySem.W.Frag) (mg : Str → Option Value) (base : Heap) (b : Bool) : Pg := ⟨P0, w, K, mg, base, [(tabL K, qL)], b⟩
/-- what is known at the law's call -/
structure At0 (w : World) (K : PySem.W.Frag) (h : Heap) (mg : Str → Option Value) : Prop where
  X : K.In h
  G : h.Ns mainGlobals mg
  c : He.SaysX faN fnN tsN tfN exB w h K
theorem blt (A : At0 w K h mg) : Blt mg where
  isinstance := He.free_ok A.X A.G (A.c.t.d.fact 40 (f := .free "isinstance") rfl)
  int := He.free_ok A.X A.G (A.c.t.d.fact 41 (f := .free "int") rfl)
  bool := He.free_ok A.X A.G (A.c.t.d.fact 42 (f := .free "bool") rfl)
  str := He.free_ok A.X A.G (A.c.t.d.fact 43 (f := .free "str") rfl)
  list := He.free_ok A.X A.G (A.c.t.d.fact 44 (f := .free "list") rfl)
  tuple := He.free_ok A.X A.G (A.c.t.d.fact 45 (f := .free "tuple") rfl)
  dict := He.free_ok A.X A.G (A.c.t.d.fact 46 (f := .free "dict") rfl)
  len := He.free_ok A.X A.G (A.c.t.d.fact 47 (f := .free "len") rfl)
  all := He.free_ok A.X A.G (A.c.t.d.fact 48 (f := .free "all") rfl)
  any := He.free_ok A.X A.G (A.c.t.d.fact 49 (f := .free "any") rfl)
  abs := He.free_ok A.X A.G (A.c.t.d.fact 50 (f := .free "abs") rfl)
  sum := He.free_ok A.X A.G (A.c.t.d.fact 51 (f := .free "sum") rfl)
  enumerate := He.free_ok A.X A.G (A.c.t.d.fact 52 (f := .free "enumerate") rfl)
  zip := He.free_ok A.X A.G (A.c.t.d.fact 53 (f := .free "zip") rfl)
  range := He.free_ok A.X A.G (A.c.t.d.fact 54 (f := .free "range") rfl)
  repr := He.free_ok A.X A.G (A.c.t.d.fact 55 (f := .free "repr") rfl)
  sorted := He.free_ok A.X A.G (A.c.t.d.fact 56 (f := .free "sorted") rfl)
  min := He.free_ok A.X A.G (A.c.t.d.fact 57 (f := .free "min") rfl)
  max := He.free_ok A.X A.G (A.c.t.d.fact 58 (f := .free "max") rfl)
theorem g_is_integer (A : At0 w K h mg) : mg "is_integer" = some (.ref (He.ga K "is_integer")) := He.glo_ok A.X A.G (A.c.t.d.fact 0 (f := .glo "is_integer") rfl)
theorem f_is_integer (A : At0 w K h mg) : ∃ fd, Fun K "is_integer" "is_integer" s_is_integer (He.ga K "is_integer") fd ∧ Binds K fd P_is_integer [] := by
  obtain ⟨fd, F⟩ := A.c.t.d.def_ 0 (d := d_is_integer) rfl
  exact ⟨fd, toFun F, F.bindsN fun _ _ _ _ _ _ us hl => match us, hl with | [_], _ => rfl⟩
theorem g_is_number (A : At0 w K h mg) : mg "is_number" = some (.ref (He.ga K "is_number")) := He.glo_ok A.X A.G (A.c.t.d.fact 1 (f := .glo "is_number") rfl)
theorem f_is_number (A : At0 w K h mg) : ∃ fd, Fun K "is_number" "is_number" s_is_number (He.ga K "is_number") fd ∧ Binds K fd P_is_number [] := by
  obtain ⟨fd, F⟩ := A.c.t.d.def_ 1 (d := d_is_number) rfl
  exact ⟨fd, toFun F, F.bindsN fun _ _ _ _ _ _ us hl => match us, hl with | [_], _ => rfl⟩
theorem g_is_number_to (A : At0 w K h mg) : mg "is_number_to" = some (.ref (He.ga K "is_number_to")) := He.glo_ok A.X A.G (A.c.t.d.fact 2 (f := .glo "is_number_to") rfl)
theorem f_is_number_to (A : At0 w K h mg) : ∃ fd, Fun K "is_number_to" "is_number_to" s_is_number_to (He.ga K "is_number_to") fd ∧ Binds K fd P_is_number_to [] := by
  obtain ⟨fd, F⟩ := A.c.t.d.def_ 2 (d := d_is_number_to) rfl
  exact ⟨fd, toFun F, F.bindsN fun _ _ _ _ _ _ us hl => match us, hl with | [_, _], _ => rfl⟩
theorem g_is_listed (A : At0 w K h mg) : mg "is_listed" = some (.ref (He.ga K "is_listed")) := He.glo_ok A.X A.G (A.c.t.d.fact 3 (f := .glo "is_listed") rfl)
theorem f_is_listed (A : At0 w K h mg) : ∃ fd, Fun K "is_listed" "is_listed" s_is_listed (He.ga K "is_listed") fd ∧ Binds K fd P_is_listed [] := by
  obtain ⟨fd, F⟩ := A.c.t.d.def_ 3 (d := d_is_listed) rfl
  exact ⟨fd, toFun F, F.bindsN fun _ _ _ _ _ _ us hl => match us, hl with | [_], _ => rfl⟩
theorem g_word_of (A : At0 w K h mg) : mg "word_of" = some (.ref (He.ga K "word_of")) := He.glo_ok A.X A.G (A.c.t.d.fact 4 (f := .glo "word_of") rfl)
theorem f_word_of (A : At0 w K h mg) : ∃ fd, Fun K "word_of" "word_of" s_word_of (He.ga K "word_of") fd ∧ Binds K fd P_word_of [] := by
  obtain ⟨fd, F⟩ := A.c.t.d.def_ 4 (d := d_word_of) rfl
  exact ⟨fd, toFun F, F.bindsN fun _ _ _ _ _ _ us hl => match us, hl with | [_], _ => rfl⟩
theorem g_is_string_of (A : At0 w K h mg) : mg "is_string_of" = some (.ref (He.ga K "is_string_of")) := He.glo_ok A.X A.G (A.c.t.d.fact 5 (f := .glo "is_string_of") rfl)
theorem f_is_string_of (A : At0 w K h mg) : ∃ fd, Fun K "is_string_of" "is_string_of" s_is_string_of (He.ga K "is_string_of") fd ∧ Binds K fd P_is_string_of [] := by
  obtain ⟨fd, F⟩ := A.c.t.d.def_ 5 (d := d_is_string_of) rfl
  exact ⟨fd, toFun F, F.bindsN fun _ _ _ _ _ _ us hl => match us, hl with | [_, _], _ => rfl⟩
theorem g_is_text (A : At0 w K h mg) : mg "is_text" = some (.ref (He.ga K "is_text")) := He.glo_ok A.X A.G (A.c.t.d.fact 6 (f := .glo "is_text") rfl)
theorem f_is_text (A : At0 w K h mg) : ∃ fd, Fun K "is_text" "is_text" s_is_text (He.ga K "is_text") fd ∧ Binds K fd P_is_text [] := by
  obtain ⟨fd, F⟩ := A.c.t.d.def_ 6 (d := d_is_text) rfl
  exact ⟨fd, toFun F, F.bindsN fun _ _ _ _ _ _ us hl => match us, hl with | [_], _ => rfl⟩
theorem g_is_name (A : At0 w K h mg) : mg "is_name" = some (.ref (He.ga K "is_name")) := He.glo_ok A.X A.G (A.c.t.d.fact 7 (f := .glo "is_name") rfl)
theorem f_is_name (A : At0 w K h mg) : ∃ fd, Fun K "is_name" "is_name" s_is_name (He.ga K "is_name") fd ∧ Binds K fd P_is_name [] := by
  obtain ⟨fd, F⟩ := A.c.t.d.def_ 7 (d := d_is_name) rfl
  exact ⟨fd, toFun F, F.bindsN fun _ _ _ _ _ _ us hl => match us, hl with | [_], _ => rfl⟩
theorem g_sum_form (A : At0 w K h mg) : mg "sum_form" = some (.ref (He.ga K "sum_form")) := He.glo_ok A.X A.G (A.c.t.d.fact 8 (f := .glo "sum_form") rfl)
theorem f_sum_form (A : At0 w K h mg) : ∃ fd, Fun K "sum_form" "sum_form" s_sum_form (He.ga K "sum_form") fd ∧ Binds K fd P_sum_form [] := by
  obtain ⟨fd, F⟩ := A.c.t.d.def_ 8 (d := d_sum_form) rfl
  exact ⟨fd, toFun F, F.bindsN fun _ _ _ _ _ _ us hl => match us, hl with | [_], _ => rfl⟩
theorem g_form_in_word (A : At0 w K h mg) : mg "form_in_word" = some (.ref (He.ga K "form_in_word")) := He.glo_ok A.X A.G (A.c.t.d.fact 9 (f := .glo "form_in_word") rfl)
theorem f_form_in_word (A : At0 w K h mg) : ∃ fd, Fun K "form_in_word" "form_in_word" s_form_in_word (He.ga K "form_in_word") fd ∧ Binds K fd P_form_in_word [] := by
  obtain ⟨fd, F⟩ := A.c.t.d.def_ 9 (d := d_form_in_word) rfl
  exact ⟨fd, toFun F, F.bindsN fun _ _ _ _ _ _ us hl => match us, hl with | [_, _], _ => rfl⟩
theorem g_is_form_in_word (A : At0 w K h mg) : mg "is_form_in_word" = some (.ref (He.ga K "is_form_in_word")) := He.glo_ok A.X A.G (A.c.t.d.fact 10 (f := .glo "is_form_in_word") rfl)
theorem f_is_form_in_word (A : At0 w K h mg) : ∃ fd, Fun K "is_form_in_word" "is_form_in_word" s_is_form_in_word (He.ga K "is_form_in_word") fd ∧ Binds K fd P_is_form_in_word [] := by
  obtain ⟨fd, F⟩ := A.c.t.d.def_ 10 (d := d_is_form_in_word) rfl
  exact ⟨fd, toFun F, F.bindsN fun _ _ _ _ _ _ us hl => match us, hl with | [_], _ => rfl⟩
theorem g_form_of (A : At0 w K h mg) : mg "form_of" = some (.ref (He.ga K "form_of")) := He.glo_ok A.X A.G (A.c.t.d.fact 11 (f := .glo "form_of") rfl)
theorem f_form_of (A : At0 w K h mg) : ∃ fd, Fun K "form_of" "form_of" s_form_of (He.ga K "form_of") fd ∧ Binds K fd P_form_of [] := by
  obtain ⟨fd, F⟩ := A.c.t.d.def_ 11 (d := d_form_of) rfl
  exact ⟨fd, toFun F, F.bindsN fun _ _ _ _ _ _ us hl => match us, hl with | [_, _], _ => rfl⟩
theorem g_is_left_out (A : At0 w K h mg) : mg "is_left_out" = some (.ref (He.ga K "is_left_out")) := He.glo_ok A.X A.G (A.c.t.d.fact 12 (f := .glo "is_left_out") rfl)
theorem f_is_left_out (A : At0 w K h mg) : ∃ fd, Fun K "is_left_out" "is_left_out" s_is_left_out (He.ga K "is_left_out") fd ∧ Binds K fd P_is_left_out [] := by
  obtain ⟨fd, F⟩ := A.c.t.d.def_ 12 (d := d_is_left_out) rfl
  exact ⟨fd, toFun F, F.bindsN fun _ _ _ _ _ _ us hl => match us, hl with | [_, _], _ => rfl⟩
theorem g_kind_inside (A : At0 w K h mg) : mg "kind_inside" = some (.ref (He.ga K "kind_inside")) := He.glo_ok A.X A.G (A.c.t.d.fact 13 (f := .glo "kind_inside") rfl)
theorem f_kind_inside (A : At0 w K h mg) : ∃ fd, Fun K "kind_inside" "kind_inside" s_kind_inside (He.ga K "kind_inside") fd ∧ Binds K fd P_kind_inside [] := by
  obtain ⟨fd, F⟩ := A.c.t.d.def_ 13 (d := d_kind_inside) rfl
  exact ⟨fd, toFun F, F.bindsN fun _ _ _ _ _ _ us hl => match us, hl with | [_], _ => rfl⟩
theorem g_fits (A : At0 w K h mg) : mg "fits" = some (.ref (He.ga K "fits")) := He.glo_ok A.X A.G (A.c.t.d.fact 14 (f := .glo "fits") rfl)
theorem f_fits (A : At0 w K h mg) : ∃ fd, Fun K "fits" "fits" s_fits (He.ga K "fits") fd ∧ Binds K fd P_fits [] := by
  obtain ⟨fd, F⟩ := A.c.t.d.def_ 14 (d := d_fits) rfl
  exact ⟨fd, toFun F, F.bindsN fun _ _ _ _ _ _ us hl => match us, hl with | [_, _], _ => rfl⟩
theorem g_is_values (A : At0 w K h mg) : mg "is_values" = some (.ref (He.ga K "is_values")) := He.glo_ok A.X A.G (A.c.t.d.fact 15 (f := .glo "is_values") rfl)
theorem f_is_values (A : At0 w K h mg) : ∃ fd, Fun K "is_values" "is_values" s_is_values (He.ga K "is_values") fd ∧ Binds K fd P_is_values [] := by
  obtain ⟨fd, F⟩ := A.c.t.d.def_ 15 (d := d_is_values) rfl
  exact ⟨fd, toFun F, F.bindsN fun _ _ _ _ _ _ us hl => match us, hl with | [_], _ => rfl⟩
theorem g_number_of (A : At0 w K h mg) : mg "number_of" = some (.ref (He.ga K "number_of")) := He.glo_ok A.X A.G (A.c.t.d.fact 16 (f := .glo "number_of") rfl)
theorem f_number_of (A : At0 w K h mg) : ∃ fd, Fun K "number_of" "number_of" s_number_of (He.ga K "number_of") fd ∧ Binds K fd P_number_of [] := by
  obtain ⟨fd, F⟩ := A.c.t.d.def_ 16 (d := d_number_of) rfl
  exact ⟨fd, toFun F, F.bindsN fun _ _ _ _ _ _ us hl => match us, hl with | [_], _ => rfl⟩
theorem g_toward_nought (A : At0 w K h mg) : mg "toward_nought" = some (.ref (He.ga K "toward_nought")) := He.glo_ok A.X A.G (A.c.t.d.fact 17 (f := .glo "toward_nought") rfl)
theorem f_toward_nought (A : At0 w K h mg) : ∃ fd, Fun K "toward_nought" "toward_nought" s_toward_nought (He.ga K "toward_nought") fd ∧ Binds K fd P_toward_nought [] := by
  obtain ⟨fd, F⟩ := A.c.t.d.def_ 17 (d := d_toward_nought) rfl
  exact ⟨fd, toFun F, F.bindsN fun _ _ _ _ _ _ us hl => match us, hl with | [_, _], _ => rfl⟩
theorem g_joined_numbers (A : At0 w K h mg) : mg "joined_numbers" = some (.ref (He.ga K "joined_numbers")) := He.glo_ok A.X A.G (A.c.t.d.fact 18 (f := .glo "joined_numbers") rfl)
theorem f_joined_numbers (A : At0 w K h mg) : ∃ fd, Fun K "joined_numbers" "joined_numbers" s_joined_numbers (He.ga K "joined_numbers") fd ∧ Binds K fd P_joined_numbers [] := by
  obtain ⟨fd, F⟩ := A.c.t.d.def_ 18 (d := d_joined_numbers) rfl
  exact ⟨fd, toFun F, F.bindsN fun _ _ _ _ _ _ us hl => match us, hl with | [_, _, _], _ => rfl⟩
theorem g_counted (A : At0 w K h mg) : mg "counted" = some (.ref (He.ga K "counted")) := He.glo_ok A.X A.G (A.c.t.d.fact 19 (f := .glo "counted") rfl)
theorem f_counted (A : At0 w K h mg) : ∃ fd, Fun K "counted" "counted" s_counted (He.ga K "counted") fd ∧ Binds K fd P_counted [] := by
  obtain ⟨fd, F⟩ := A.c.t.d.def_ 19 (d := d_counted) rfl
  exact ⟨fd, toFun F, F.bindsN fun _ _ _ _ _ _ us hl => match us, hl with | [_, _], _ => rfl⟩
theorem g_sum_value (A : At0 w K h mg) : mg "sum_value" = some (.ref (He.ga K "sum_value")) := He.glo_ok A.X A.G (A.c.t.d.fact 20 (f := .glo "sum_value") rfl)
theorem f_sum_value (A : At0 w K h mg) : ∃ fd, Fun K "sum_value" "sum_value" s_sum_value (He.ga K "sum_value") fd ∧ Binds K fd P_sum_value [] := by
  obtain ⟨fd, F⟩ := A.c.t.d.def_ 20 (d := d_sum_value) rfl
  exact ⟨fd, toFun F, F.bindsN fun _ _ _ _ _ _ us hl => match us, hl with | [_, _], _ => rfl⟩
theorem g__law_stream (A : At0 w K h mg) : mg "_law_stream" = some (.ref (He.ga K "_law_stream")) := He.glo_ok A.X A.G (A.c.t.d.fact 21 (f := .glo "_law_stream") rfl)
theorem f__law_stream (A : At0 w K h mg) : ∃ fd, Fun K "_law_stream" "_law_stream" s__law_stream (He.ga K "_law_stream") fd ∧ Binds K fd P__law_stream [] := by
  obtain ⟨fd, F⟩ := A.c.t.d.def_ 21 (d := d__law_stream) rfl
  exact ⟨fd, toFun F, F.bindsN fun _ _ _ _ _ _ us hl => match us, hl with | [_, _], _ => rfl⟩
theorem g__law_draw (A : At0 w K h mg) : mg "_law_draw" = some (.ref (He.ga K "_law_draw")) := He.glo_ok A.X A.G (A.c.t.d.fact 22 (f := .glo "_law_draw") rfl)
theorem f__law_draw (A : At0 w K h mg) : ∃ fd, Fun K "_law_draw" "_law_draw" s__law_draw (He.ga K "_law_draw") fd ∧ Binds K fd P__law_draw [] := by
  obtain ⟨fd, F⟩ := A.c.t.d.def_ 22 (d := d__law_draw) rfl
  exact ⟨fd, toFun F, F.bindsN fun _ _ _ _ _ _ us hl => match us, hl with | [_, _], _ => rfl⟩
theorem g__law_pick (A : At0 w K h mg) : mg "_law_pick" = some (.ref (He.ga K "_law_pick")) := He.glo_ok A.X A.G (A.c.t.d.fact 23 (f := .glo "_law_pick") rfl)
theorem f__law_pick (A : At0 w K h mg) : ∃ fd, Fun K "_law_pick" "_law_pick" s__law_pick (He.ga K "_law_pick") fd ∧ Binds K fd P__law_pick [] := by
  obtain ⟨fd, F⟩ := A.c.t.d.def_ 23 (d := d__law_pick) rfl
  exact ⟨fd, toFun F, F.bindsN fun _ _ _ _ _ _ us hl => match us, hl with | [_, _], _ => rfl⟩
theorem g__law_mixed (A : At0 w K h mg) : mg "_law_mixed" = some (.ref (He.ga K "_law_mixed")) := He.glo_ok A.X A.G (A.c.t.d.fact 24 (f := .glo "_law_mixed") rfl)
theorem f__law_mixed (A : At0 w K h mg) : ∃ fd, Fun K "_law_mixed" "_law_mixed" s__law_mixed (He.ga K "_law_mixed") fd ∧ Binds K fd P__law_mixed [] := by
  obtain ⟨fd, F⟩ := A.c.t.d.def_ 24 (d := d__law_mixed) rfl
  exact ⟨fd, toFun F, F.bindsN fun _ _ _ _ _ _ us hl => match us, hl with | [_, _], _ => rfl⟩
theorem g__law_loose (A : At0 w K h mg) : mg "_law_loose" = some (.ref (He.ga K "_law_loose")) := He.glo_ok A.X A.G (A.c.t.d.fact 25 (f := .glo "_law_loose") rfl)
theorem f__law_loose (A : At0 w K h mg) : ∃ fd, Fun K "_law_loose" "_law_loose" s__law_loose (He.ga K "_law_loose") fd ∧ Binds K fd P__law_loose [] := by
  obtain ⟨fd, F⟩ := A.c.t.d.def_ 25 (d := d__law_loose) rfl
  exact ⟨fd, toFun F, F.bindsN fun _ _ _ _ _ _ us hl => match us, hl with | [_, _], _ => rfl⟩
theorem g__law_same (A : At0 w K h mg) : mg "_law_same" = some (.ref (He.ga K "_law_same")) := He.glo_ok A.X A.G (A.c.t.d.fact 26 (f := .glo "_law_same") rfl)
theorem f__law_same (A : At0 w K h mg) : ∃ fd, Fun K "_law_same" "_law_same" s__law_same (He.ga K "_law_same") fd ∧ Binds K fd P__law_same [] := by
  obtain ⟨fd, F⟩ := A.c.t.d.def_ 26 (d := d__law_same) rfl
  exact ⟨fd, toFun F, F.bindsN fun _ _ _ _ _ _ us hl => match us, hl with | [_, _], _ => rfl⟩
theorem g__law_met (A : At0 w K h mg) : mg "_law_met" = some (.ref (He.ga K "_law_met")) := He.glo_ok A.X A.G (A.c.t.d.fact 27 (f := .glo "_law_met") rfl)
theorem f__law_met (A : At0 w K h mg) : ∃ fd, Fun K "_law_met" "_law_met" s__law_met (He.ga K "_law_met") fd ∧ Binds K fd P__law_met [] := by
  obtain ⟨fd, F⟩ := A.c.t.d.def_ 27 (d := d__law_met) rfl
  exact ⟨fd, toFun F, F.bindsN fun _ _ _ _ _ _ us hl => match us, hl with | [_], _ => rfl⟩
theorem g__law_sum (A : At0 w K h mg) : mg "_law_sum" = some (.ref (He.ga K "_law_sum")) := He.glo_ok A.X A.G (A.c.t.d.fact 28 (f := .glo "_law_sum") rfl)
theorem f__law_sum (A : At0 w K h mg) : ∃ fd, Fun K "_law_sum" "_law_sum" s__law_sum (He.ga K "_law_sum") fd ∧ Binds K fd P__law_sum [] := by
  obtain ⟨fd, F⟩ := A.c.t.d.def_ 28 (d := d__law_sum) rfl
  exact ⟨fd, toFun F, F.bindsN fun _ _ _ _ _ _ us hl => match us, hl with | [_, _, _], _ => rfl⟩
theorem g__law_held (A : At0 w K h mg) : mg "_law_held" = some (.ref (He.ga K "_law_held")) := He.glo_ok A.X A.G (A.c.t.d.fact 29 (f := .glo "_law_held") rfl)
theorem f__law_held (A : At0 w K h mg) : ∃ fd, Fun K "_law_held" "_law_held" s__law_held (He.ga K "_law_held") fd ∧ Binds K fd P__law_held [] := by
  obtain ⟨fd, F⟩ := A.c.t.d.def_ 29 (d := d__law_held) rfl
  exact ⟨fd, toFun F, F.bindsN fun _ _ _ _ _ _ us hl => match us, hl with | [_, _], _ => rfl⟩
theorem g__law_number (A : At0 w K h mg) : mg "_law_number" = some (.ref (He.ga K "_law_number")) := He.glo_ok A.X A.G (A.c.t.d.fact 30 (f := .glo "_law_number") rfl)
theorem f__law_number (A : At0 w K h mg) : ∃ fd, Fun K "_law_number" "_law_number" s__law_number (He.ga K "_law_number") fd ∧ Binds K fd P__law_number [] := by
  obtain ⟨fd, F⟩ := A.c.t.d.def_ 30 (d := d__law_number) rfl
  exact ⟨fd, toFun F, F.bindsN fun _ _ _ _ _ _ us hl => match us, hl with | [_], _ => rfl⟩
theorem g__law_worth (A : At0 w K h mg) : mg "_law_worth" = some (.ref (He.ga K "_law_worth")) := He.glo_ok A.X A.G (A.c.t.d.fact 31 (f := .glo "_law_worth") rfl)
theorem f__law_worth (A : At0 w K h mg) : ∃ fd, Fun K "_law_worth" "_law_worth" s__law_worth (He.ga K "_law_worth") fd ∧ Binds K fd P__law_worth [] := by
  obtain ⟨fd, F⟩ := A.c.t.d.def_ 31 (d := d__law_worth) rfl
  exact ⟨fd, toFun F, F.bindsN fun _ _ _ _ _ _ us hl => match us, hl with | [_, _], _ => rfl⟩
theorem g__law_parted (A : At0 w K h mg) : mg "_law_parted" = some (.ref (He.ga K "_law_parted")) := He.glo_ok A.X A.G (A.c.t.d.fact 32 (f := .glo "_law_parted") rfl)
theorem f__law_parted (A : At0 w K h mg) : ∃ fd, Fun K "_law_parted" "_law_parted" s__law_parted (He.ga K "_law_parted") fd ∧ Binds K fd P__law_parted [] := by
  obtain ⟨fd, F⟩ := A.c.t.d.def_ 32 (d := d__law_parted) rfl
  exact ⟨fd, toFun F, F.bindsN fun _ _ _ _ _ _ us hl => match us, hl with | [_, _, _], _ => rfl⟩
theorem g__law_one_right (A : At0 w K h mg) : mg "_law_one_right" = some (.ref (He.ga K "_law_one_right")) := He.glo_ok A.X A.G (A.c.t.d.fact 33 (f := .glo "_law_one_right") rfl)
theorem f__law_one_right (A : At0 w K h mg) : ∃ fd, Fun K "_law_one_right" "_law_one_right" s__law_one_right (He.ga K "_law_one_right") fd ∧ Binds K fd P__law_one_right [] := by
  obtain ⟨fd, F⟩ := A.c.t.d.def_ 33 (d := d__law_one_right) rfl
  exact ⟨fd, toFun F, F.bindsN fun _ _ _ _ _ _ us hl => match us, hl with | [_, _, _], _ => rfl⟩
theorem g__law_refused_right (A : At0 w K h mg) : mg "_law_refused_right" = some (.ref (He.ga K "_law_refused_right")) := He.glo_ok A.X A.G (A.c.t.d.fact 34 (f := .glo "_law_refused_right") rfl)
theorem f__law_refused_right (A : At0 w K h mg) : ∃ fd, Fun K "_law_refused_right" "_law_refused_right" s__law_refused_right (He.ga K "_law_refused_right") fd ∧ Binds K fd P__law_refused_right [] := by
  obtain ⟨fd, F⟩ := A.c.t.d.def_ 34 (d := d__law_refused_right) rfl
  exact ⟨fd, toFun F, F.bindsN fun _ _ _ _ _ _ us hl => match us, hl with | [_, _], _ => rfl⟩
theorem g_law (A : At0 w K h mg) : mg "law" = some (.ref (He.ga K "law")) := He.glo_ok A.X A.G (A.c.t.d.fact 35 (f := .glo "law") rfl)
theorem f_law (A : At0 w K h mg) : ∃ fd, Fun K "law" "law" s_law (He.ga K "law") fd ∧ Binds K fd P_law [] := by
  obtain ⟨fd, F⟩ := A.c.t.d.def_ 35 (d := d_law) rfl
  exact ⟨fd, toFun F, F.bindsN fun _ _ _ _ _ _ us hl => match us, hl with | [_], _ => rfl⟩
end
end K8

/-! K9w: each def's promise, behind the top. -/
namespace K8
open PySem PySem.Spec PyProof.Rows L2 Dw
section
variable {w : World} {K : PySem.W.Frag} {h : Heap} {mg : Str → Option Value} {base : Heap} {b : Bool}
theorem k_SIGNS (A : At0 w K h mg) : GlobD mg K "SIGNS" (.str SG0) := by
  obtain ⟨t, e⟩ := He.str_ok A.X A.G (A.c.t.d.fact 59 (f := .str "SIGNS" " !\"#$&'()*+,-./0123456789:;<=>?@ABCDEFGHIJKLMNOPQRSTUVWXYZ[\\]^_`abcdefghijklmnopqrstuvwxyz{|}~") rfl)
  exact ⟨⟨_, .str SG0, e, ⟨t, rfl⟩, rfl⟩⟩
theorem k_LETTERS (A : At0 w K h mg) : GlobD mg K "LETTERS" (.str LT0) := by
  obtain ⟨t, e⟩ := He.str_ok A.X A.G (A.c.t.d.fact 60 (f := .str "LETTERS" "abcdefghijklmnopqrstuvwxyz") rfl)
  exact ⟨⟨_, .str LT0, e, ⟨t, rfl⟩, rfl⟩⟩
theorem k_FIGURES (A : At0 w K h mg) : GlobD mg K "FIGURES" (.str FG0) := by
  obtain ⟨t, e⟩ := He.str_ok A.X A.G (A.c.t.d.fact 61 (f := .str "FIGURES" "0123456789") rfl)
  exact ⟨⟨_, .str FG0, e, ⟨t, rfl⟩, rfl⟩⟩
theorem k_GREATEST (A : At0 w K h mg) : GlobD mg K "GREATEST" (.int 999999999) := by
  obtain ⟨t, e⟩ := He.int_ok A.X A.G (A.c.t.d.fact 62 (f := .int "GREATEST" 999999999) rfl)
  exact ⟨⟨_, .int 999999999, e, ⟨t, rfl⟩, rfl⟩⟩
theorem repL_st (K : PySem.W.Frag) (F : Hp) : ∀ zs : List Str, RepL K F (zs.map PyData.str) (zs.map V.str)
  | [] => rfl
  | z :: zs => ⟨.str z, zs.map V.str, rfl, rfl, repL_st K F zs⟩
theorem k_TWO (A : At0 w K h mg) : GlobD mg K "TWO_SUMS" (.tuple (TW8.map .str)) := by
  have e := He.glo_ok A.X A.G (A.c.t.d.fact 36 (f := .glo "TWO_SUMS") rfl)
  have m := He.ba (show (exC K "BadSum" && (exC K "BadValues" && (He.tupB K "TWO_SUMS" (TW8.map He.Dv.str) && (He.valsB K (He.ga K "FORMS_wordforms") [("sum", .glo "sum_form")] && noLst K)))) = true from A.c.more)
  have t := (He.ba (He.ba m.2).2).1
  have s := He.tupB_ok t (fun _ => none)
  rw [List.map_map] at s
  exact ⟨⟨_, .ref (He.ga K "TWO_SUMS"), e, rfl, _, _, rfl, s, repL_st K _ TW8⟩⟩
def lookS (K : PySem.W.Frag) (z : Str) : Option Addr := if z = "sum" then some (He.ga K "sum_form") else none
theorem k_FORMS (A : At0 w K h mg) : GlobF mg K w "FORMS_wordforms" (lookS K) (fun z => decide (z = "sum")) := by
  have e := He.glo_ok A.X A.G (A.c.t.d.fact 37 (f := .glo "FORMS_wordforms") rfl)
  have m := He.ba (show (exC K "BadSum" && (exC K "BadValues" && (He.tupB K "TWO_SUMS" (TW8.map He.Dv.str) && (He.valsB K (He.ga K "FORMS_wordforms") [("sum", .glo "sum_form")] && noLst K)))) = true from A.c.more)
  have t := (He.ba (He.ba (He.ba m.2).2).2).1
  obtain ⟨u, u1, u2⟩ := He.valsB_ok t (q := ("sum", .glo "sum_form")) List.mem_cons_self
  obtain ⟨es, n, D⟩ := A.c.t.tab 0 (t := (fun K => He.ga K "FORMS_wordforms", ["sum", "piece", "bare", "word", "free", "all"])) rfl
  refine ⟨⟨_, e, fun z f hz => ?_, es, n, D, fun z hz => ?_⟩⟩
  · unfold lookS at hz
    split at hz
    · rename_i hzs
      cases hz
      subst hzs
      exact ⟨es, n, u, D.at_, D.lit, u1, u2⟩
    · cases hz
  · have hz := of_decide_eq_true hz
    subst hz
    refine ⟨some u, u1, ?_⟩
    unfold lookS
    rw [if_pos rfl]
    rfl
theorem k_no (A : At0 w K h mg) : noLst K = true := by
  have m := He.ba (show (exC K "BadSum" && (exC K "BadValues" && (He.tupB K "TWO_SUMS" (TW8.map He.Dv.str) && (He.valsB K (He.ga K "FORMS_wordforms") [("sum", .glo "sum_form")] && noLst K)))) = true from A.c.more)
  exact (He.ba (He.ba (He.ba m.2).2).2).2
theorem oex_of {x : Str} (e : exC K x = true) : OexC K (He.ga K x) ∧ PySem.W.findIn K (.ref (He.ga K x)) "__init__" = some (some (.ref (fnAt K x))) ∧ PySem.W.typeIn K (.ref (fnAt K x)) = some (.type "function") ∧ XfC K (He.ga K x) := by
  unfold exC at e
  simp only [Bool.and_eq_true, decide_eq_true_eq] at e
  obtain ⟨e1, e2, e3, e4, e5, e6, e7, e8⟩ := e
  exact ⟨⟨oexK_ok e1, e2, e3, e4, e5⟩, e6, e7, xfB_ok e8⟩

theorem own_BadSum (A : At0 w K h mg) : OwnX (Gd w K mg base b) "BadSum" (He.ga K "BadSum") "total" 1 := by
  have m := He.ba (show (exC K "BadSum" && (exC K "BadValues" && (He.tupB K "TWO_SUMS" (TW8.map He.Dv.str) && (He.valsB K (He.ga K "FORMS_wordforms") [("sum", .glo "sum_form")] && noLst K)))) = true from A.c.more)
  obtain ⟨T, i1, i2, xf⟩ := oex_of (x := "BadSum") m.1
  obtain ⟨fd, F⟩ := A.c.t.d.def_ 36 (d := d_i1) rfl
  have F2 : Fun K "__init__" "BadSum.__init__" s_BadSum_init (fnAt K "BadSum") fd := toFun F
  refine ⟨T, He.noat_ok (A.c.t.d.fact 63 (f := .noat "BadSum" "total") rfl), ⟨fnAt K "BadSum", fd, ["self", "total"], i1, i2, ?_, F.bindsN fun _ _ _ _ _ _ us hl => match us, hl with | [_, _], _ => rfl⟩, He.glo_ok A.X A.G (A.c.t.d.fact 38 (f := .glo "BadSum") rfl), xf⟩
  exact fn_init (G := Gd w K mg base b) (k := 0) F2 ⟨rfl, rfl, rfl, by decide +kernel, rfl, by decide +kernel, by decide +kernel⟩ rfl (vis_of (by kernel_rfl)) (vis_of (by kernel_rfl))
theorem own_BadValues (A : At0 w K h mg) : OwnX (Gd w K mg base b) "BadValues" (He.ga K "BadValues") "held" 1 := by
  have m := He.ba (show (exC K "BadSum" && (exC K "BadValues" && (He.tupB K "TWO_SUMS" (TW8.map He.Dv.str) && (He.valsB K (He.ga K "FORMS_wordforms") [("sum", .glo "sum_form")] && noLst K)))) = true from A.c.more)
  obtain ⟨T, i1, i2, xf⟩ := oex_of (x := "BadValues") (He.ba m.2).1
  obtain ⟨fd, F⟩ := A.c.t.d.def_ 37 (d := d_i2) rfl
  have F2 : Fun K "__init__" "BadValues.__init__" s_BadValues_init (fnAt K "BadValues") fd := toFun F
  refine ⟨T, He.noat_ok (A.c.t.d.fact 64 (f := .noat "BadValues" "held") rfl), ⟨fnAt K "BadValues", fd, ["self", "held"], i1, i2, ?_, F.bindsN fun _ _ _ _ _ _ us hl => match us, hl with | [_, _], _ => rfl⟩, He.glo_ok A.X A.G (A.c.t.d.fact 39 (f := .glo "BadValues") rfl), xf⟩
  exact fn_init (G := Gd w K mg base b) (k := 0) F2 ⟨rfl, rfl, rfl, by decide +kernel, rfl, by decide +kernel, by decide +kernel⟩ rfl (vis_of (by kernel_rfl)) (vis_of (by kernel_rfl))
theorem h_is_integer (A : At0 w K h mg) : Has (Gd w K mg base b) "is_integer" P_is_integer 1 (PureN 1 (fun _ => True) (b1 isI)) := by
  obtain ⟨fd, F, B⟩ := f_is_integer A
  exact has_mk F (g_is_integer A) B (ok_is_integer (blt A) F)
theorem h_is_number (A : At0 w K h mg) : Has (Gd w K mg base b) "is_number" P_is_number 2 (PureN 1 (fun _ => True) (b1 isN)) := by
  obtain ⟨fd, F, B⟩ := f_is_number A
  exact has_mk F (g_is_number A) B (ok_is_number (blt A) (h_is_integer A) F)
theorem h_is_number_to (A : At0 w K h mg) : Has (Gd w K mg base b) "is_number_to" P_is_number_to 3 (PureN 2 (fun ds => ∃ j, ds.getD 1 .none = .int j) (b2 isNT)) := by
  obtain ⟨fd, F, B⟩ := f_is_number_to A
  exact has_mk F (g_is_number_to A) B (ok_is_number_to (blt A) (h_is_number A) F)
theorem h_is_listed (A : At0 w K h mg) : Has (Gd w K mg base b) "is_listed" P_is_listed 1 (PureN 1 (fun _ => True) (b1 isL)) := by
  obtain ⟨fd, F, B⟩ := f_is_listed A
  exact has_mk F (g_is_listed A) B (ok_is_listed (blt A) F)
theorem h_word_of (A : At0 w K h mg) : Has (Gd w K mg base b) "word_of" P_word_of 2 (PureN 1 (fun _ => True) fun ds => .str (wordP (ds.getD 0 .none))) := by
  obtain ⟨fd, F, B⟩ := f_word_of A
  exact has_mk F (g_word_of A) B (ok_word_of (blt A) (h_is_listed A) F)
theorem h_is_string_of (A : At0 w K h mg) : Has (Gd w K mg base b) "is_string_of" P_is_string_of 1 (TStrOf) := by
  obtain ⟨fd, F, B⟩ := f_is_string_of A
  exact has_mk F (g_is_string_of A) B (ok_is_string_of (blt A) F)
theorem h_is_text (A : At0 w K h mg) : Has (Gd w K mg base b) "is_text" P_is_text 2 (PureN 1 CText (b1 (textP SG0))) := by
  obtain ⟨fd, F, B⟩ := f_is_text A
  exact has_mk F (g_is_text A) B (ok_is_text (blt A) (k_SIGNS A) (by decide +kernel) (h_is_string_of A) F)
theorem h_is_name (A : At0 w K h mg) : Has (Gd w K mg base b) "is_name" P_is_name 2 (PureN 1 CText (b1 (nameP LT0 FG0))) := by
  obtain ⟨fd, F, B⟩ := f_is_name A
  exact has_mk F (g_is_name A) B (ok_is_name (blt A) (k_LETTERS A) (k_FIGURES A) (by decide +kernel) (h_is_string_of A) F)
theorem fg_sum_form (A : At0 w K h mg) : ∃ fd, FnG (Gd w K mg base b) 4 (He.ga K "sum_form") fd P_sum_form (SpD K [(tabL K, qL)] (PureN 1 CSum fun ds => sumForm LT0 FG0 999999999 TW8 (ds.getD 0 .none))) ∧ PySem.W.keepIn K (.ref (He.ga K "sum_form")) = true ∧ Binds K fd P_sum_form [] := by
  obtain ⟨fd, F, B⟩ := f_sum_form A
  exact ⟨fd, ok_sum_form (G := Gd w K mg base b) (blt A) (k_GREATEST A) (k_TWO A) (by decide +kernel) (h_word_of A) (h_is_number_to A) (h_is_name A) F, F.kp, B⟩
theorem h_is_form_in_word (A : At0 w K h mg) : Has (Gd w K mg base b) "is_form_in_word" P_is_form_in_word 1 (PureN 1 (fun ds => ds = [.str "sum"]) fun _ => .bool true) := by
  obtain ⟨fd, F, B⟩ := f_is_form_in_word A
  exact has_mk F (g_is_form_in_word A) B (ok_is_form_in_word (blt A) (k_FORMS A) (decide_eq_true rfl) (show lookS K "sum" = some (He.ga K "sum_form") from if_pos rfl) F)
theorem h_form_in_word (A : At0 w K h mg) : Has (Gd w K mg base b) "form_in_word" P_form_in_word 5 (PureN 2 CForm fun ds => sumForm LT0 FG0 999999999 TW8 (ds.getD 1 .none)) := by
  obtain ⟨fd, F, B⟩ := f_form_in_word A
  obtain ⟨fdS, gS, kS, bS⟩ := fg_sum_form (b := b) (base := base) A
  exact has_mk F (g_form_in_word A) B (ok_form_in_word (blt A) (k_FORMS A) (show lookS K "sum" = some (He.ga K "sum_form") from if_pos rfl) gS kS bS F)
theorem h_form_of (A : At0 w K h mg) : Has (Gd w K mg base b) "form_of" P_form_of 6 (PureN 2 CForm fun ds => sumForm LT0 FG0 999999999 TW8 (ds.getD 1 .none)) := by
  obtain ⟨fd, F, B⟩ := f_form_of A
  exact has_mk F (g_form_of A) B (ok_form_of (blt A) (h_is_form_in_word A) (h_form_in_word A) F)
theorem h_is_left_out (A : At0 w K h mg) : Has (Gd w K mg base b) "is_left_out" P_is_left_out 1 (PureN 2 CKind fun ds => .bool (decide (strAt (ds.getD 0 .none) = "leaf"))) := by
  obtain ⟨fd, F, B⟩ := f_is_left_out A
  exact has_mk F (g_is_left_out A) B (ok_is_left_out (blt A) F)
theorem h_kind_inside (A : At0 w K h mg) : Has (Gd w K mg base b) "kind_inside" P_kind_inside 1 (PureN 1 CKind fun ds => ds.getD 0 .none) := by
  obtain ⟨fd, F, B⟩ := f_kind_inside A
  exact has_mk F (g_kind_inside A) B (ok_kind_inside (blt A) F)
theorem h_fits (A : At0 w K h mg) : Has (Gd w K mg base b) "fits" P_fits 7 (PureN 2 CFits fun ds => .bool (fitsS LT0 FG0 999999999 TW8 (ds.getD 1 .none))) := by
  obtain ⟨fd, F, B⟩ := f_fits A
  exact has_mk F (g_fits A) B (ok_fits (blt A) (h_is_left_out A) (h_kind_inside A) (h_form_of A) F)
theorem h_is_values (A : At0 w K h mg) : Has (Gd w K mg base b) "is_values" P_is_values 3 (PureN 1 CVals (b1 (valsP LT0 FG0 SG0))) := by
  obtain ⟨fd, F, B⟩ := f_is_values A
  exact has_mk F (g_is_values A) B (ok_is_values (blt A) (h_is_name A) (h_is_text A) F)
theorem h_number_of (A : At0 w K h mg) : Has (Gd w K mg base b) "number_of" P_number_of 2 (PureN 1 (fun ds => ∃ l, ds = [.str (Sx l)] ∧ l.length ≤ 600) fun ds => numPD (numL (strAt (ds.getD 0 .none)).cps.toList)) := by
  obtain ⟨fd, F, B⟩ := f_number_of A
  exact has_mk F (g_number_of A) B (ok_number_of (blt A) (k_FIGURES A) dig_in (h_is_string_of A) F)
theorem h_toward_nought (A : At0 w K h mg) : Has (Gd w K mg base b) "toward_nought" P_toward_nought 1 (PureN 2 CTwn (fI twn)) := by
  obtain ⟨fd, F, B⟩ := f_toward_nought A
  exact has_mk F (g_toward_nought A) B (ok_toward_nought (blt A) F)
theorem h_joined_numbers (A : At0 w K h mg) : Has (Gd w K mg base b) "joined_numbers" P_joined_numbers 2 (PureN 3 CJoin fJ) := by
  obtain ⟨fd, F, B⟩ := f_joined_numbers A
  exact has_mk F (g_joined_numbers A) B (ok_joined_numbers (blt A) (h_toward_nought A) F)
theorem h_counted (A : At0 w K h mg) : Has (Gd w K mg base b) "counted" P_counted 3 (PureN 2 (CCnt (nmS LT0 FG0) 999999999 TW8) cntM) := by
  obtain ⟨fd, F, B⟩ := f_counted A
  exact has_mk F (g_counted A) B (ok_counted (blt A) (by decide) (h_number_of A) (h_joined_numbers A) F)
theorem h_sum_value (A : At0 w K h mg) : Has (Gd w K mg base b) "sum_value" P_sum_value 8 (TSum LT0 FG0 SG0 999999999 TW8 (nmS LT0 FG0) (He.ga K "BadSum") (He.ga K "BadValues")) := by
  obtain ⟨fd, F, B⟩ := f_sum_value A
  exact has_mk F (g_sum_value A) B (ok_sum_value (blt A) (h_fits A) (h_is_values A) (h_counted A) (own_BadSum A) (own_BadValues A) F)
theorem hk_sum_value (A : At0 w K h mg) : HasK (Gd w K mg base b) "sum_value" P_sum_value ["held", "total"] [1, 0] 8 (TSum LT0 FG0 SG0 999999999 TW8 (nmS LT0 FG0) (He.ga K "BadSum") (He.ga K "BadValues")) := by
  obtain ⟨fd, F, B⟩ := f_sum_value A
  have g := ok_sum_value (G := Gd w K mg base b) (blt A) (h_fits A) (h_is_values A) (h_counted A) (own_BadSum A) (own_BadValues A) F
  refine ⟨⟨_, fd, g, g_sum_value A, F.kp, fun ws hl => ?_⟩⟩
  obtain ⟨oc, od, kV, doc, pm, an, cdv, ct, osl, rfl, _, _⟩ := F.ex
  match ws, hl with
  | [_, _], _ => rfl
theorem h__law_stream (A : At0 w K h mg) : Has (Gd w K mg base b) "_law_stream" P__law_stream 1 (OwnN 2 CStr fun _ o => ∃ xs, o = .lst xs ∧ SOk 0 xs) := by
  obtain ⟨fd, F, B⟩ := f__law_stream A
  exact has_mk F (g__law_stream A) B (ok_stream (blt A) F)
theorem h__law_draw (A : At0 w K h mg) : Has (Gd w K mg base b) "_law_draw" P__law_draw 1 (StN 1 CDraw PDraw) := by
  obtain ⟨fd, F, B⟩ := f__law_draw A
  exact has_mk F (g__law_draw A) B (ok_draw (blt A) F)
theorem h__law_pick (A : At0 w K h mg) : Has (Gd w K mg base b) "_law_pick" P__law_pick 2 (StN 1 CPick PPick) := by
  obtain ⟨fd, F, B⟩ := f__law_pick A
  exact has_mk F (g__law_pick A) B (ok_pick (blt A) (h__law_draw A) F)
theorem h__law_mixed (A : At0 w K h mg) : Has (Gd w K mg base b) "_law_mixed" P__law_mixed 2 (StN 1 CMix PMix) := by
  obtain ⟨fd, F, B⟩ := f__law_mixed A
  exact has_mk F (g__law_mixed A) B (ok_mixed (blt A) (h__law_draw A) F)
theorem h__law_loose (A : At0 w K h mg) (n : Nat) : LHas (Gd w K mg base b) n := by
  obtain ⟨fd, F, B⟩ := f__law_loose A
  exact has_loose (blt A) (h__law_draw A) F (g__law_loose A) B n
theorem h__law_same (A : At0 w K h mg) (n : Nat) : SHas (Gd w K mg base b) n := by
  obtain ⟨fd, F, B⟩ := f__law_same A
  exact has_same (blt A) F (g__law_same A) B n
theorem h__law_met (A : At0 w K h mg) : MetOk (Gd w K mg base b) (mC (He.ga K "BadSum") (He.ga K "BadValues")) "_law_met" := by
  obtain ⟨fd, F, B⟩ := f__law_met A
  exact met_ok (own_BadSum A) (own_BadValues A) F (g__law_met A) B (He.exm_ok (A.c.t.d.fact 65 (f := .exm "BadSum" "BadSum" true) rfl)) (He.exm_ok (A.c.t.d.fact 66 (f := .exm "BadValues" "BadSum" false) rfl)) (He.exm_ok (A.c.t.d.fact 67 (f := .exm "BadValues" "BadValues" true) rfl))
theorem h__law_sum (A : At0 w K h mg) : Has (Gd w K mg base b) "_law_sum" P__law_sum 6 (StN 2 CLa (PLa (nmS LT0 FG0) 999999999)) := by
  obtain ⟨fd, F, B⟩ := f__law_sum A
  exact has_mk F (g__law_sum A) B (ok_sum_any (blt A) rfl kon.n5 (h__law_draw A) (h__law_pick A) F (g__law_sum A) B)
theorem h__law_held (A : At0 w K h mg) : Has (Gd w K mg base b) "_law_held" P__law_held 3 (StN 1 CHeld PHeld) := by
  obtain ⟨fd, F, B⟩ := f__law_held A
  exact has_mk F (g__law_held A) B (ok_held (blt A) (h__law_draw A) (h__law_pick A) (h__law_mixed A) F)
theorem h__law_number (A : At0 w K h mg) : Has (Gd w K mg base b) "_law_number" P__law_number 1 (PureN 1 (fun ds => ∃ l, ds = [.str (Sx l)] ∧ l.length ≤ 600) fun ds => numPD (numL (strAt (ds.getD 0 .none)).cps.toList)) := by
  obtain ⟨fd, F, B⟩ := f__law_number A
  exact has_mk F (g__law_number A) B (ok_law_number (blt A) F)
theorem h__law_parted (A : At0 w K h mg) : Has (Gd w K mg base b) "_law_parted" P__law_parted 1 (PureN 3 CPart fP) := by
  obtain ⟨fd, F, B⟩ := f__law_parted A
  exact has_mk F (g__law_parted A) B (ok_parted (blt A) F)
theorem h__law_worth (A : At0 w K h mg) (n : Nat) : THas (Gd w K mg base b) n (nmS LT0 FG0) 999999999 := by
  obtain ⟨fd, F, B⟩ := f__law_worth A
  exact has_worth (blt A) (by decide) (fun z hz => nm_ok hz) (h__law_number A) (h__law_parted A) F (g__law_worth A) B n
theorem h__law_one_right (A : At0 w K h mg) (sys : ∃ o, base.get? sysModules = some o) : Has (Gd w K mg base true) "_law_one_right" P__law_one_right 9 (StN 2 (COne LT0 FG0 999999999) POne) := by
  obtain ⟨fd, F, B⟩ := f__law_one_right A
  exact has_mk F (g__law_one_right A) B (ok_one_right (blt A) rfl sys kon rfl (h__law_loose A 4) (h__law_mixed A) (h__law_worth A 3) (h__law_same A 3) (h_sum_value A) (hk_sum_value A) F)
theorem h__law_refused_right (A : At0 w K h mg) (TB : LamX.TabB base mg (codL K) (tabL K)) : Has (Gd w K mg base true) "_law_refused_right" P__law_refused_right 11 (StN 1 (CRef LT0 FG0 999999999) PRef) := by
  obtain ⟨fd, F, B⟩ := f__law_refused_right A
  have LO : ∃ c P : Addr, fd.code = .ref c ∧ LamX.TabB base mg c P ∧ (P, qL) ∈ [(tabL K, qL)] ∧ ∀ p ∈ [(tabL K, qL)], p.1 = P → p.2 = qL := by
    obtain ⟨oc, od, kV, doc, pm, an, cdv, ct, osl, rfl, lk, hcd⟩ := F.ex
    obtain ⟨c, e⟩ := He.codeIn_ref hcd
    have e2 : codL K = c := He.codeOf_eq (p := ("_law_refused_right", none)) lk e
    refine ⟨c, tabL K, e, by rw [← e2]; exact TB, List.mem_singleton.mpr rfl, fun p hp _ => ?_⟩
    rw [List.mem_singleton] at hp
    rw [hp]
  exact has_mk F (g__law_refused_right A) B (ok_refused (blt A) kon kon2 kon3 rfl (h__law_same A 8) (h_sum_value A) (h__law_met A) F LO)
theorem fg_law (A : At0 w K h mg) (TB : LamX.TabB base mg (codL K) (tabL K)) (sys : ∃ o, base.get? sysModules = some o) : ∃ fd, FnG (Gd w K mg base true) 12 (He.ga K "law") fd ["script"] (SpD K [(tabL K, qL)] (PureN 1 CLaw fun _ => .bool true)) ∧ ∀ (s : Shared) (u : Value), BindsTo s fd ⟨[u], []⟩ [("script", u)] := by
  obtain ⟨fd, F⟩ := A.c.t.d.def_ 35 (d := d_law) rfl
  have b := FunD.bindsA (ps := ["script"]) F fun _ _ _ _ _ _ us hl => match us, hl with | [_], _ => rfl
  have F2 : Fun K "law" "law" s_law (He.ga K "law") fd := toFun F
  exact ⟨fd, ok_law (G := Gd w K mg base true) (blt A) kon rfl (by decide +kernel) (h__law_stream A) (h__law_draw A) (h__law_held A) (h__law_sum A) (h__law_one_right A sys) (h__law_refused_right A TB) (h__law_parted A) (h__law_same A 3) (h_sum_value A) F2, fun s u => b s [u] rfl⟩
end
end K8

namespace K8
open PySem PySem.Spec PyProof.Rows L2 Dw
theorem noLst_at {K : PySem.W.Frag} {a : Addr} {o : Obj} (h : noLst K = true) (e : K.lookup a = some o) (hc : o.cls = .type "list") : False := by
  unfold noLst at h
  rw [List.all_eq_true] at h
  have z := h (a, o) (He.lookup_mem e)
  have z : (match o.cls with | .type c => !decide (c = "list") | _ => true) = true := z
  rw [hc] at z
  exact absurd z (by decide)
end K8
open PySem PySem.W PySem.Calls PyProof.Rows
theorem PySem.Challenge.cw_everypipe_k08_whole_sums_holds : PySem.Challenge.rw_everypipe_k08_whole_sums.Holds := by
  w_on; o_law
  refine K8.headZ ?made ?asked
  case made => w_witness2
  case asked =>
    refine Att.attach_callB (l := PySem.Challenge.rw_everypipe_k08_whole_sums) (n := 63) rfl (by kernel_rfl) fun w s0 s mg mb f o pm cd doc a us is gr says fo fd fc fm ao hInts few bits gens => ?_
    obtain ⟨⟨K, KX, c⟩, sM⟩ := says
    have A : K8.At0 w K s.heap mg := ⟨KX, gr.T.g, c⟩
    have ef : f = He.ga K "law" := by
      rw [K8.nameZ0] at fm
      have z := fm.symm.trans (K8.g_law A)
      cases z
      rfl
    subst ef
    have hp : (("_law_refused_right", none) : He.Defn) ∈ K8.tfN := List.mem_singleton.mpr rfl
    have ka : K.lookup a = none := by
      cases e : K.lookup a with
      | none => rfl
      | some o2 =>
        have z := KX a o2 e
        rw [ao] at z
        cases z
        exact (K8.noLst_at (K8.k_no A) e rfl).elim
    have cT : PySem.W.CodeHd s.heap (K8.codL K) (K8.tabL K) := PySem.W.codeHd_of_K KX (c.hd _ hp)
    refine K8.law_top (q := K8.qL) (x := "script") (k := 12) KX gr.T.g gr.T.b gr.T.builtins gr.T.nolimit gens (c.empty _ hp) (c.out _ hp) cT gr.T.bmain sM ao ka hInts few ⟨rfl, by decide, by decide⟩ fun base KB NB TB sB => ?_
    obtain ⟨fd2, g, bind⟩ := K8.fg_law A TB sB
    exact ⟨fd2, g, fun u => bind s u⟩
