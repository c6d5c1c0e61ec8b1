import PyProof.Rows.All
import Wide.All
import OpenK.AllK
import Wide.FinOn
import KE.KStateDown
import Open.SpecLaws
import KE.OsGo
import HandS.ForSpec
import HandS.Defaults
import HandS.Head0
import HandS.Head1
import HandS.Head2
import HandS.Head4
import HandS.HeadHook1
import HandS.HeadHook2
import HandS.HeadHook3
import HandS.HeadHook4
import HandS.ForMost
import HandS.Zip
import HandS.Wide
import HandS.ListItems
import KE.KDictList
import KE.KEqSeq
import HandS.ReSub
import PySem.Challenge.RW_exactchains_s01_answers
set_option Elab.async false
set_option linter.all false
set_option maxRecDepth 100000
set_option maxHeartbeats 4000000
set_option exponentiation.threshold 9000
/-! ## ErHd -/
set_option maxHeartbeats 0
namespace ER
open PySem L2
/-! ### the text by places -/
def top (i : Nat) : Stmt := PySem.Challenge.pw_exactchains_s01_answers.main.body.getD i (.Pass ⟨0, 0, 0, 0⟩)
abbrev s_greatest_divisor : Stmt := top 1
abbrev s_common_multiple : Stmt := top 2
abbrev s_ratio : Stmt := top 3
abbrev s_added : Stmt := top 4
abbrev s_product : Stmt := top 5
abbrev s_quotient : Stmt := top 6
abbrev s_rest_to_one : Stmt := top 7
abbrev s_blocks_of : Stmt := top 9
abbrev s_flow_into : Stmt := top 10
abbrev s_flows_agree : Stmt := top 11
abbrev s_is_lumpable_into : Stmt := top 12
abbrev s_continuous_row : Stmt := top 13
abbrev s_discrete_row : Stmt := top 14
abbrev s_lumped_rows : Stmt := top 15
abbrev s_Chain_init : Stmt := inClass (top 21) 0
abbrev s_Chain_state_count : Stmt := inClass (top 21) 1
abbrev s_Chain_has_state : Stmt := inClass (top 21) 2
abbrev s_Chain_sum_of : Stmt := inClass (top 21) 3
abbrev s_Chain_greatest_sum : Stmt := inClass (top 21) 4
abbrev s_Chain_copied_rows : Stmt := inClass (top 21) 5
abbrev s_Chain_weight_into : Stmt := inClass (top 21) 6
abbrev s_Chain_chance_of : Stmt := inClass (top 21) 7
abbrev s_Chain_stay_in : Stmt := inClass (top 21) 8
abbrev s_Chain_generator_value : Stmt := inClass (top 21) 9
abbrev s_Instance_init : Stmt := inClass (top 22) 0
abbrev s_no_instance : Stmt := top 24
abbrev s_no_such_state : Stmt := top 25
abbrev s_out_of_range : Stmt := top 26
abbrev s_no_result : Stmt := top 27
abbrev s_weight_too_large : Stmt := top 28
abbrev s_create : Stmt := top 30
abbrev s_is_weight : Stmt := top 31
abbrev s_set_weight : Stmt := top 32
abbrev s_is_row : Stmt := top 33
abbrev s_set_row : Stmt := top 34
abbrev s_remove_state : Stmt := top 35
abbrev s_uniformize : Stmt := top 36
abbrev s_embed : Stmt := top 37
abbrev s_lump : Stmt := top 38
abbrev s_distances_from : Stmt := top 40
abbrev s_reaches : Stmt := top 41
abbrev s_class_of : Stmt := top 42
abbrev s_class_names : Stmt := top 43
abbrev s_is_closed : Stmt := top 44
abbrev s_all_classes : Stmt := top 45
abbrev s_closed_classes : Stmt := top 46
abbrev s_period_of : Stmt := top 47
abbrev s_get_weight : Stmt := top 49
abbrev s_probability : Stmt := top 50
abbrev s_generator : Stmt := top 51
abbrev s_classes : Stmt := top 52
abbrev s_class_info : Stmt := top 53
abbrev s_distance : Stmt := top 54
abbrev s_is_lumpable : Stmt := top 55
abbrev s_summary : Stmt := top 56
abbrev s_eliminated : Stmt := top 58
abbrev s_solve : Stmt := top 59
abbrev s_leading_states : Stmt := top 61
abbrev s_values_from_gains : Stmt := top 62
abbrev s_hitting_probabilities : Stmt := top 63
abbrev s_hitting_times : Stmt := top 64
abbrev s_first_entries : Stmt := top 65
abbrev s_is_set : Stmt := top 67
abbrev s_hitting_probability : Stmt := top 68
abbrev s_hitting_time : Stmt := top 69
abbrev s_absorption : Stmt := top 70
abbrev s_visits : Stmt := top 71
abbrev s_watched : Stmt := top 72
abbrev s_Call_init : Stmt := inClass (top 75) 0
abbrev s_Reader_init : Stmt := inClass (top 76) 0
abbrev s_Reader_at_end : Stmt := inClass (top 76) 1
abbrev s_Reader_take_number : Stmt := inClass (top 76) 2
abbrev s_Reader_take_row : Stmt := inClass (top 76) 3
abbrev s_Reader_take_call : Stmt := inClass (top 76) 4
abbrev s_balanced_numbers : Stmt := top 78
abbrev s_stationary_numbers : Stmt := top 79
abbrev s_stationary_distribution : Stmt := top 80
abbrev s_stationary_around : Stmt := top 81
abbrev s_long_run_shares : Stmt := top 82
abbrev s_common_sum : Stmt := top 84
abbrev s_step_row : Stmt := top 85
abbrev s_after_step : Stmt := top 86
abbrev s_distribution_after : Stmt := top 87
abbrev s_with_count : Stmt := top 89
abbrev s_stationary : Stmt := top 90
abbrev s_return_time : Stmt := top 91
abbrev s_long_run : Stmt := top 92
abbrev s_is_start : Stmt := top 93
abbrev s_after_steps : Stmt := top 94
abbrev s_is_reversible : Stmt := top 95
abbrev s_reversed_generator : Stmt := top 96
abbrev s_change : Stmt := top 101
abbrev s_reach : Stmt := top 102
abbrev s_share : Stmt := top 103
abbrev s_look_up : Stmt := top 104
abbrev s_answer : Stmt := top 105
abbrev s_answers : Stmt := top 106
def d_greatest_divisor : He.DefD := ⟨("greatest_divisor", none), "greatest_divisor", "greatest_divisor", defArgs s_greatest_divisor, defBody s_greatest_divisor, defScope s_greatest_divisor, [], []⟩
def d_common_multiple : He.DefD := ⟨("common_multiple", none), "common_multiple", "common_multiple", defArgs s_common_multiple, defBody s_common_multiple, defScope s_common_multiple, [], []⟩
def d_ratio : He.DefD := ⟨("ratio", none), "ratio", "ratio", defArgs s_ratio, defBody s_ratio, defScope s_ratio, [], []⟩
def d_added : He.DefD := ⟨("added", none), "added", "added", defArgs s_added, defBody s_added, defScope s_added, [], []⟩
def d_product : He.DefD := ⟨("product", none), "product", "product", defArgs s_product, defBody s_product, defScope s_product, [], []⟩
def d_quotient : He.DefD := ⟨("quotient", none), "quotient", "quotient", defArgs s_quotient, defBody s_quotient, defScope s_quotient, [], []⟩
def d_rest_to_one : He.DefD := ⟨("rest_to_one", none), "rest_to_one", "rest_to_one", defArgs s_rest_to_one, defBody s_rest_to_one, defScope s_rest_to_one, [], []⟩
def d_blocks_of : He.DefD := ⟨("blocks_of", none), "blocks_of", "blocks_of", defArgs s_blocks_of, defBody s_blocks_of, defScope s_blocks_of, [], []⟩
def d_flow_into : He.DefD := ⟨("flow_into", none), "flow_into", "flow_into", defArgs s_flow_into, defBody s_flow_into, defScope s_flow_into, [], []⟩
def d_flows_agree : He.DefD := ⟨("flows_agree", none), "flows_agree", "flows_agree", defArgs s_flows_agree, defBody s_flows_agree, defScope s_flows_agree, [], []⟩
def d_is_lumpable_into : He.DefD := ⟨("is_lumpable_into", none), "is_lumpable_into", "is_lumpable_into", defArgs s_is_lumpable_into, defBody s_is_lumpable_into, defScope s_is_lumpable_into, [], []⟩
def d_continuous_row : He.DefD := ⟨("continuous_row", none), "continuous_row", "continuous_row", defArgs s_continuous_row, defBody s_continuous_row, defScope s_continuous_row, [], []⟩
def d_discrete_row : He.DefD := ⟨("discrete_row", none), "discrete_row", "discrete_row", defArgs s_discrete_row, defBody s_discrete_row, defScope s_discrete_row, [], []⟩
def d_lumped_rows : He.DefD := ⟨("lumped_rows", none), "lumped_rows", "lumped_rows", defArgs s_lumped_rows, defBody s_lumped_rows, defScope s_lumped_rows, [], []⟩
def d_Chain_init : He.DefD := ⟨("Chain", some "__init__"), "__init__", "Chain.__init__", defArgs s_Chain_init, defBody s_Chain_init, defScope s_Chain_init, [], []⟩
def d_Chain_state_count : He.DefD := ⟨("Chain", some "state_count"), "state_count", "Chain.state_count", defArgs s_Chain_state_count, defBody s_Chain_state_count, defScope s_Chain_state_count, [], []⟩
def d_Chain_has_state : He.DefD := ⟨("Chain", some "has_state"), "has_state", "Chain.has_state", defArgs s_Chain_has_state, defBody s_Chain_has_state, defScope s_Chain_has_state, [], []⟩
def d_Chain_sum_of : He.DefD := ⟨("Chain", some "sum_of"), "sum_of", "Chain.sum_of", defArgs s_Chain_sum_of, defBody s_Chain_sum_of, defScope s_Chain_sum_of, [], []⟩
def d_Chain_greatest_sum : He.DefD := ⟨("Chain", some "greatest_sum"), "greatest_sum", "Chain.greatest_sum", defArgs s_Chain_greatest_sum, defBody s_Chain_greatest_sum, defScope s_Chain_greatest_sum, [], []⟩
def d_Chain_copied_rows : He.DefD := ⟨("Chain", some "copied_rows"), "copied_rows", "Chain.copied_rows", defArgs s_Chain_copied_rows, defBody s_Chain_copied_rows, defScope s_Chain_copied_rows, [], []⟩
def d_Chain_weight_into : He.DefD := ⟨("Chain", some "weight_into"), "weight_into", "Chain.weight_into", defArgs s_Chain_weight_into, defBody s_Chain_weight_into, defScope s_Chain_weight_into, [], []⟩
def d_Chain_chance_of : He.DefD := ⟨("Chain", some "chance_of"), "chance_of", "Chain.chance_of", defArgs s_Chain_chance_of, defBody s_Chain_chance_of, defScope s_Chain_chance_of, [], []⟩
def d_Chain_stay_in : He.DefD := ⟨("Chain", some "stay_in"), "stay_in", "Chain.stay_in", defArgs s_Chain_stay_in, defBody s_Chain_stay_in, defScope s_Chain_stay_in, [], []⟩
def d_Chain_generator_value : He.DefD := ⟨("Chain", some "generator_value"), "generator_value", "Chain.generator_value", defArgs s_Chain_generator_value, defBody s_Chain_generator_value, defScope s_Chain_generator_value, [], []⟩
def d_Instance_init : He.DefD := ⟨("Instance", some "__init__"), "__init__", "Instance.__init__", defArgs s_Instance_init, defBody s_Instance_init, defScope s_Instance_init, [], []⟩
def d_no_instance : He.DefD := ⟨("no_instance", none), "no_instance", "no_instance", defArgs s_no_instance, defBody s_no_instance, defScope s_no_instance, [], []⟩
def d_no_such_state : He.DefD := ⟨("no_such_state", none), "no_such_state", "no_such_state", defArgs s_no_such_state, defBody s_no_such_state, defScope s_no_such_state, [], []⟩
def d_out_of_range : He.DefD := ⟨("out_of_range", none), "out_of_range", "out_of_range", defArgs s_out_of_range, defBody s_out_of_range, defScope s_out_of_range, [], []⟩
def d_no_result : He.DefD := ⟨("no_result", none), "no_result", "no_result", defArgs s_no_result, defBody s_no_result, defScope s_no_result, [], []⟩
def d_weight_too_large : He.DefD := ⟨("weight_too_large", none), "weight_too_large", "weight_too_large", defArgs s_weight_too_large, defBody s_weight_too_large, defScope s_weight_too_large, [], []⟩
def d_create : He.DefD := ⟨("create", none), "create", "create", defArgs s_create, defBody s_create, defScope s_create, [], []⟩
def d_is_weight : He.DefD := ⟨("is_weight", none), "is_weight", "is_weight", defArgs s_is_weight, defBody s_is_weight, defScope s_is_weight, [], []⟩
def d_set_weight : He.DefD := ⟨("set_weight", none), "set_weight", "set_weight", defArgs s_set_weight, defBody s_set_weight, defScope s_set_weight, [], []⟩
def d_is_row : He.DefD := ⟨("is_row", none), "is_row", "is_row", defArgs s_is_row, defBody s_is_row, defScope s_is_row, [], []⟩
def d_set_row : He.DefD := ⟨("set_row", none), "set_row", "set_row", defArgs s_set_row, defBody s_set_row, defScope s_set_row, [], []⟩
def d_remove_state : He.DefD := ⟨("remove_state", none), "remove_state", "remove_state", defArgs s_remove_state, defBody s_remove_state, defScope s_remove_state, [], []⟩
def d_uniformize : He.DefD := ⟨("uniformize", none), "uniformize", "uniformize", defArgs s_uniformize, defBody s_uniformize, defScope s_uniformize, [], []⟩
def d_embed : He.DefD := ⟨("embed", none), "embed", "embed", defArgs s_embed, defBody s_embed, defScope s_embed, [], []⟩
def d_lump : He.DefD := ⟨("lump", none), "lump", "lump", defArgs s_lump, defBody s_lump, defScope s_lump, [], []⟩
def d_distances_from : He.DefD := ⟨("distances_from", none), "distances_from", "distances_from", defArgs s_distances_from, defBody s_distances_from, defScope s_distances_from, [], []⟩
def d_reaches : He.DefD := ⟨("reaches", none), "reaches", "reaches", defArgs s_reaches, defBody s_reaches, defScope s_reaches, [], []⟩
def d_class_of : He.DefD := ⟨("class_of", none), "class_of", "class_of", defArgs s_class_of, defBody s_class_of, defScope s_class_of, [], []⟩
def d_class_names : He.DefD := ⟨("class_names", none), "class_names", "class_names", defArgs s_class_names, defBody s_class_names, defScope s_class_names, [], []⟩
def d_is_closed : He.DefD := ⟨("is_closed", none), "is_closed", "is_closed", defArgs s_is_closed, defBody s_is_closed, defScope s_is_closed, [], []⟩
def d_all_classes : He.DefD := ⟨("all_classes", none), "all_classes", "all_classes", defArgs s_all_classes, defBody s_all_classes, defScope s_all_classes, [], []⟩
def d_closed_classes : He.DefD := ⟨("closed_classes", none), "closed_classes", "closed_classes", defArgs s_closed_classes, defBody s_closed_classes, defScope s_closed_classes, [], []⟩
def d_period_of : He.DefD := ⟨("period_of", none), "period_of", "period_of", defArgs s_period_of, defBody s_period_of, defScope s_period_of, [], []⟩
def d_get_weight : He.DefD := ⟨("get_weight", none), "get_weight", "get_weight", defArgs s_get_weight, defBody s_get_weight, defScope s_get_weight, [], []⟩
def d_probability : He.DefD := ⟨("probability", none), "probability", "probability", defArgs s_probability, defBody s_probability, defScope s_probability, [], []⟩
def d_generator : He.DefD := ⟨("generator", none), "generator", "generator", defArgs s_generator, defBody s_generator, defScope s_generator, [], []⟩
def d_classes : He.DefD := ⟨("classes", none), "classes", "classes", defArgs s_classes, defBody s_classes, defScope s_classes, [], []⟩
def d_class_info : He.DefD := ⟨("class_info", none), "class_info", "class_info", defArgs s_class_info, defBody s_class_info, defScope s_class_info, [], []⟩
def d_distance : He.DefD := ⟨("distance", none), "distance", "distance", defArgs s_distance, defBody s_distance, defScope s_distance, [], []⟩
def d_is_lumpable : He.DefD := ⟨("is_lumpable", none), "is_lumpable", "is_lumpable", defArgs s_is_lumpable, defBody s_is_lumpable, defScope s_is_lumpable, [], []⟩
def d_summary : He.DefD := ⟨("summary", none), "summary", "summary", defArgs s_summary, defBody s_summary, defScope s_summary, [], []⟩
def d_eliminated : He.DefD := ⟨("eliminated", none), "eliminated", "eliminated", defArgs s_eliminated, defBody s_eliminated, defScope s_eliminated, [], []⟩
def d_solve : He.DefD := ⟨("solve", none), "solve", "solve", defArgs s_solve, defBody s_solve, defScope s_solve, [], []⟩
def d_leading_states : He.DefD := ⟨("leading_states", none), "leading_states", "leading_states", defArgs s_leading_states, defBody s_leading_states, defScope s_leading_states, [], []⟩
def d_values_from_gains : He.DefD := ⟨("values_from_gains", none), "values_from_gains", "values_from_gains", defArgs s_values_from_gains, defBody s_values_from_gains, defScope s_values_from_gains, [], []⟩
def d_hitting_probabilities : He.DefD := ⟨("hitting_probabilities", none), "hitting_probabilities", "hitting_probabilities", defArgs s_hitting_probabilities, defBody s_hitting_probabilities, defScope s_hitting_probabilities, [], []⟩
def d_hitting_times : He.DefD := ⟨("hitting_times", none), "hitting_times", "hitting_times", defArgs s_hitting_times, defBody s_hitting_times, defScope s_hitting_times, [], []⟩
def d_first_entries : He.DefD := ⟨("first_entries", none), "first_entries", "first_entries", defArgs s_first_entries, defBody s_first_entries, defScope s_first_entries, [], []⟩
def d_is_set : He.DefD := ⟨("is_set", none), "is_set", "is_set", defArgs s_is_set, defBody s_is_set, defScope s_is_set, [], []⟩
def d_hitting_probability : He.DefD := ⟨("hitting_probability", none), "hitting_probability", "hitting_probability", defArgs s_hitting_probability, defBody s_hitting_probability, defScope s_hitting_probability, [], []⟩
def d_hitting_time : He.DefD := ⟨("hitting_time", none), "hitting_time", "hitting_time", defArgs s_hitting_time, defBody s_hitting_time, defScope s_hitting_time, [], []⟩
def d_absorption : He.DefD := ⟨("absorption", none), "absorption", "absorption", defArgs s_absorption, defBody s_absorption, defScope s_absorption, [], []⟩
def d_visits : He.DefD := ⟨("visits", none), "visits", "visits", defArgs s_visits, defBody s_visits, defScope s_visits, [], []⟩
def d_watched : He.DefD := ⟨("watched", none), "watched", "watched", defArgs s_watched, defBody s_watched, defScope s_watched, [], []⟩
def d_Call_init : He.DefD := ⟨("Call", some "__init__"), "__init__", "Call.__init__", defArgs s_Call_init, defBody s_Call_init, defScope s_Call_init, [], []⟩
def d_Reader_init : He.DefD := ⟨("Reader", some "__init__"), "__init__", "Reader.__init__", defArgs s_Reader_init, defBody s_Reader_init, defScope s_Reader_init, [], []⟩
def d_Reader_at_end : He.DefD := ⟨("Reader", some "at_end"), "at_end", "Reader.at_end", defArgs s_Reader_at_end, defBody s_Reader_at_end, defScope s_Reader_at_end, [], []⟩
def d_Reader_take_number : He.DefD := ⟨("Reader", some "take_number"), "take_number", "Reader.take_number", defArgs s_Reader_take_number, defBody s_Reader_take_number, defScope s_Reader_take_number, [], []⟩
def d_Reader_take_row : He.DefD := ⟨("Reader", some "take_row"), "take_row", "Reader.take_row", defArgs s_Reader_take_row, defBody s_Reader_take_row, defScope s_Reader_take_row, [], []⟩
def d_Reader_take_call : He.DefD := ⟨("Reader", some "take_call"), "take_call", "Reader.take_call", defArgs s_Reader_take_call, defBody s_Reader_take_call, defScope s_Reader_take_call, [], []⟩
def d_balanced_numbers : He.DefD := ⟨("balanced_numbers", none), "balanced_numbers", "balanced_numbers", defArgs s_balanced_numbers, defBody s_balanced_numbers, defScope s_balanced_numbers, [], []⟩
def d_stationary_numbers : He.DefD := ⟨("stationary_numbers", none), "stationary_numbers", "stationary_numbers", defArgs s_stationary_numbers, defBody s_stationary_numbers, defScope s_stationary_numbers, [], []⟩
def d_stationary_distribution : He.DefD := ⟨("stationary_distribution", none), "stationary_distribution", "stationary_distribution", defArgs s_stationary_distribution, defBody s_stationary_distribution, defScope s_stationary_distribution, [], []⟩
def d_stationary_around : He.DefD := ⟨("stationary_around", none), "stationary_around", "stationary_around", defArgs s_stationary_around, defBody s_stationary_around, defScope s_stationary_around, [], []⟩
def d_long_run_shares : He.DefD := ⟨("long_run_shares", none), "long_run_shares", "long_run_shares", defArgs s_long_run_shares, defBody s_long_run_shares, defScope s_long_run_shares, [], []⟩
def d_common_sum : He.DefD := ⟨("common_sum", none), "common_sum", "common_sum", defArgs s_common_sum, defBody s_common_sum, defScope s_common_sum, [], []⟩
def d_step_row : He.DefD := ⟨("step_row", none), "step_row", "step_row", defArgs s_step_row, defBody s_step_row, defScope s_step_row, [], []⟩
def d_after_step : He.DefD := ⟨("after_step", none), "after_step", "after_step", defArgs s_after_step, defBody s_after_step, defScope s_after_step, [], []⟩
def d_distribution_after : He.DefD := ⟨("distribution_after", none), "distribution_after", "distribution_after", defArgs s_distribution_after, defBody s_distribution_after, defScope s_distribution_after, [], []⟩
def d_with_count : He.DefD := ⟨("with_count", none), "with_count", "with_count", defArgs s_with_count, defBody s_with_count, defScope s_with_count, [], []⟩
def d_stationary : He.DefD := ⟨("stationary", none), "stationary", "stationary", defArgs s_stationary, defBody s_stationary, defScope s_stationary, [], []⟩
def d_return_time : He.DefD := ⟨("return_time", none), "return_time", "return_time", defArgs s_return_time, defBody s_return_time, defScope s_return_time, [], []⟩
def d_long_run : He.DefD := ⟨("long_run", none), "long_run", "long_run", defArgs s_long_run, defBody s_long_run, defScope s_long_run, [], []⟩
def d_is_start : He.DefD := ⟨("is_start", none), "is_start", "is_start", defArgs s_is_start, defBody s_is_start, defScope s_is_start, [], []⟩
def d_after_steps : He.DefD := ⟨("after_steps", none), "after_steps", "after_steps", defArgs s_after_steps, defBody s_after_steps, defScope s_after_steps, [], []⟩
def d_is_reversible : He.DefD := ⟨("is_reversible", none), "is_reversible", "is_reversible", defArgs s_is_reversible, defBody s_is_reversible, defScope s_is_reversible, [], []⟩
def d_reversed_generator : He.DefD := ⟨("reversed_generator", none), "reversed_generator", "reversed_generator", defArgs s_reversed_generator, defBody s_reversed_generator, defScope s_reversed_generator, [], []⟩
def d_change : He.DefD := ⟨("change", none), "change", "change", defArgs s_change, defBody s_change, defScope s_change, [], []⟩
def d_reach : He.DefD := ⟨("reach", none), "reach", "reach", defArgs s_reach, defBody s_reach, defScope s_reach, [], []⟩
def d_share : He.DefD := ⟨("share", none), "share", "share", defArgs s_share, defBody s_share, defScope s_share, [], []⟩
def d_look_up : He.DefD := ⟨("look_up", none), "look_up", "look_up", defArgs s_look_up, defBody s_look_up, defScope s_look_up, [], []⟩
def d_answer : He.DefD := ⟨("answer", none), "answer", "answer", defArgs s_answer, defBody s_answer, defScope s_answer, [], []⟩
def d_answers : He.DefD := ⟨("answers", none), "answers", "answers", defArgs s_answers, defBody s_answers, defScope s_answers, [], []⟩
def fn0 : List He.DefD := [d_greatest_divisor, d_common_multiple, d_ratio, d_added, d_product, d_quotient, d_rest_to_one, d_blocks_of, d_flow_into, d_flows_agree, d_is_lumpable_into, d_continuous_row, d_discrete_row, d_lumped_rows, d_Chain_init, d_Chain_state_count, d_Chain_has_state, d_Chain_sum_of, d_Chain_greatest_sum, d_Chain_copied_rows]
def fn1 : List He.DefD := [d_Chain_weight_into, d_Chain_chance_of, d_Chain_stay_in, d_Chain_generator_value, d_Instance_init, d_no_instance, d_no_such_state, d_out_of_range, d_no_result, d_weight_too_large, d_create, d_is_weight, d_set_weight, d_is_row, d_set_row, d_remove_state, d_uniformize, d_embed, d_lump, d_distances_from]
def fn2 : List He.DefD := [d_reaches, d_class_of, d_class_names, d_is_closed, d_all_classes, d_closed_classes, d_period_of, d_get_weight, d_probability, d_generator, d_classes, d_class_info, d_distance, d_is_lumpable, d_summary, d_eliminated, d_solve, d_leading_states, d_values_from_gains, d_hitting_probabilities]
def fn3 : List He.DefD := [d_hitting_times, d_first_entries, d_is_set, d_hitting_probability, d_hitting_time, d_absorption, d_visits, d_watched, d_Call_init, d_Reader_init, d_Reader_at_end, d_Reader_take_number, d_Reader_take_row, d_Reader_take_call, d_balanced_numbers, d_stationary_numbers, d_stationary_distribution, d_stationary_around, d_long_run_shares, d_common_sum]
def fn4 : List He.DefD := [d_step_row, d_after_step, d_distribution_after, d_with_count, d_stationary, d_return_time, d_long_run, d_is_start, d_after_steps, d_is_reversible, d_reversed_generator, d_change, d_reach, d_share, d_look_up, d_answer, d_answers]
def fn : List He.DefD := fn0 ++ (fn1 ++ (fn2 ++ (fn3 ++ (fn4))))
def fa0 : List He.Fa := [.glo "greatest_divisor", .glo "common_multiple", .glo "ratio", .glo "added", .glo "product", .glo "quotient", .glo "rest_to_one", .glo "blocks_of", .glo "flow_into", .glo "flows_agree", .glo "is_lumpable_into", .glo "continuous_row", .glo "discrete_row", .glo "lumped_rows", .glo "no_instance", .glo "no_such_state", .glo "out_of_range", .glo "no_result", .glo "weight_too_large", .glo "create", .glo "is_weight", .glo "set_weight", .glo "is_row", .glo "set_row", .glo "remove_state", .glo "uniformize", .glo "embed", .glo "lump", .glo "distances_from", .glo "reaches"]
def fa1 : List He.Fa := [.glo "class_of", .glo "class_names", .glo "is_closed", .glo "all_classes", .glo "closed_classes", .glo "period_of", .glo "get_weight", .glo "probability", .glo "generator", .glo "classes", .glo "class_info", .glo "distance", .glo "is_lumpable", .glo "summary", .glo "eliminated", .glo "solve", .glo "leading_states", .glo "values_from_gains", .glo "hitting_probabilities", .glo "hitting_times", .glo "first_entries", .glo "is_set", .glo "hitting_probability", .glo "hitting_time", .glo "absorption", .glo "visits", .glo "watched", .glo "balanced_numbers", .glo "stationary_numbers", .glo "stationary_distribution"]
def fa2 : List He.Fa := [.glo "stationary_around", .glo "long_run_shares", .glo "common_sum", .glo "step_row", .glo "after_step", .glo "distribution_after", .glo "with_count", .glo "stationary", .glo "return_time", .glo "long_run", .glo "is_start", .glo "after_steps", .glo "is_reversible", .glo "reversed_generator", .glo "change", .glo "reach", .glo "share", .glo "look_up", .glo "answer", .glo "answers", .glo "Chain", .glo "Instance", .glo "Call", .glo "Reader", .glo "OPERATIONS", .glo "CHANGING", .glo "REACHING", .glo "SHARING", .free "abs", .free "all"]
def fa3 : List He.Fa := [.free "any", .free "enumerate", .free "len", .free "list", .free "max", .free "range", .free "set", .free "sum", .free "zip", .int "GREATEST_COUNT" 8, .int "GREATEST_WEIGHT" 1000000, .int "GREATEST_START" 1000000, .int "GREATEST_STEPS" 24, .cls "Chain", .mkr "Chain", .noat "Chain" "is_continuous", .noat "Chain" "rows", .meth "Chain" "state_count", .meth "Chain" "has_state", .meth "Chain" "sum_of", .meth "Chain" "greatest_sum", .meth "Chain" "copied_rows", .meth "Chain" "weight_into", .meth "Chain" "chance_of", .meth "Chain" "stay_in", .meth "Chain" "generator_value", .cls "Instance", .mkr "Instance", .noat "Instance" "chain", .cls "Call"]
def fa4 : List He.Fa := [.mkr "Call", .noat "Call" "name", .noat "Call" "arguments", .cls "Reader", .mkr "Reader", .noat "Reader" "numbers", .noat "Reader" "place", .meth "Reader" "at_end", .meth "Reader" "take_number", .meth "Reader" "take_row", .meth "Reader" "take_call"]
def fa : List He.Fa := fa0 ++ (fa1 ++ (fa2 ++ (fa3 ++ (fa4))))
def nm0 : List PySem.Str := ["greatest_divisor", "common_multiple", "ratio", "added", "product", "quotient", "rest_to_one", "blocks_of", "flow_into", "flows_agree", "is_lumpable_into", "continuous_row", "discrete_row", "lumped_rows", "GREATEST_COUNT", "GREATEST_WEIGHT", "GREATEST_START", "GREATEST_STEPS", "Chain", "Instance", "no_instance", "no_such_state", "out_of_range", "no_result", "weight_too_large", "create", "is_weight", "set_weight", "is_row", "set_row"]
def nm1 : List PySem.Str := ["remove_state", "uniformize", "embed", "lump", "distances_from", "reaches", "class_of", "class_names", "is_closed", "all_classes", "closed_classes", "period_of", "get_weight", "probability", "generator", "classes", "class_info", "distance", "is_lumpable", "summary", "eliminated", "solve", "leading_states", "values_from_gains", "hitting_probabilities", "hitting_times", "first_entries", "is_set", "hitting_probability", "hitting_time"]
def nm2 : List PySem.Str := ["absorption", "visits", "watched", "OPERATIONS", "Call", "Reader", "balanced_numbers", "stationary_numbers", "stationary_distribution", "stationary_around", "long_run_shares", "common_sum", "step_row", "after_step", "distribution_after", "with_count", "stationary", "return_time", "long_run", "is_start", "after_steps", "is_reversible", "reversed_generator", "CHANGING", "REACHING", "SHARING", "change", "reach", "share", "look_up"]
def nm3 : List PySem.Str := ["answer"]
def names : List PySem.Str := nm0 ++ (nm1 ++ (nm2 ++ (nm3)))
def opAd (i : Nat) (K : PySem.W.Frag) : Addr := match K.lookup (He.ga K "OPERATIONS") with
  | some ⟨_, _, .seq its _, _⟩ => (match its.toList[i]? with
    | some (.ref a) => a
    | _ => 0)
  | _ => 0
def tupAt (K : PySem.W.Frag) (a : Addr) (vs : List He.Dv) : Bool := match K.lookup a with
  | some ⟨.type c, _, .seq its _, _⟩ => decide (c = "tuple") && (decide (its.size ≤ sizeLine) && He.relAll (vs.map (He.Dv.v K)) its.toList)
  | _ => false
def ops : List (Str × Int × Int) := [("create", 2, 0), ("set_weight", 3, 0), ("set_row", 1, 1), ("remove_state", 1, 0), ("uniformize", 1, 0), ("embed", 0, 0), ("lump", 0, 1), ("get_weight", 2, 0), ("probability", 2, 0), ("generator", 2, 0), ("classes", 0, 0), ("class_info", 1, 0), ("distance", 2, 0), ("stationary", 1, 0), ("hitting_probability", 1, 1), ("hitting_time", 1, 1), ("absorption", 1, 0), ("return_time", 1, 0), ("visits", 2, 0), ("long_run", 1, 0), ("after_steps", 1, 1), ("is_reversible", 1, 0), ("reversed", 2, 0), ("is_lumpable", 0, 1), ("watched", 2, 1), ("summary", 0, 0)]
def ex (K : PySem.W.Frag) : Bool := He.tupB K "CHANGING" [.str "set_weight", .str "set_row", .str "remove_state", .str "uniformize", .str "embed", .str "lump"] && (He.tupB K "REACHING" [.str "hitting_probability", .str "hitting_time", .str "absorption", .str "visits", .str "watched"] && (He.tupB K "SHARING" [.str "stationary", .str "return_time", .str "long_run", .str "after_steps", .str "is_reversible", .str "reversed"] && (He.tupB K "OPERATIONS" ((List.range 26).map fun i => He.Dv.adr (opAd i)) &&
  (List.range 26).all fun i => match ops[i]? with
    | some o => tupAt K (opAd i K) [.str o.1, .int o.2.1, .int o.2.2]
    | none => false)))
/-! what the top has left, gathered layer by layer -/
def lay (g : Addr → Option Obj) (as : List Addr) : List Addr := as.flatMap fun a => match g a with
  | some o => He.refsD o
  | none => []
def asL (g : Addr → Option Obj) : List Addr := match lay g [mainGlobals] with
  | a1 => match lay g a1 with
    | a2 => match lay g a2 with
      | a3 => mainGlobals :: (a1 ++ (a2 ++ (a3 ++ lay g a3)))
def Kl (g : Addr → Option Obj) : PySem.W.Frag := He.frT g (asL g)
def obL (g : Addr → Option Obj) : He.AlD := ((fa.all fun f => f.ok (Kl g)) && ((fn.all fun d => d.ok (Kl g)) && ex (Kl g)), fn.map fun d => He.fnW (Kl g) d.at_)
theorem obL_of {g : Addr → Option Obj} (e : obL g = He.valD fn) : He.SaysD fa fn (Kl g) ∧ ex (Kl g) = true := by
  have e1 : ((fa.all fun f => f.ok (Kl g)) && ((fn.all fun d => d.ok (Kl g)) && ex (Kl g))) = true := congrArg (fun z : He.AlD => z.1) e
  have e2 : (fn.map fun d => He.fnW (Kl g) d.at_) = fn.map He.DefD.val := congrArg (fun z : He.AlD => z.2) e
  rw [Bool.and_eq_true, Bool.and_eq_true] at e1
  obtain ⟨h1, h2, h3⟩ := e1
  refine ⟨?_, h3⟩
  show ((fa.all fun f => f.ok (Kl g)) && fn.all fun d => d.ok (Kl g), fn.map fun d => He.fnW (Kl g) d.at_) = (true, fn.map He.DefD.val)
  rw [h1, h2, e2]
  rfl
def hk : PySem.W.Hook where
  α := He.AlD
  obs := fun s => obL s.heap.get?
  val := fun _ => He.valD fn
  says := fun _ h => ∃ K : PySem.W.Frag, K.In h ∧ He.SaysD fa fn K ∧ ex K = true
  of := fun _ _ e => ⟨_, He.frT_in, obL_of e⟩
  keeps := fun _ _ _ ⟨K, hK, c⟩ k => ⟨K, PySem.W.Frag.In.keeps hK k, c⟩
abbrev R : PySem.W.OpenSpec := PySem.Challenge.rw_exactchains_s01_answers
def ob (s : PySem.W.SharedT) : He.AlD := obL (HandSHeadRun.getT s)
theorem ob_eq (s : PySem.W.SharedT) : ob s = hk.obs s.abs := congrArg obL (funext (HandSHeadRun.getT_eq s))
theorem run (w : World) : HandSHeadRun.RunEqS R (PySem.W.view R.prog [106]) hk ob 6000 names w := by
  intro os
  kernel_rfl
end ER
set_option maxHeartbeats 4000000
/-! ## EcFrac -/
namespace EC
open Lrx1

/-! fractions as rationals -/
def val (f : Fraction) : Rat := (f.num : Rat) / (f.den : Rat)
structure Red (f : Fraction) : Prop where
  pos : 0 < f.den
  cop : Nat.gcd f.num.natAbs f.den = 1
def Red.q {f : Fraction} (h : Red f) : Rat := ⟨f.num, f.den, Nat.pos_iff_ne_zero.mp h.pos, h.cop⟩
theorem Red.val_eq {f : Fraction} (h : Red f) : val f = h.q := by
  have e := Rat.mkRat_self h.q
  rw [Rat.mkRat_eq_div] at e
  exact e
theorem red_ext {f g : Fraction} (hf : Red f) (hg : Red g) (h : val f = val g) : f = g := by
  rw [hf.val_eq, hg.val_eq] at h
  have h1 : hf.q.num = hg.q.num := by rw [h]
  have h2 : hf.q.den = hg.q.den := by rw [h]
  cases f; cases g
  simp only [Red.q] at h1 h2
  subst h1; subst h2; rfl
theorem red_zero : Red zero := ⟨by decide, by decide⟩
theorem red_one : Red one := ⟨by decide, by decide⟩
theorem red_whole (n : Int) : Red (whole n) := ⟨by show 0 < 1; decide, by show Nat.gcd n.natAbs 1 = 1; exact Nat.gcd_one_right _⟩
theorem val_zero : val zero = 0 := by
  show ((0 : Int) : Rat) / ((1 : Nat) : Rat) = 0
  grind
theorem val_one : val one = 1 := by
  show ((1 : Int) : Rat) / ((1 : Nat) : Rat) = 1
  grind
theorem val_whole (n : Int) : val (whole n) = n := by
  show ((n : Int) : Rat) / ((1 : Nat) : Rat) = n
  grind
theorem natPos_ne {d : Nat} (h : 0 < d) : (d : Rat) ≠ 0 := by
  intro e
  have : d = 0 := by exact_mod_cast e
  omega
theorem red_reduce (n : Int) {d : Nat} (hd : 0 < d) : Red (reduce n d) := by
  unfold reduce
  rw [if_neg (Nat.pos_iff_ne_zero.mp hd)]
  have hg : 0 < Nat.gcd n.natAbs d := Nat.gcd_pos_of_pos_right _ hd
  refine ⟨Nat.div_pos (Nat.le_of_dvd hd (Nat.gcd_dvd_right _ _)) hg, ?_⟩
  show Nat.gcd (n / ((Nat.gcd n.natAbs d : Nat) : Int)).natAbs (d / Nat.gcd n.natAbs d) = 1
  have e : (n / ((Nat.gcd n.natAbs d : Nat) : Int)).natAbs = n.natAbs / Nat.gcd n.natAbs d := by
    obtain ⟨k, hk⟩ := Nat.gcd_dvd_left n.natAbs d
    generalize Nat.gcd n.natAbs d = g at *
    have hgi : ((g : Nat) : Int) ≠ 0 := by omega
    have hkk : n.natAbs / g = k := by rw [hk, Nat.mul_div_cancel_left _ hg]
    rw [hkk]
    rcases Int.natAbs_eq n with h | h
    · rw [h, hk, Int.natCast_mul, Int.mul_ediv_cancel_left _ hgi]; simp
    · rw [h, hk, Int.natCast_mul, ← Int.mul_neg, Int.mul_ediv_cancel_left _ hgi]; simp
  rw [e]
  exact Nat.coprime_div_gcd_div_gcd hg
theorem val_reduce (n : Int) {d : Nat} (hd : 0 < d) : val (reduce n d) = (n : Rat) / (d : Rat) := by
  unfold reduce
  rw [if_neg (Nat.pos_iff_ne_zero.mp hd)]
  have hg : 0 < Nat.gcd n.natAbs d := Nat.gcd_pos_of_pos_right _ hd
  show ((n / ((Nat.gcd n.natAbs d : Nat) : Int) : Int) : Rat) / ((d / Nat.gcd n.natAbs d : Nat) : Rat) = _
  obtain ⟨k, hk⟩ := Nat.gcd_dvd_right n.natAbs d
  obtain ⟨m, hm⟩ : ((Nat.gcd n.natAbs d : Nat) : Int) ∣ n := Int.ofNat_dvd_left.mpr (Nat.gcd_dvd_left _ _)
  generalize Nat.gcd n.natAbs d = g at *
  subst hk hm
  have hgi : ((g : Nat) : Int) ≠ 0 := by omega
  rw [Int.mul_ediv_cancel_left _ hgi, Nat.mul_div_cancel_left _ hg]
  have hk : 0 < k := Nat.pos_of_mul_pos_left hd |> fun h => by
    rcases Nat.eq_zero_or_pos k with e | e
    · subst e; omega
    · exact e
  have h1 := natPos_ne hg
  have h2 := natPos_ne hk
  push_cast
  grind
theorem red_add {a b : Fraction} (ha : 0 < a.den) (hb : 0 < b.den) : Red (add a b) := red_reduce _ (Nat.mul_pos ha hb)
theorem red_sub {a b : Fraction} (ha : 0 < a.den) (hb : 0 < b.den) : Red (sub a b) := red_reduce _ (Nat.mul_pos ha hb)
theorem red_mul {a b : Fraction} (ha : 0 < a.den) (hb : 0 < b.den) : Red (mul a b) := red_reduce _ (Nat.mul_pos ha hb)
theorem val_add {a b : Fraction} (ha : 0 < a.den) (hb : 0 < b.den) : val (add a b) = val a + val b := by
  unfold add
  rw [val_reduce _ (Nat.mul_pos ha hb)]
  have h1 := natPos_ne ha
  have h2 := natPos_ne hb
  unfold val
  push_cast
  grind
theorem val_sub {a b : Fraction} (ha : 0 < a.den) (hb : 0 < b.den) : val (sub a b) = val a - val b := by
  unfold sub
  rw [val_reduce _ (Nat.mul_pos ha hb)]
  have h1 := natPos_ne ha
  have h2 := natPos_ne hb
  unfold val
  push_cast
  grind
theorem val_mul {a b : Fraction} (ha : 0 < a.den) (hb : 0 < b.den) : val (mul a b) = val a * val b := by
  unfold mul
  rw [val_reduce _ (Nat.mul_pos ha hb)]
  have h1 := natPos_ne ha
  have h2 := natPos_ne hb
  unfold val
  push_cast
  grind
theorem val_num_zero {b : Fraction} (hb : 0 < b.den) : val b = 0 ↔ b.num = 0 := by
  have h2 := natPos_ne hb
  unfold val
  constructor
  · intro h
    have : (b.num : Rat) = 0 := by grind
    exact_mod_cast this
  · intro h; rw [h]; grind
theorem red_divide {a b : Fraction} (ha : 0 < a.den) (hb : b.num ≠ 0) : Red (divide a b) := red_reduce _ (Nat.mul_pos ha (by omega))
theorem val_divide {a b : Fraction} (ha : 0 < a.den) (hb : 0 < b.den) (h0 : b.num ≠ 0) : val (divide a b) = val a / val b := by
  unfold divide
  rw [val_reduce _ (Nat.mul_pos ha (by omega))]
  have h1 := natPos_ne ha
  have h2 := natPos_ne hb
  have h3 : (b.num : Rat) ≠ 0 := by intro e; exact h0 (by exact_mod_cast e)
  unfold val
  by_cases h : b.num < 0
  · rw [if_pos h]
    have e : ((b.num.natAbs : Nat) : Rat) = -(b.num : Rat) := by
      have : ((b.num.natAbs : Nat) : Int) = -b.num := by omega
      have h5 := congrArg (fun z : Int => (z : Rat)) this
      simpa only [Rat.intCast_natCast, Rat.intCast_neg] using h5
    push_cast
    rw [e]
    grind
  · rw [if_neg h]
    have e : ((b.num.natAbs : Nat) : Rat) = (b.num : Rat) := by
      have : ((b.num.natAbs : Nat) : Int) = b.num := by omega
      have h5 := congrArg (fun z : Int => (z : Rat)) this
      simpa only [Rat.intCast_natCast, Rat.intCast_neg] using h5
    push_cast
    rw [e]
    grind
theorem reduce_self {f : Fraction} (h : Red f) : reduce f.num f.den = f := red_ext (red_reduce _ h.pos) h (val_reduce _ h.pos)
theorem isZero_iff {a : Fraction} (ha : 0 < a.den) : isZero a = true ↔ val a = 0 := by
  unfold isZero
  rw [beq_iff_eq, val_num_zero ha]
end EC
/-! ## EcLin -/
namespace EC
open Lrx1

/-! finite sums of rationals -/
def S : Nat → (Nat → Rat) → Rat
  | 0, _ => 0
  | n + 1, f => S n f + f n
theorem S_zero (f : Nat → Rat) : S 0 f = 0 := rfl
theorem S_succ (n : Nat) (f : Nat → Rat) : S (n + 1) f = S n f + f n := rfl
theorem S_congr {f g : Nat → Rat} : ∀ {n : Nat}, (∀ i, i < n → f i = g i) → S n f = S n g
  | 0, _ => rfl
  | n + 1, h => by rw [S_succ, S_succ, S_congr (n := n) (fun i hi => h i (by omega)), h n (by omega)]
theorem S_add (f g : Nat → Rat) : ∀ n, S n (fun i => f i + g i) = S n f + S n g
  | 0 => by simp only [S_zero]; grind
  | n + 1 => by simp only [S_succ, S_add f g n]; grind
theorem S_sub (f g : Nat → Rat) : ∀ n, S n (fun i => f i - g i) = S n f - S n g
  | 0 => by simp only [S_zero]; grind
  | n + 1 => by simp only [S_succ, S_sub f g n]; grind
theorem S_neg (f : Nat → Rat) : ∀ n, S n (fun i => - f i) = - S n f
  | 0 => by simp only [S_zero]; grind
  | n + 1 => by simp only [S_succ, S_neg f n]; grind
theorem S_mul (c : Rat) (f : Nat → Rat) : ∀ n, S n (fun i => c * f i) = c * S n f
  | 0 => by simp only [S_zero]; grind
  | n + 1 => by simp only [S_succ, S_mul c f n]; grind
theorem S_mul_right (c : Rat) (f : Nat → Rat) : ∀ n, S n (fun i => f i * c) = S n f * c
  | 0 => by simp only [S_zero]; grind
  | n + 1 => by simp only [S_succ, S_mul_right c f n]; grind
theorem S_null : ∀ n, S n (fun _ => 0) = 0
  | 0 => rfl
  | n + 1 => by simp only [S_succ, S_null n]; grind
theorem S_all_zero {f : Nat → Rat} {n : Nat} (h : ∀ i, i < n → f i = 0) : S n f = 0 := by
  rw [S_congr h, S_null]
theorem S_one (k : Nat) (a : Rat) : ∀ n, S n (fun i => if i = k then a else 0) = if k < n then a else 0
  | 0 => by simp only [S_zero, Nat.not_lt_zero, if_false]
  | n + 1 => by
    simp only [S_succ, S_one k a n]
    by_cases h : k < n
    · rw [if_pos h, if_neg (by omega), if_pos (by omega)]; grind
    · rw [if_neg h]
      by_cases e : n = k
      · rw [if_pos e, if_pos (by omega)]; grind
      · rw [if_neg e, if_neg (by omega)]; grind
/-- one place alone counts -/
theorem S_at {f : Nat → Rat} {n k : Nat} (hk : k < n) (h : ∀ i, i < n → i ≠ k → f i = 0) : S n f = f k := by
  rw [S_congr (g := fun i => if i = k then f k else 0) (fun i hi => ?_), S_one, if_pos hk]
  by_cases e : i = k
  · rw [if_pos e, e]
  · rw [if_neg e, h i hi e]
theorem S_swap (f : Nat → Nat → Rat) (m : Nat) : ∀ n, S n (fun i => S m (f i)) = S m (fun j => S n (fun i => f i j))
  | 0 => by simp only [S_zero, S_null]
  | n + 1 => by
    simp only [S_succ, S_swap f m n]
    rw [S_add]
theorem S_nonneg {f : Nat → Rat} : ∀ {n : Nat}, (∀ i, i < n → 0 ≤ f i) → 0 ≤ S n f
  | 0, _ => by rw [S_zero]; grind
  | n + 1, h => by
    have h1 := S_nonneg (n := n) (fun i hi => h i (by omega))
    have h2 := h n (by omega)
    rw [S_succ]; grind
theorem S_le {f g : Nat → Rat} : ∀ {n : Nat}, (∀ i, i < n → f i ≤ g i) → S n f ≤ S n g
  | 0, _ => by rw [S_zero, S_zero]; grind
  | n + 1, h => by
    have h1 := S_le (n := n) (fun i hi => h i (by omega))
    have h2 := h n (by omega)
    rw [S_succ, S_succ]; grind
/-- a sum of numbers that aren't negative is 0 only if all are -/
theorem S_nil {f : Nat → Rat} : ∀ {n : Nat}, (∀ i, i < n → 0 ≤ f i) → S n f = 0 → ∀ i, i < n → f i = 0
  | 0, _, _, i, hi => by omega
  | n + 1, h, e, i, hi => by
    have h1 := S_nonneg (n := n) (fun i hi => h i (by omega))
    have h2 := h n (by omega)
    rw [S_succ] at e
    by_cases c : i = n
    · subst c; grind
    · exact S_nil (n := n) (fun i hi => h i (by omega)) (by grind) i (by omega)
/-- where a sum is another one's and each part is at most the other's, the parts are alike -/
theorem S_tight {f g : Nat → Rat} {n : Nat} (h : ∀ i, i < n → f i ≤ g i) (e : S n f = S n g) : ∀ i, i < n → f i = g i := fun i hi => by
  have z := S_nil (f := fun i => g i - f i) (n := n) (fun i hi => by have := h i hi; grind) (by rw [S_sub]; grind) i hi
  grind
theorem S_append (f : Nat → Rat) (m : Nat) : ∀ n, S (m + n) f = S m f + S n (fun i => f (m + i))
  | 0 => by rw [S_zero, Nat.add_zero]; grind
  | n + 1 => by rw [← Nat.add_assoc, S_succ, S_succ, S_append f m n]; grind

/-! the specification's linear equations -/
abbrev En (rows : List Row) (i j : Nat) : Rat := val (entry (rows.getD i []) j)
structure RowsOk (n : Nat) (rows : List Row) : Prop where
  len : rows.length = n
  row : ∀ i, i < n → (rows.getD i []).length = n + 1
  red : ∀ i j, i < n → j ≤ n → Red (entry (rows.getD i []) j)
def An (n : Nat) (rows : List Row) (y : Nat → Rat) : Prop := ∀ i, i < n → S (n + 1) (fun j => En rows i j * y j) = 0
def Uc (n c : Nat) (rows : List Row) : Prop := ∀ j, j < c → ∀ i, i < n → En rows i j = if i = j then 1 else 0
def Triv (n : Nat) (rows : List Row) : Prop := ∀ y, An n rows y → y n = 0 → ∀ j, j < n → y j = 0

theorem entry_map {f : Nat → Fraction} {m j : Nat} (h : j < m) : entry ((List.range m).map f) j = f j := by
  unfold entry
  simp [List.getD_eq_getElem?_getD, h]
theorem entry_scale {k : Fraction} {row : Row} {j : Nat} (h : j < row.length) : entry (scaleRow k row) j = mul k (entry row j) := by
  unfold entry scaleRow
  simp [List.getD_eq_getElem?_getD, h]
theorem entry_subr {k : Fraction} {other row : Row} {j : Nat} (h : j < row.length) : entry (subtractRow k other row) j = sub (entry row j) (mul k (entry other j)) := by
  unfold subtractRow
  exact entry_map h
theorem getD_map_range {α : Type} {f : Nat → α} {m i : Nat} {d : α} (h : i < m) : ((List.range m).map f).getD i d = f i := by
  simp [List.getD_eq_getElem?_getD, h]

theorem find_range {p : Nat → Bool} {m r : Nat} (h : (List.range m).find? p = some r) : r < m ∧ p r = true := by
  have h1 := List.find?_some h
  have h2 := List.mem_of_find?_eq_some h
  exact ⟨List.mem_range.mp h2, h1⟩
theorem find_none {p : Nat → Bool} {m r : Nat} (h : (List.range m).find? p = none) (hr : r < m) : p r = false := by
  have := List.find?_eq_none.mp h r (List.mem_range.mpr hr)
  simpa using this

/-- the rows with two of them exchanged -/
def swapR (rows : List Row) (c r : Nat) : List Row := (rows.set r (rows.getD c [])).set c (rows.getD r [])
theorem swapR_len (rows : List Row) (c r : Nat) : (swapR rows c r).length = rows.length := by
  unfold swapR; simp
theorem swapR_get {rows : List Row} {c r i : Nat} (hc : c < rows.length) (hr : r < rows.length) (hi : i < rows.length) :
    (swapR rows c r).getD i [] = if i = c then rows.getD r [] else if i = r then rows.getD c [] else rows.getD i [] := by
  unfold swapR
  simp only [List.getD_eq_getElem?_getD, List.getElem?_set, List.length_set]
  by_cases e : c = i
  · subst e; simp [hi]
  · rw [if_neg e, if_neg (show ¬ i = c from fun z => e z.symm)]
    by_cases e2 : r = i
    · rw [if_pos e2, if_pos e2.symm, e2]
      simp [hi]
    · rw [if_neg e2, if_neg (show ¬ i = r from fun z => e2 z.symm)]

theorem pivot_some {n c : Nat} {rows rows' : List Row} (ok : RowsOk n rows) (hc : c < n) (h : pivotStep rows c = some rows') :
    RowsOk n rows' ∧ (∀ y, An n rows' y ↔ An n rows y) ∧ (Uc n c rows → Uc n (c + 1) rows') := by
  unfold pivotStep at h
  split at h
  · cases h
  · rename_i r hr
    obtain ⟨hrl, hp⟩ := find_range hr
    rw [ok.len] at hrl
    rw [Bool.and_eq_true, decide_eq_true_eq, Bool.not_eq_true'] at hp
    obtain ⟨hcr, hz⟩ := hp
    have rr := ok.red r c hrl (by omega)
    have hne : En rows r c ≠ 0 := fun e => by
      have := (isZero_iff rr.pos).mpr e
      rw [hz] at this; cases this
    have sw : (rows.set r (rows.getD c [])).set c (rows.getD r []) = swapR rows c r := rfl
    simp only [sw] at h
    have lc : c < rows.length := by rw [ok.len]; exact hc
    have lr : r < rows.length := by rw [ok.len]; exact hrl
    have gs : ∀ i, i < n → (swapR rows c r).getD i [] = if i = c then rows.getD r [] else if i = r then rows.getD c [] else rows.getD i [] := fun i hi => swapR_get lc lr (by rw [ok.len]; exact hi)
    have gc : (swapR rows c r).getD c [] = rows.getD r [] := by rw [gs c hc, if_pos rfl]
    rw [gc] at h
    have sl : ∀ i, i < n → ((swapR rows c r).getD i []).length = n + 1 := fun i hi => by
      rw [gs i hi]
      split
      · exact ok.row r hrl
      · split
        · exact ok.row c hc
        · exact ok.row i hi
    have sr : ∀ i j, i < n → j ≤ n → Red (entry ((swapR rows c r).getD i []) j) := fun i j hi hj => by
      rw [gs i hi]
      split
      · exact ok.red r j hrl hj
      · split
        · exact ok.red c j hc hj
        · exact ok.red i j hi hj
    generalize hT : swapR rows c r = T at *
    have Tl : T.length = n := by rw [← hT, swapR_len, ok.len]
    generalize hpv : scaleRow (divide one (entry (rows.getD r []) c)) (rows.getD r []) = pv at h
    have hnum : (entry (rows.getD r []) c).num ≠ 0 := fun e => hne ((val_num_zero rr.pos).mpr e)
    have rdv : Red (divide one (entry (rows.getD r []) c)) := red_divide red_one.pos hnum
    have pvl : pv.length = n + 1 := by rw [← hpv]; unfold scaleRow; rw [List.length_map]; exact ok.row r hrl
    have pvr : ∀ j, j ≤ n → Red (entry pv j) := fun j hj => by
      rw [← hpv, entry_scale (by rw [ok.row r hrl]; omega)]
      exact red_mul rdv.pos (ok.red r j hrl hj).pos
    have pvv : ∀ j, j ≤ n → val (entry pv j) = En rows r j / En rows r c := fun j hj => by
      rw [← hpv, entry_scale (by rw [ok.row r hrl]; omega), val_mul rdv.pos (ok.red r j hrl hj).pos, val_divide red_one.pos rr.pos hnum, val_one]
      grind
    have e := Option.some.inj h
    have g' : ∀ i, i < n → rows'.getD i [] = if i = c then pv else subtractRow (entry (T.getD i []) c) pv (T.getD i []) := fun i hi => by
      rw [← e, getD_map_range (by rw [Tl]; exact hi)]
    have v' : ∀ i j, i < n → j ≤ n → En rows' i j = if i = c then En rows r j / En rows r c else En T i j - En T i c * (En rows r j / En rows r c) := fun i j hi hj => by
      show val (entry (rows'.getD i []) j) = _
      rw [g' i hi]
      split
      · exact pvv j hj
      · rw [entry_subr (by rw [sl i hi]; omega), val_sub (sr i j hi hj).pos (red_mul (sr i c hi (by omega)).pos (pvr j hj).pos).pos, val_mul (sr i c hi (by omega)).pos (pvr j hj).pos, pvv j hj]
    have Tv : ∀ i j, i < n → En T i j = if i = c then En rows r j else if i = r then En rows c j else En rows i j := fun i j hi => by
      show val (entry (T.getD i []) j) = _
      rw [gs i hi]
      split
      · rfl
      · split <;> rfl
    refine ⟨⟨by rw [← e]; simp [Tl], fun i hi => ?_, fun i j hi hj => ?_⟩, fun y => ?_, fun hu => ?_⟩
    · rw [g' i hi]
      split
      · exact pvl
      · unfold subtractRow; rw [List.length_map, List.length_range]; exact sl i hi
    · rw [g' i hi]
      split
      · exact pvr j hj
      · rw [entry_subr (by rw [sl i hi]; omega)]
        exact red_sub (sr i j hi hj).pos (red_mul (sr i c hi (by omega)).pos (pvr j hj).pos).pos
    · -- the solutions
      have sum' : ∀ i, i < n → S (n + 1) (fun j => En rows' i j * y j) = if i = c then S (n + 1) (fun j => En rows r j * y j) / En rows r c
          else S (n + 1) (fun j => En T i j * y j) - En T i c / En rows r c * S (n + 1) (fun j => En rows r j * y j) := fun i hi => by
        split
        · rename_i ec
          rw [S_congr (g := fun j => (1 / En rows r c) * (En rows r j * y j)) (fun j hj => by rw [v' i j hi (by omega), if_pos ec]; grind), S_mul]
          grind
        · rename_i ec
          rw [S_congr (g := fun j => En T i j * y j - (En T i c / En rows r c) * (En rows r j * y j)) (fun j hj => by rw [v' i j hi (by omega), if_neg ec]; grind), S_sub, S_mul]
      have sumT : ∀ i, i < n → S (n + 1) (fun j => En T i j * y j) = if i = c then S (n + 1) (fun j => En rows r j * y j) else if i = r then S (n + 1) (fun j => En rows c j * y j) else S (n + 1) (fun j => En rows i j * y j) := fun i hi => by
        rw [S_congr (fun j hj => by rw [Tv i j hi])]
        split
        · rfl
        · split <;> rfl
      constructor
      · intro a
        have a_r : S (n + 1) (fun j => En rows r j * y j) = 0 := by
          have z := a c hc
          rw [sum' c hc, if_pos rfl] at z
          grind
        have aT : ∀ i, i < n → i ≠ c → S (n + 1) (fun j => En T i j * y j) = 0 := fun i hi hic => by
          have z := a i hi
          rw [sum' i hi, if_neg hic, a_r] at z
          grind
        intro i hi
        by_cases e1 : i = r
        · rw [e1]; exact a_r
        · by_cases e2 : i = c
          · have hrc : r ≠ c := fun z => e1 (e2.trans z.symm)
            have z := aT r hrl hrc
            rw [sumT r hrl, if_neg hrc, if_pos rfl] at z
            rw [e2]; exact z
          · have z := aT i hi e2
            rw [sumT i hi, if_neg e2, if_neg e1] at z
            exact z
      · intro a i hi
        rw [sum' i hi, a r hrl]
        split
        · grind
        · rename_i ec
          have z : S (n + 1) (fun j => En T i j * y j) = 0 := by
            rw [sumT i hi, if_neg ec]
            split
            · exact a c hc
            · exact a i hi
          rw [z]; grind
    · intro j hj i hi
      have hr0 : j < c → En rows r j = 0 := fun h => by rw [hu j h r hrl, if_neg (by omega)]
      by_cases jc : j = c
      · subst jc
        rw [v' i j hi (by omega)]
        by_cases ec : i = j
        · rw [if_pos ec, if_pos ec]; grind
        · rw [if_neg ec, if_neg ec]; grind
      · have jl : j < c := by omega
        rw [v' i j hi (by omega), hr0 jl]
        by_cases ec : i = c
        · rw [if_pos ec, if_neg (by omega)]; grind
        · rw [if_neg ec, Tv i j hi, if_neg ec]
          by_cases er : i = r
          · rw [if_pos er, hu j jl c hc, if_neg (by omega), if_neg (by omega)]; grind
          · rw [if_neg er, hu j jl i hi]; grind

theorem pivot_none {n c : Nat} {rows : List Row} (ok : RowsOk n rows) (hc : c < n) (hu : Uc n c rows) (ht : Triv n rows) (h : pivotStep rows c = none) : False := by
  unfold pivotStep at h
  split at h
  · rename_i hf
    have z : ∀ r, c ≤ r → r < n → En rows r c = 0 := fun r h1 h2 => by
      have q := find_none hf (r := r) (by rw [ok.len]; exact h2)
      rw [Bool.and_eq_false_iff] at q
      rcases q with q | q
      · simp at q; omega
      · rw [Bool.not_eq_false'] at q
        exact (isZero_iff (ok.red r c h2 (by omega)).pos).mp q
    have k := ht (fun j => if j < c then - En rows j c else if j = c then 1 else 0) (fun i hi => ?_) (by rw [if_neg (by omega), if_neg (by omega)]) c hc
    · simp only [Nat.lt_irrefl, if_false, if_true] at k
      grind
    · rw [S_congr (g := fun j => (if j = i then (if i < c then - En rows i c else 0) else 0) + (if j = c then En rows i c else 0)) (fun j hj => ?_), S_add, S_one, S_one, if_pos (show i < n + 1 by omega), if_pos (show c < n + 1 by omega)]
      · by_cases ic : i < c
        · rw [if_pos ic]; grind
        · rw [if_neg ic, z i (by omega) hi]; grind
      · by_cases jc : j < c
        · simp only [if_pos jc]
          rw [hu j jc i hi, if_neg (show ¬ j = c by omega)]
          by_cases e : i = j
          · rw [if_pos e, if_pos e.symm, if_pos (by omega), e]; grind
          · rw [if_neg e, if_neg (fun z => e z.symm)]; grind
        · simp only [if_neg jc]
          by_cases e : j = c
          · rw [if_pos e, if_pos e]
            by_cases ei : j = i
            · rw [if_pos ei, if_neg (by omega), e]; grind
            · rw [if_neg ei, e]; grind
          · rw [if_neg e, if_neg e]
            by_cases ei : j = i
            · rw [if_pos ei, if_neg (by omega)]; grind
            · rw [if_neg ei]; grind
  · cases h

theorem steps_ok {n : Nat} {rows : List Row} (ok : RowsOk n rows) (ht : Triv n rows) : ∀ c, c ≤ n →
    ∃ rs, (List.range c).foldl (fun (state : Option (List Row)) (c : Nat) => state.bind fun rows => pivotStep rows c) (some rows) = some rs ∧ RowsOk n rs ∧ (∀ y, An n rs y ↔ An n rows y) ∧ Uc n c rs
  | 0, _ => ⟨rows, rfl, ok, fun _ => Iff.rfl, fun j hj => by omega⟩
  | c + 1, h => by
    obtain ⟨rs, e, o, a, u⟩ := steps_ok ok ht c (by omega)
    rw [List.range_succ, List.foldl_append, e]
    show ∃ rs', pivotStep rs c = some rs' ∧ _
    cases q : pivotStep rs c with
    | none => exact (pivot_none o (by omega) u (fun y hy => ht y ((a y).mp hy)) q).elim
    | some rs' =>
      obtain ⟨h1, h2, h3⟩ := pivot_some o (by omega) q
      exact ⟨rs', rfl, h1, fun y => (h2 y).trans (a y), h3 u⟩

/-- the specification solves equations that have but one solution -/
theorem solve_ok {n : Nat} {rows : List Row} (ok : RowsOk n rows) (ht : Triv n rows) :
    ∃ sol, Lrx1.solve rows = some sol ∧ sol.length = n ∧ (∀ i, i < n → Red (sol.getD i zero)) ∧ ∀ i, i < n → S n (fun j => En rows i j * val (sol.getD j zero)) = En rows i n := by
  obtain ⟨rs, e, o, a, u⟩ := steps_ok ok ht n (Nat.le_refl n)
  have g : ∀ i, i < n → (rs.map fun row => entry row rs.length).getD i zero = entry (rs.getD i []) n := fun i hi => by
    have hi' : i < rs.length := by rw [o.len]; exact hi
    rw [List.getD_eq_getElem?_getD, List.getD_eq_getElem?_getD, List.getElem?_map, List.getElem?_eq_getElem hi', o.len]
    rfl
  refine ⟨rs.map fun row => entry row rs.length, ?_, by rw [List.length_map, o.len], fun i hi => ?_, ?_⟩
  · unfold Lrx1.solve
    rw [ok.len, e]; rfl
  · rw [g i hi]; exact o.red i n hi (Nat.le_refl n)
  · have an : An n rs (fun j => if j < n then En rs j n else -1) := fun i hi => by
      rw [S_succ, S_at hi (fun j hj hji => by rw [u j hj i hi, if_neg (fun z => hji z.symm)]; grind), u i hi i hi]
      simp only [hi, if_true, Nat.lt_irrefl, if_false]
      grind
    have an2 := (a _).mp an
    intro i hi
    have z := an2 i hi
    rw [S_succ] at z
    simp only [Nat.lt_irrefl, if_false] at z
    rw [S_congr (g := fun j => En rows i j * (if j < n then En rs j n else -1)) (fun j hj => by rw [g j hj, if_pos hj])]
    grind
end EC
/-! ## EcDet -/
namespace EC

/-! determinants by columns: c j i is the entry of column j in row i -/
def upc (c : Nat → Nat → Rat) (l : Nat) (v : Nat → Rat) : Nat → Nat → Rat := fun j => if j = l then v else c j
theorem upc_same (c : Nat → Nat → Rat) (l : Nat) (v : Nat → Rat) : upc c l v l = v := if_pos rfl
theorem upc_ne {c : Nat → Nat → Rat} {l j : Nat} {v : Nat → Rat} (h : j ≠ l) : upc c l v j = c j := if_neg h
def D : Nat → (Nat → Nat → Rat) → Rat
  | 0, _ => 1
  | k + 1, c => c k k * D k c - S k (fun l => c l k * D k (upc c l (c k)))
theorem D_succ (k : Nat) (c : Nat → Nat → Rat) : D (k + 1) c = c k k * D k c - S k (fun l => c l k * D k (upc c l (c k))) := rfl
theorem D_congr : ∀ {k : Nat} {c c' : Nat → Nat → Rat}, (∀ j i, j < k → i < k → c j i = c' j i) → D k c = D k c'
  | 0, _, _, _ => rfl
  | k + 1, c, c', h => by
    rw [D_succ, D_succ, h k k (by omega) (by omega), D_congr (k := k) (c := c) (c' := c') (fun j i hj hi => h j i (by omega) (by omega))]
    rw [S_congr (fun l hl => ?_)]
    rw [h l k (by omega) (by omega), D_congr (k := k) (c := upc c l (c k)) (c' := upc c' l (c' k)) (fun j i hj hi => ?_)]
    unfold upc
    split
    · exact h k i (by omega) (by omega)
    · exact h j i (by omega) (by omega)
theorem D_lin : ∀ {k : Nat} (c : Nat → Nat → Rat) {l : Nat} (hl : l < k) (a b : Rat) (u v : Nat → Rat),
    D k (upc c l (fun i => a * u i + b * v i)) = a * D k (upc c l u) + b * D k (upc c l v)
  | 0, _, _, hl, _, _, _, _ => by omega
  | k + 1, c, l, hl, a, b, u, v => by
    by_cases e : l = k
    · subst e
      have h1 : ∀ w : Nat → Rat, D (l + 1) (upc c l w) = w l * D l c - S l (fun m => c m l * D l (upc c m w)) := fun w => by
        rw [D_succ, upc_same, D_congr (k := l) (c := upc c l w) (c' := c) (fun j i hj hi => by rw [upc_ne (by omega)])]
        rw [S_congr (fun m hm => ?_)]
        rw [upc_ne (by omega), D_congr (fun j i hj hi => ?_)]
        unfold upc
        split
        · rfl
        · rw [if_neg (by omega)]
      rw [h1, h1, h1]
      rw [S_congr (g := fun m => a * (c m l * D l (upc c m u)) + b * (c m l * D l (upc c m v))) (fun m hm => ?_), S_add, S_mul, S_mul]
      · grind
      · rw [D_lin c hm a b u v]; grind
    · have hk : l < k := by omega
      have h1 : ∀ w : Nat → Rat, D (k + 1) (upc c l w) = c k k * D k (upc c l w) - S k (fun m => if m = l then w k * D k (upc c l (c k)) else c m k * D k (upc (upc c m (c k)) l w)) := fun w => by
        rw [D_succ, upc_ne (show k ≠ l by omega)]
        rw [S_congr (fun m hm => ?_)]
        by_cases em : m = l
        · subst em
          rw [if_pos rfl, upc_same, D_congr (fun j i hj hi => ?_)]
          unfold upc
          split <;> rfl
        · rw [if_neg em, upc_ne em, D_congr (fun j i hj hi => ?_)]
          unfold upc
          by_cases e1 : j = m
          · rw [if_pos e1, if_neg (by omega), if_pos e1]
          · rw [if_neg e1]
            split
            · rfl
            · first | rfl | rw [if_neg e1]
      rw [h1, h1, h1, D_lin c hk a b u v]
      rw [S_congr (g := fun m => a * (if m = l then u k * D k (upc c l (c k)) else c m k * D k (upc (upc c m (c k)) l u)) + b * (if m = l then v k * D k (upc c l (c k)) else c m k * D k (upc (upc c m (c k)) l v))) (fun m hm => ?_), S_add, S_mul, S_mul]
      · grind
      · by_cases em : m = l
        · simp only [if_pos em]; grind
        · simp only [if_neg em]
          rw [D_lin _ hk a b u v]; grind
theorem upc_self {k : Nat} {c : Nat → Nat → Rat} (l : Nat) : D k (upc c l (c l)) = D k c := D_congr fun j i _ _ => by
  unfold upc
  split
  · rename_i e; rw [e]
  · rfl
theorem D_alt : ∀ {k : Nat} {c : Nat → Nat → Rat} {a b : Nat}, a < b → b < k → (∀ i, i < k → c a i = c b i) → D k c = 0
  | 0, _, _, _, _, h, _ => by omega
  | k + 1, c, a, b, hab, hb, h => by
    rw [D_succ]
    by_cases e : b = k
    · subst e
      rw [S_at (k := a) hab (fun m hm hma => ?_)]
      · rw [h b (by omega), D_congr (c := upc c a (c b)) (c' := c) (fun j i hj hi => ?_)]
        · grind
        · unfold upc
          split
          · rename_i e; rw [e, h i (by omega)]
          · rfl
      · -- columns a and m of the minor are alike
        have z : D b (upc c m (c b)) = 0 := by
          rcases Nat.lt_or_gt_of_ne hma with q | q
          · refine D_alt (a := m) (b := a) q hab fun i hi => ?_
            rw [upc_same, upc_ne (by omega), h i (by omega)]
          · refine D_alt (a := a) (b := m) q hm fun i hi => ?_
            rw [upc_same, upc_ne (by omega), h i (by omega)]
        rw [z]; grind
    · have hk : b < k := by omega
      rw [D_alt (k := k) hab hk (fun i hi => h i (by omega))]
      have anti : D k (upc c a (c k)) + D k (upc c b (c k)) = 0 := by
        -- both columns the sum of c a (= c b) and c k
        have z : ∀ w : Nat → Rat, D k (upc (upc c a w) b w) = 0 := fun w => D_alt (k := k) hab hk fun i hi => by
          rw [upc_ne (show a ≠ b by omega), upc_same, upc_same]
        have l1 := D_lin (k := k) (upc c a (fun i => 1 * c a i + 1 * c k i)) hk 1 1 (c a) (c k)
        rw [z] at l1
        have sw : ∀ w x : Nat → Rat, D k (upc (upc c a w) b x) = D k (upc (upc c b x) a w) := fun w x => D_congr fun j i hj hi => by
          unfold upc
          by_cases e1 : j = b
          · rw [if_pos e1, if_neg (by omega), if_pos e1]
          · rw [if_neg e1]
            split
            · rfl
            · first | rfl | rw [if_neg e1]
        rw [sw, sw, D_lin _ (show a < k by omega), D_lin _ (show a < k by omega), ← sw, ← sw, ← sw, ← sw, z, z] at l1
        have e1 : D k (upc (upc c a (c a)) b (c k)) = D k (upc c b (c k)) := D_congr fun j i hj hi => by
          unfold upc
          split
          · rfl
          · split
            · rename_i q; rw [q]
            · rfl
        have e2 : D k (upc (upc c a (c k)) b (c a)) = D k (upc c a (c k)) := D_congr fun j i hj hi => by
          unfold upc
          split
          · rename_i q; rw [if_neg (by omega), q, h i (by omega)]
          · rfl
        rw [e1, e2] at l1
        grind
      rw [S_congr (g := fun m => (if m = a then c a k * D k (upc c a (c k)) else 0) + (if m = b then c b k * D k (upc c b (c k)) else 0)) (fun m hm => ?_), S_add, S_one, S_one, if_pos (show a < k by omega), if_pos hk, h k (by omega)]
      · grind
      · by_cases ea : m = a
        · rw [if_pos ea, if_neg (show ¬ m = b by omega), ea]; grind
        · rw [if_neg ea]
          by_cases eb : m = b
          · rw [if_pos eb, eb]; grind
          · rw [if_neg eb, D_alt (k := k) hab hk (fun i hi => ?_)]
            · grind
            · rw [upc_ne (fun z => ea z.symm), upc_ne (fun z => eb z.symm), h i (by omega)]
theorem D_sum {k : Nat} (c : Nat → Nat → Rat) {l : Nat} (hl : l < k) (x : Nat → Rat) (v : Nat → Nat → Rat) : ∀ n, D k (upc c l (fun i => S n (fun j => x j * v j i))) = S n (fun j => x j * D k (upc c l (v j)))
  | 0 => by
    have z := D_lin (k := k) c hl 0 0 (fun _ => 0) (fun _ => 0)
    rw [S_zero, D_congr (c' := upc c l (fun i => 0 * (fun _ => (0 : Rat)) i + 0 * (fun _ => (0 : Rat)) i)) (fun j i hj hi => ?_), z]
    · grind
    · unfold upc
      split
      · simp only [S_zero]; grind
      · rfl
  | n + 1 => by
    have z := D_lin (k := k) c hl 1 (x n) (fun i => S n (fun j => x j * v j i)) (v n)
    rw [S_succ, ← D_sum c hl x v n, D_congr (c' := upc c l (fun i => 1 * (fun i => S n (fun j => x j * v j i)) i + x n * v n i)) (fun j i hj hi => ?_), z]
    · grind
    · unfold upc
      split
      · simp only [S_succ]; grind
      · rfl
/-- Cramer's rule -/
theorem cramer {k : Nat} {c : Nat → Nat → Rat} {x q : Nat → Rat} (h : ∀ i, i < k → S k (fun j => x j * c j i) = q i) {l : Nat} (hl : l < k) : D k (upc c l q) = x l * D k c := by
  rw [D_congr (c' := upc c l (fun i => S k (fun j => x j * c j i))) (fun j i hj hi => ?_), D_sum c hl x c k, S_at hl (fun j hj hjl => ?_), upc_self]
  · have z : D k (upc c l (c j)) = 0 := by
      rcases Nat.lt_or_gt_of_ne hjl with e | e
      · exact D_alt (a := j) (b := l) e hl fun i hi => by rw [upc_ne hjl, upc_same]
      · exact D_alt (a := l) (b := j) e hj fun i hi => by rw [upc_ne hjl, upc_same]
    rw [z]; grind
  · unfold upc
    split
    · exact (h i hi).symm
    · rfl
def isI (r : Rat) : Prop := ∃ z : Int, r = z
theorem isI.mul {a b : Rat} (h : isI a) (g : isI b) : isI (a * b) := by
  obtain ⟨x, rfl⟩ := h; obtain ⟨y, rfl⟩ := g
  exact ⟨x * y, by push_cast; rfl⟩
theorem isI.sub {a b : Rat} (h : isI a) (g : isI b) : isI (a - b) := by
  obtain ⟨x, rfl⟩ := h; obtain ⟨y, rfl⟩ := g
  exact ⟨x - y, by push_cast; rfl⟩
theorem isI.add {a b : Rat} (h : isI a) (g : isI b) : isI (a + b) := by
  obtain ⟨x, rfl⟩ := h; obtain ⟨y, rfl⟩ := g
  exact ⟨x + y, by push_cast; rfl⟩
theorem isI.S {f : Nat → Rat} : ∀ {n : Nat}, (∀ i, i < n → isI (f i)) → isI (S n f)
  | 0, _ => ⟨0, rfl⟩
  | n + 1, h => (isI.S (n := n) fun i hi => h i (by omega)).add (h n (by omega))
theorem isI.D : ∀ {k : Nat} {c : Nat → Nat → Rat}, (∀ j i, isI (c j i)) → isI (D k c)
  | 0, _, _ => ⟨1, rfl⟩
  | k + 1, c, h => by
    rw [D_succ]
    refine ((h k k).mul (isI.D h)).sub (isI.S fun l hl => (h l k).mul (isI.D fun j i => ?_))
    unfold upc
    split
    · exact h k i
    · exact h j i

/-! Bareiss: what the elimination has behind k steps, A j i the entry of column j in row i -/
section
variable (A : Nat → Nat → Rat)
def dB (k : Nat) : Rat := D k A
def zB (k j l : Nat) : Rat := D k (upc A l (A j))
def tB (k i j : Nat) : Rat := if i < k then zB A k j i else dB A k * A j i - S k (fun l => A l i * zB A k j l)
theorem dB_zero : dB A 0 = 1 := rfl
theorem tB_zero (i j : Nat) : tB A 0 i j = A j i := by
  unfold tB
  rw [if_neg (Nat.not_lt_zero _), S_zero, dB_zero]; grind
theorem dB_succ (k : Nat) : dB A (k + 1) = tB A k k k := by
  unfold dB tB
  rw [if_neg (Nat.lt_irrefl _), D_succ]
  unfold dB zB
  grind
variable {A}
/-- the solved part -/
def SysB (A : Nat → Nat → Rat) (k : Nat) : Prop := ∀ i j, i < k → S k (fun l => A l i * zB A k j l) = dB A k * A j i
theorem tB_low {k i j : Nat} (h : i < k) : tB A k i j = zB A k j i := if_pos h
theorem tB_high {k i j : Nat} (h : k ≤ i) : tB A k i j = dB A k * A j i - S k (fun l => A l i * zB A k j l) := if_neg (by omega)
/-- the next state, by what the program reckons -/
theorem step_B {k : Nat} (h : SysB A k) (d0 : dB A k ≠ 0) (d1 : dB A (k + 1) ≠ 0) :
    SysB A (k + 1) ∧ ∀ i j, tB A (k + 1) i j = if i = k then tB A k k j else (tB A k k k * tB A k i j - tB A k i k * tB A k k j) / dB A k := by
  -- U: what is reckoned
  have hU : ∀ j i, i < k + 1 → S (k + 1) (fun l => A l i * (if l = k then tB A k k j else (tB A k k k * zB A k j l - zB A k k l * tB A k k j) / dB A k)) = tB A k k k * A j i := fun j i hi => by
    rw [S_succ, if_pos rfl, S_congr (g := fun l => tB A k k k / dB A k * (A l i * zB A k j l) - tB A k k j / dB A k * (A l i * zB A k k l)) (fun l hl => by rw [if_neg (by omega)]; grind), S_sub, S_mul, S_mul]
    by_cases e : i = k
    · subst e
      have h1 := tB_high (A := A) (k := i) (i := i) (j := j) (Nat.le_refl _)
      have h2 := tB_high (A := A) (k := i) (i := i) (j := i) (Nat.le_refl _)
      have h3 : S i (fun l => A l i * zB A i j l) = dB A i * A j i - tB A i i j := by grind
      have h4 : S i (fun l => A l i * zB A i i l) = dB A i * A i i - tB A i i i := by grind
      rw [h3, h4]
      grind
    · rw [h i j (by omega), h i k (by omega)]
      grind
  have key : ∀ j l, l < k + 1 → zB A (k + 1) j l = if l = k then tB A k k j else (tB A k k k * zB A k j l - zB A k k l * tB A k k j) / dB A k := fun j l hl => by
    have c := cramer (k := k + 1) (c := A) (q := A j) (x := fun l => (if l = k then tB A k k j else (tB A k k k * zB A k j l - zB A k k l * tB A k k j) / dB A k) / dB A (k + 1)) (fun i hi => ?_) hl
    · rw [show zB A (k + 1) j l = D (k + 1) (upc A l (A j)) from rfl, c]
      show _ / dB A (k + 1) * dB A (k + 1) = _
      generalize (if l = k then tB A k k j else (tB A k k k * zB A k j l - zB A k k l * tB A k k j) / dB A k) = u
      clear c hU
      grind
    · rw [S_congr (g := fun l => 1 / dB A (k + 1) * (A l i * (if l = k then tB A k k j else (tB A k k k * zB A k j l - zB A k k l * tB A k k j) / dB A k))) (fun l hl => by grind), S_mul, hU j i hi, dB_succ]
      rw [dB_succ] at d1
      grind
  have sys : SysB A (k + 1) := fun i j hi => by
    rw [S_congr (fun l hl => by rw [key j l hl]), hU j i hi, dB_succ]
  refine ⟨sys, fun i j => ?_⟩
  by_cases e : i = k
  · rw [if_pos e, tB_low (by omega), key j i (by omega), if_pos e]
  · rw [if_neg e]
    by_cases l : i < k
    · rw [tB_low (by omega), key j i (by omega), if_neg e, tB_low l, tB_low l]
    · rw [tB_high (k := k + 1) (by omega), S_congr (fun l hl => by rw [key j l hl]), S_succ, if_pos rfl,
        S_congr (g := fun l => tB A k k k / dB A k * (A l i * zB A k j l) - tB A k k j / dB A k * (A l i * zB A k k l)) (fun l hl => by rw [if_neg (by omega)]; grind), S_sub, S_mul, S_mul, dB_succ]
      have h1 := tB_high (A := A) (k := k) (i := i) (j := j) (by omega)
      have h2 := tB_high (A := A) (k := k) (i := i) (j := k) (by omega)
      have h3 : S k (fun l => A l i * zB A k j l) = dB A k * A j i - tB A k i j := by grind
      have h4 : S k (fun l => A l i * zB A k k l) = dB A k * A k i - tB A k i k := by grind
      rw [h3, h4]
      grind
theorem sys_B : ∀ {k : Nat}, (∀ m, m ≤ k → dB A m ≠ 0) → SysB A k
  | 0, _ => fun i j hi => by omega
  | k + 1, h => (step_B (sys_B fun m hm => h m (by omega)) (h k (by omega)) (h (k + 1) (Nat.le_refl _))).1
theorem tB_int (h : ∀ j i, isI (A j i)) (k i j : Nat) : isI (tB A k i j) := by
  have hz : ∀ l, isI (zB A k j l) := fun l => isI.D fun a b => by
    unfold upc
    split
    · exact h j b
    · exact h a b
  unfold tB
  split
  · exact hz i
  · exact ((isI.D h).mul (h j i)).sub (isI.S fun l hl => (h l i).mul (hz l))

/-! the signs: f's entries beside the diagonal aren't positive, its rows' sums aren't negative, from k on -/
theorem S_head (f : Nat → Rat) : ∀ m, S (m + 1) f = f 0 + S m (fun t => f (t + 1))
  | 0 => by rw [S_succ, S_zero, S_zero]; grind
  | m + 1 => by rw [S_succ, S_head f m, S_succ]; grind
structure Sg (n k : Nat) (f : Nat → Nat → Rat) : Prop where
  off : ∀ i j, k ≤ i → i < n → k ≤ j → j < n → i ≠ j → f i j ≤ 0
  sum : ∀ i, k ≤ i → i < n → 0 ≤ S (n - k) (fun t => f i (k + t))
theorem Sg.diag {n k : Nat} {f : Nat → Nat → Rat} (h : Sg n k f) (hk : k < n) : 0 ≤ f k k := by
  have z := h.sum k (Nat.le_refl _) hk
  obtain ⟨m, rfl⟩ : ∃ m, n = k + (m + 1) := ⟨n - k - 1, by omega⟩
  rw [show k + (m + 1) - k = m + 1 by omega, S_head] at z
  have z2 : S m (fun t => f k (k + (t + 1))) ≤ S m (fun _ => 0) := S_le fun t ht => h.off k (k + (t + 1)) (by omega) (by omega) (by omega) (by omega) (by omega)
  rw [S_null] at z2
  simp only [Nat.add_zero] at z
  grind
theorem Sg.step {n k : Nat} {f g : Nat → Nat → Rat} {d : Rat} (h : Sg n k f) (hk : k < n) (hd : 0 < d) (hp : 0 < f k k) (e : ∀ i j, k < i → i < n → k < j → j < n → g i j = (f k k * f i j - f i k * f k j) / d) : Sg n (k + 1) g := by
  have inv : 0 < 1 / d := by
    have := (Rat.inv_pos (a := d)).mpr hd
    grind
  have pos : ∀ x : Rat, 0 ≤ x → 0 ≤ x / d := fun x hx => by
    have : x / d = x * (1 / d) := by grind
    rw [this]
    exact Rat.mul_nonneg hx (by grind)
  refine ⟨fun i j h1 h2 h3 h4 h5 => ?_, fun i h1 h2 => ?_⟩
  · rw [e i j (by omega) h2 (by omega) h4]
    have a := h.off i j (by omega) h2 (by omega) h4 h5
    have b := h.off i k (by omega) h2 (Nat.le_refl _) hk (by omega)
    have c := h.off k j (Nat.le_refl _) hk (by omega) h4 (by omega)
    have m1 : 0 ≤ f k k * (- f i j) := Rat.mul_nonneg (by grind) (by grind)
    have m2 : 0 ≤ (- f i k) * (- f k j) := Rat.mul_nonneg (by grind) (by grind)
    have z := pos (f k k * (- f i j) + (- f i k) * (- f k j)) (by grind)
    grind
  · obtain ⟨m, rfl⟩ : ∃ m, n = k + (m + 1) := ⟨n - k - 1, by omega⟩
    rw [show k + (m + 1) - (k + 1) = m by omega]
    rw [S_congr (g := fun t => f k k / d * f i (k + (t + 1)) - f i k / d * f k (k + (t + 1))) (fun t ht => by
      rw [e i (k + 1 + t) (by omega) h2 (by omega) (by omega), show k + 1 + t = k + (t + 1) by omega]; grind), S_sub, S_mul, S_mul]
    have s1 := h.sum i (by omega) h2
    have s2 := h.sum k (Nat.le_refl _) hk
    rw [show k + (m + 1) - k = m + 1 by omega, S_head] at s1 s2
    simp only [Nat.add_zero] at s1 s2
    have b := h.off i k (by omega) h2 (Nat.le_refl _) hk (by omega)
    generalize S m (fun t => f i (k + (t + 1))) = x at *
    generalize S m (fun t => f k (k + (t + 1))) = y at *
    have m1 : 0 ≤ f k k * (f i k + x) := Rat.mul_nonneg (by grind) s1
    have m2 : 0 ≤ (- f i k) * (f k k + y) := Rat.mul_nonneg (by grind) s2
    have z := pos (f k k * (f i k + x) + (- f i k) * (f k k + y)) (by grind)
    grind
/-- what makes the leading part singular -/
def TrivK (A : Nat → Nat → Rat) (k : Nat) : Prop := ∀ x : Nat → Rat, (∀ i, i < k → S k (fun l => A l i * x l) = 0) → ∀ l, l < k → x l = 0
theorem pivot_ne {k : Nat} (h : SysB A k) (d0 : dB A k ≠ 0) (t : TrivK A (k + 1)) : tB A k k k ≠ 0 := fun z => by
  have q := t (fun l => if l = k then dB A k else - zB A k k l) (fun i hi => ?_) k (by omega)
  · rw [if_pos rfl] at q; exact d0 q
  · rw [S_succ, if_pos rfl, S_congr (g := fun l => - (A l i * zB A k k l)) (fun l hl => by rw [if_neg (by omega)]; grind), S_neg]
    by_cases e : i = k
    · subst e
      rw [tB_high (Nat.le_refl _)] at z
      grind
    · rw [h i k (by omega)]; grind
/-- all minors are positive -/
theorem minors {n : Nat} (t : ∀ k, k ≤ n → TrivK A k) (s : Sg n 0 (fun i j => A j i) ∨ Sg n 0 A) : ∀ k, k ≤ n →
    (∀ m, m ≤ k → 0 < dB A m) ∧ (Sg n k (fun i j => tB A k i j) ∨ Sg n k (fun i j => tB A k j i))
  | 0, _ => ⟨fun m hm => by
      have : m = 0 := by omega
      subst this; rw [dB_zero]; grind, by
      rcases s with s | s
      · left
        have e : (fun i j => tB A 0 i j) = fun i j => A j i := by funext i j; exact tB_zero A i j
        rw [e]; exact s
      · right
        have e : (fun i j => tB A 0 j i) = A := by funext i j; exact tB_zero A j i
        rw [e]; exact s⟩
  | k + 1, hk => by
    obtain ⟨h1, h2⟩ := minors t s k (by omega)
    have sy : SysB A k := sys_B fun m hm => by have := h1 m hm; grind
    have d0 := h1 k (Nat.le_refl _)
    have ne := pivot_ne sy (by grind) (t (k + 1) hk)
    have p : 0 < tB A k k k := by
      have : 0 ≤ tB A k k k := by
        rcases h2 with h2 | h2
        · exact h2.diag (by omega)
        · exact h2.diag (by omega)
      grind
    have d1 : dB A (k + 1) = tB A k k k := dB_succ A k
    have st := (step_B sy (by grind) (by rw [d1]; exact ne)).2
    refine ⟨fun m hm => ?_, ?_⟩
    · by_cases e : m = k + 1
      · rw [e, d1]; exact p
      · exact h1 m (by omega)
    · rcases h2 with h2 | h2
      · left
        exact h2.step (by omega) d0 p fun i j a b c d => by rw [st i j, if_neg (by omega)]
      · right
        exact h2.step (by omega) d0 p fun i j a b c d => by rw [st j i, if_neg (by omega)]; grind
end
end EC
/-! ## EcSolve -/
namespace EC

/-! the program's elimination in whole numbers -/
def elimI (row piv : List Int) (place : Nat) (prev : Int) : List Int := List.zipWith (fun a b => (piv.getD place 0 * a - row.getD place 0 * b) / prev) row piv
def gstep (rows : List (List Int)) (place : Nat) (prev : Int) : List (List Int) :=
  (List.range rows.length).map fun o => if o = place then rows.getD o [] else elimI (rows.getD o []) (rows.getD place []) place prev
def gst (eqs : List (List Int)) : Nat → List (List Int) × Int
  | 0 => (eqs, 1)
  | k + 1 => (gstep (gst eqs k).1 k (gst eqs k).2, ((gst eqs k).1.getD k []).getD k 0)
/-- the numerators and behind them the denominator -/
def solveI (eqs : List (List Int)) : List Int := (gst eqs eqs.length).1.map (fun row => row.getD eqs.length 0) ++ [(gst eqs eqs.length).2]
def bb : Nat → Nat
  | 0 => 24
  | k + 1 => 2 * bb k + 1
/-- the entry of row i in column j, as the columns' maker A has it -/
def mA (eqs : List (List Int)) (j i : Nat) : Rat := (((eqs.getD i []).getD j 0 : Int) : Rat)
structure SolOk (n : Nat) (eqs : List (List Int)) : Prop where
  len : eqs.length = n
  row : ∀ i, i < n → (eqs.getD i []).length = n + 1
  low : ∀ i j, i < n → j ≤ n → ((eqs.getD i []).getD j 0).natAbs < 2 ^ 24
  pos : ∀ k, k ≤ n → 0 < dB (mA eqs) k
theorem getD_zip {f : Int → Int → Int} {a b : List Int} {j : Nat} (ha : j < a.length) (hb : j < b.length) : (List.zipWith f a b).getD j 0 = f (a.getD j 0) (b.getD j 0) := by
  simp [List.getD_eq_getElem?_getD, List.getElem?_zipWith, ha, hb]
theorem elimI_len {row piv : List Int} {n place : Nat} {prev : Int} (h : row.length = n) (h' : piv.length = n) : (elimI row piv place prev).length = n := by
  unfold elimI; simp [h, h']
theorem gstep_len (rows : List (List Int)) (place : Nat) (prev : Int) : (gstep rows place prev).length = rows.length := by
  unfold gstep; simp
theorem gstep_get {rows : List (List Int)} {place i : Nat} {prev : Int} (h : i < rows.length) :
    (gstep rows place prev).getD i [] = if i = place then rows.getD i [] else elimI (rows.getD i []) (rows.getD place []) place prev := by
  unfold gstep
  exact getD_map_range h
theorem int_inj {a b : Int} (h : (a : Rat) = (b : Rat)) : a = b := by exact_mod_cast h
theorem exact_div {a p t : Int} (hp : p ≠ 0) (h : a = p * t) : a / p = t := by
  rw [h, Int.mul_ediv_cancel_left _ hp]
structure GOk (n : Nat) (eqs : List (List Int)) (k : Nat) : Prop where
  len : (gst eqs k).1.length = n
  row : ∀ i, i < n → ((gst eqs k).1.getD i []).length = n + 1
  val : ∀ i j, i < n → j ≤ n → ((((gst eqs k).1.getD i []).getD j 0 : Int) : Rat) = tB (mA eqs) k i j
  prev : (((gst eqs k).2 : Int) : Rat) = dB (mA eqs) k
  low : ∀ i j, i < n → j ≤ n → (((gst eqs k).1.getD i []).getD j 0).natAbs < 2 ^ bb k
  plow : (gst eqs k).2.natAbs < 2 ^ bb k
  ppos : 0 < (gst eqs k).2
theorem gOk {n : Nat} {eqs : List (List Int)} (h : SolOk n eqs) : ∀ k, k ≤ n → GOk n eqs k
  | 0, _ => ⟨h.len, h.row, fun i j hi hj => by rw [tB_zero]; rfl, by rw [dB_zero]; rfl, h.low, by show (1 : Int).natAbs < 2 ^ 24; decide, by show (0 : Int) < 1; decide⟩
  | k + 1, hk => by
    have g := gOk h k (by omega)
    have sy : SysB (mA eqs) k := sys_B fun m hm => by have := h.pos m (by omega); grind
    have d0 : 0 < dB (mA eqs) k := h.pos k (by omega)
    have d1 : 0 < dB (mA eqs) (k + 1) := h.pos (k + 1) hk
    have st := (step_B sy (by grind) (by grind)).2
    have ii : ∀ j i, isI (mA eqs j i) := fun j i => ⟨_, rfl⟩
    have np : (((gst eqs k).1.getD k []).getD k 0 : Int) = (gst eqs (k + 1)).2 := rfl
    have pv : (((gst eqs (k + 1)).2 : Int) : Rat) = dB (mA eqs) (k + 1) := by
      rw [← np, g.val k k (by omega) (by omega), dB_succ]
    have gg : ∀ i, i < n → (gst eqs (k + 1)).1.getD i [] = if i = k then (gst eqs k).1.getD i [] else elimI ((gst eqs k).1.getD i []) ((gst eqs k).1.getD k []) k (gst eqs k).2 := fun i hi => gstep_get (by rw [g.len]; exact hi)
    have p0 : (gst eqs k).2 ≠ 0 := by have := g.ppos; omega
    -- an entry that is reckoned
    have ex : ∀ i j, i < n → j ≤ n → i ≠ k → ∃ t : Int, ((gst eqs (k + 1)).1.getD i []).getD j 0 = t ∧ (t : Rat) = tB (mA eqs) (k + 1) i j ∧
        ((gst eqs k).1.getD k []).getD k 0 * ((gst eqs k).1.getD i []).getD j 0 - ((gst eqs k).1.getD i []).getD k 0 * ((gst eqs k).1.getD k []).getD j 0 = (gst eqs k).2 * t := fun i j hi hj hik => by
      obtain ⟨t, ht⟩ := tB_int ii (k + 1) i j
      have e : ((gst eqs k).1.getD k []).getD k 0 * ((gst eqs k).1.getD i []).getD j 0 - ((gst eqs k).1.getD i []).getD k 0 * ((gst eqs k).1.getD k []).getD j 0 = (gst eqs k).2 * t := by
        apply int_inj
        push_cast
        rw [g.val k k (by omega) (by omega), g.val i j hi hj, g.val i k hi (by omega), g.val k j (by omega) hj, g.prev, ← ht, st i j, if_neg hik]
        grind
      refine ⟨t, ?_, ht.symm, e⟩
      rw [gg i hi, if_neg hik]
      unfold elimI
      rw [getD_zip (by rw [g.row i hi]; omega) (by rw [g.row k (by omega)]; omega)]
      exact exact_div p0 e
    have mono : (2 : Nat) ^ bb k ≤ 2 ^ bb (k + 1) := Nat.pow_le_pow_right (by decide) (by show bb k ≤ 2 * bb k + 1; omega)
    refine ⟨by show (gstep _ _ _).length = n; rw [gstep_len, g.len], fun i hi => ?_, fun i j hi hj => ?_, pv, fun i j hi hj => ?_, ?_, ?_⟩
    · rw [gg i hi]
      split
      · exact g.row i hi
      · exact elimI_len (g.row i hi) (g.row k (by omega))
    · by_cases e : i = k
      · rw [gg i hi, if_pos e, g.val i j hi hj, st i j, if_pos e, e]
      · obtain ⟨t, e1, e2, _⟩ := ex i j hi hj e
        rw [e1, e2]
    · by_cases e : i = k
      · rw [gg i hi, if_pos e]
        exact Nat.lt_of_lt_of_le (g.low i j hi hj) mono
      · obtain ⟨t, e1, _, e3⟩ := ex i j hi hj e
        rw [e1]
        have b1 := g.low k k (by omega) (by omega)
        have b2 := g.low i j hi hj
        have b3 := g.low i k hi (by omega)
        have b4 := g.low k j (by omega) hj
        generalize ((gst eqs k).1.getD k []).getD k 0 = x1 at *
        generalize ((gst eqs k).1.getD i []).getD j 0 = x2 at *
        generalize ((gst eqs k).1.getD i []).getD k 0 = x3 at *
        generalize ((gst eqs k).1.getD k []).getD j 0 = x4 at *
        have h1 : t.natAbs ≤ ((gst eqs k).2 * t).natAbs := by
          rw [Int.natAbs_mul]
          exact Nat.le_mul_of_pos_left _ (by omega)
        have h2 : ((gst eqs k).2 * t).natAbs ≤ x1.natAbs * x2.natAbs + x3.natAbs * x4.natAbs := by
          rw [← e3, ← Int.natAbs_mul, ← Int.natAbs_mul]
          omega
        have h3 : x1.natAbs * x2.natAbs < 2 ^ bb k * 2 ^ bb k := Nat.mul_lt_mul_of_lt_of_le b1 (Nat.le_of_lt b2) (Nat.two_pow_pos _)
        have h4 : x3.natAbs * x4.natAbs < 2 ^ bb k * 2 ^ bb k := Nat.mul_lt_mul_of_lt_of_le b3 (Nat.le_of_lt b4) (Nat.two_pow_pos _)
        have h5 : (2 : Nat) ^ bb (k + 1) = 2 * (2 ^ bb k * 2 ^ bb k) := by
          show 2 ^ (2 * bb k + 1) = _
          rw [Nat.pow_succ, Nat.two_mul, Nat.pow_add]; omega
        omega
    · exact Nat.lt_of_lt_of_le (g.low k k (by omega) (by omega)) mono
    · have z : (0 : Rat) < (((gst eqs (k + 1)).2 : Int) : Rat) := by rw [pv]; exact d1
      exact_mod_cast z
theorem bb_mono : ∀ {k m : Nat}, k ≤ m → bb k ≤ bb m
  | k, 0, h => by have : k = 0 := by omega
                  subst this; exact Nat.le_refl _
  | k, m + 1, h => by
    by_cases e : k = m + 1
    · subst e; exact Nat.le_refl _
    · have := bb_mono (k := k) (m := m) (by omega)
      show bb k ≤ 2 * bb m + 1
      omega
theorem bb7 : bb 7 = 3199 := by decide
/-- what solveI gives -/
structure Solved (n : Nat) (eqs : List (List Int)) (num : Nat → Int) (den : Nat) : Prop where
  pos : 0 < den
  eq : ∀ i, i < n → S n (fun l => mA eqs l i * (num l : Rat)) = (den : Rat) * mA eqs n i
  is : solveI eqs = (List.range n).map num ++ [(den : Int)]
  low : ∀ l, l < n → (num l).natAbs < 2 ^ bb n
  dlow : den < 2 ^ bb n
def numI (eqs : List (List Int)) (l : Nat) : Int := ((gst eqs eqs.length).1.getD l []).getD eqs.length 0
def denI (eqs : List (List Int)) : Nat := (gst eqs eqs.length).2.toNat
theorem solveI_ok {n : Nat} {eqs : List (List Int)} (h : SolOk n eqs) : Solved n eqs (numI eqs) (denI eqs) := by
  have g := gOk h n (Nat.le_refl _)
  have sy : SysB (mA eqs) n := sys_B fun m hm => by have := h.pos m hm; grind
  have dn : (((gst eqs n).2.toNat : Nat) : Int) = (gst eqs n).2 := Int.toNat_of_nonneg (by have := g.ppos; omega)
  have dr : (((gst eqs n).2.toNat : Nat) : Rat) = dB (mA eqs) n := by
    rw [← g.prev, ← Rat.intCast_natCast, dn]
  unfold numI denI
  rw [h.len]
  refine ⟨by have := g.ppos; omega, fun i hi => ?_, ?_, fun l hl => g.low l n hl (Nat.le_refl _), by have := g.plow; omega⟩
  · rw [S_congr (g := fun l => mA eqs l i * zB (mA eqs) n n l) (fun l hl => by rw [g.val l n hl (Nat.le_refl _), tB_low hl]), sy i n hi, dr]
  · unfold solveI
    rw [h.len, dn]
    congr 1
    apply List.ext_getElem
    · simp [g.len]
    · intro i h1 h2
      simp at h1
      simp [List.getD_eq_getElem?_getD, h1]
end EC
/-! ## EcChain -/
namespace EC
open Lrx1

structure COk (c : Chain) : Prop where
  pos : 0 < size c
  le : size c ≤ 8
  row : ∀ i, i < size c → (c.weights.getD i []).length = size c
  low : ∀ i j, weight c i j ≤ 1000000
  diag : c.isContinuous = true → ∀ i, weight c i i = 0

/-! sums over lists -/
theorem foldl_sum {α : Type} (f : α → Nat) : ∀ (l : List α) (a : Nat), l.foldl (fun (s : Nat) (j : α) => s + f j) a = a + (l.map f).sum
  | [], a => by simp
  | x :: l, a => by
    rw [List.foldl_cons, foldl_sum f l, List.map_cons, List.sum_cons]; omega
theorem sum_filter_zero {α : Type} (f : α → Nat) (p : α → Bool) : ∀ (l : List α), (∀ x, x ∈ l → p x = false → f x = 0) → ((l.filter p).map f).sum = (l.map f).sum
  | [], _ => rfl
  | x :: l, h => by
    have ih := sum_filter_zero f p l fun y hy => h y (List.mem_cons_of_mem _ hy)
    cases e : p x with
    | true => rw [List.filter_cons_of_pos e, List.map_cons, List.map_cons, List.sum_cons, List.sum_cons, ih]
    | false => rw [List.filter_cons_of_neg (by rw [e]; decide), List.map_cons, List.sum_cons, ih, h x (List.mem_cons_self ..) e]; omega
theorem sum_S (f : Nat → Nat) : ∀ n, ((((List.range n).map f).sum : Nat) : Rat) = S n (fun j => (f j : Rat))
  | 0 => rfl
  | n + 1 => by
    rw [List.range_succ, List.map_append, List.sum_append, S_succ, ← sum_S f n]
    simp
theorem map_getD_range {α : Type} (d : α) : ∀ (l : List α) (n : Nat), l.length = n → (List.range n).map (fun j => l.getD j d) = l := fun l n h => by
  apply List.ext_getElem
  · simp [h]
  · intro i h1 h2
    simp [List.getD_eq_getElem?_getD, h2]

def wR (c : Chain) (i j : Nat) : Rat := (weight c i j : Rat)
def sR (c : Chain) (i : Nat) : Rat := (rowSum c i : Rat)
theorem wR_nonneg (c : Chain) (i j : Nat) : 0 ≤ wR c i j := by
  unfold wR
  have h1 : (0 : Int) ≤ ((weight c i j : Nat) : Int) := by omega
  have h2 := Rat.intCast_le_intCast.mpr h1
  rw [Rat.intCast_natCast] at h2
  exact h2
section
variable {c : Chain} (ok : COk c)
theorem rowSum_eq (h : c.isContinuous = true → ∀ i, weight c i i = 0) (i : Nat) : rowSum c i = ((List.range (size c)).map (weight c i)).sum := by
  unfold rowSum states
  rw [foldl_sum, Nat.zero_add]
  refine sum_filter_zero _ _ _ fun j hj hp => ?_
  simp at hp
  rw [hp.2]
  exact h hp.1 i
theorem rowSum_row (ok : COk c) {i : Nat} (hi : i < size c) : rowSum c i = (c.weights.getD i []).sum := by
  rw [rowSum_eq ok.diag]
  congr 1
  exact map_getD_range 0 _ _ (ok.row i hi)
theorem sR_eq (ok : COk c) (i : Nat) : sR c i = S (size c) (wR c i) := by
  unfold sR
  rw [rowSum_eq ok.diag, sum_S]
  rfl
theorem sum_le_mul (f : Nat → Nat) (m : Nat) (h : ∀ j, f j ≤ m) : ∀ n, ((List.range n).map f).sum ≤ n * m
  | 0 => by simp
  | n + 1 => by
    have := sum_le_mul f m h n
    have := h n
    rw [List.range_succ, List.map_append, List.sum_append]
    simp [Nat.succ_mul]; omega
theorem rowSum_low (ok : COk c) (i : Nat) : rowSum c i ≤ 8000000 := by
  rw [rowSum_eq ok.diag]
  have h1 := sum_le_mul (weight c i) 1000000 (ok.low i) (size c)
  have h2 := ok.le
  have : size c * 1000000 ≤ 8 * 1000000 := Nat.mul_le_mul_right _ h2
  omega
theorem weight_out {i j : Nat} (h : size c ≤ i) : weight c i j = 0 := by
  unfold weight
  unfold size at h
  simp [List.getD_eq_getElem?_getD, h]
theorem weight_out2 (ok : COk c) {i j : Nat} (hi : i < size c) (h : size c ≤ j) : weight c i j = 0 := by
  unfold weight
  have := ok.row i hi
  rw [List.getD_eq_getElem?_getD (l := List.getD _ _ _), List.getElem?_eq_none (by omega)]
  rfl
end

/-! reachability: RF c i k j: j is reached from i in at most k steps -/
def RF (c : Chain) (i k j : Nat) : Prop := j ∈ reachFrom c k [i]
def exF (c : Chain) (found : List Nat) : List Nat := (states c).filter fun j => found.contains j || found.any fun i => decide (0 < weight c i j) && j != i
theorem reachFrom_succ (c : Chain) : ∀ (k : Nat) (f : List Nat), reachFrom c (k + 1) f = exF c (reachFrom c k f)
  | 0, f => rfl
  | k + 1, f => reachFrom_succ c k (exF c f)
theorem RF_zero {c : Chain} {i j : Nat} : RF c i 0 j ↔ j = i := by
  unfold RF reachFrom; simp
theorem RF_succ {c : Chain} {i k j : Nat} : RF c i (k + 1) j ↔ j < size c ∧ (RF c i k j ∨ ∃ m, RF c i k m ∧ 0 < weight c m j ∧ j ≠ m) := by
  unfold RF
  rw [reachFrom_succ]
  unfold exF states
  simp only [List.mem_filter, List.mem_range, Bool.or_eq_true, List.contains_iff_mem, List.any_eq_true, Bool.and_eq_true, decide_eq_true_eq, bne_iff_ne]
theorem RF_lt {c : Chain} {i : Nat} (hi : i < size c) : ∀ {k j : Nat}, RF c i k j → j < size c
  | 0, j, h => by rw [RF_zero.mp h]; exact hi
  | k + 1, j, h => (RF_succ.mp h).1
theorem RF_mono {c : Chain} {i : Nat} (hi : i < size c) {k j : Nat} (h : RF c i k j) : RF c i (k + 1) j := RF_succ.mpr ⟨RF_lt hi h, .inl h⟩
theorem RF_le {c : Chain} {i : Nat} (hi : i < size c) {k j : Nat} (h : RF c i k j) : ∀ {l : Nat}, k ≤ l → RF c i l j
  | 0, hl => by
    have : k = 0 := by omega
    subst this; exact h
  | l + 1, hl => by
    by_cases e : k = l + 1
    · subst e; exact h
    · exact RF_mono hi (RF_le hi h (by omega))
/-- what is closed under steps holds of all that is reached -/
theorem RF_closed {c : Chain} {i : Nat} {P : Nat → Prop} (h0 : P i) (hs : ∀ m j, P m → j < size c → 0 < weight c m j → P j) : ∀ {k j : Nat}, RF c i k j → P j
  | 0, j, h => by rw [RF_zero.mp h]; exact h0
  | k + 1, j, h => by
    obtain ⟨hl, h | ⟨m, hm, hw, _⟩⟩ := RF_succ.mp h
    · exact RF_closed h0 hs h
    · exact hs m j (RF_closed h0 hs hm) hl hw
theorem RF_trans {c : Chain} {i m : Nat} (hi : i < size c) (hm : m < size c) {k : Nat} (h : RF c i k m) : ∀ {l j : Nat}, RF c m l j → RF c i (k + l) j
  | 0, j, g => by rw [RF_zero.mp g]; exact h
  | l + 1, j, g => by
    obtain ⟨hl, g | ⟨x, gx, hw, ne⟩⟩ := RF_succ.mp g
    · exact RF_mono hi (RF_trans hi hm h g)
    · exact RF_succ.mpr ⟨hl, .inr ⟨x, RF_trans hi hm h gx, hw, ne⟩⟩

/-! the search by breadth -/
abbrev BS : Type := List (Option Nat) × List Nat
def dv (st : BS) (x : Nat) : Nat := (st.1.getD x none).getD 0
def bIn (row : List Nat) (s : Nat) (st : BS) (o : Nat) : BS := if 0 < row.getD o 0 ∧ st.1.getD o none = none then (st.1.set o (some (dv st s + 1)), st.2 ++ [o]) else st
def bStep (rows : List (List Nat)) (st : BS) (place : Nat) : BS := (List.range (rows.getD (st.2.getD place 0) []).length).foldl (bIn (rows.getD (st.2.getD place 0) []) (st.2.getD place 0)) st
def bAt (rows : List (List Nat)) (start : Nat) : Nat → BS
  | 0 => ((List.replicate rows.length none).set start (some 0), [start])
  | k + 1 => bStep rows (bAt rows start k) k
/-- up to place p, and of the state at p the others below o -/
structure BI (c : Chain) (start p o : Nat) (st : BS) : Prop where
  len : st.1.length = size c
  lt : ∀ x ∈ st.2, x < size c
  nd : st.2.Nodup
  mem : ∀ x, x < size c → (st.1.getD x none = none ↔ x ∉ st.2)
  st0 : st.1.getD start none = some 0
  ix : ∀ a x, st.2[a]? = some x → dv st x ≤ a
  sound : ∀ x, x ∈ st.2 → RF c start (dv st x) x
  sorted : ∀ (a b x y : Nat), a ≤ b → st.2[a]? = some x → st.2[b]? = some y → dv st x ≤ dv st y
  near : ∀ (s y : Nat), st.2[p]? = some s → y ∈ st.2 → dv st y ≤ dv st s + 1
  done : ∀ (a x y : Nat), a < p → st.2[a]? = some x → y < size c → 0 < weight c x y → y ∈ st.2 ∧ dv st y ≤ dv st x + 1
  part : ∀ (s y : Nat), st.2[p]? = some s → y < o → y < size c → 0 < weight c s y → y ∈ st.2 ∧ dv st y ≤ dv st s + 1
theorem nodup_le : ∀ (n : Nat) (l : List Nat), l.Nodup → (∀ x ∈ l, x < n) → l.length ≤ n
  | 0, l, _, h => by
    cases l with
    | nil => simp
    | cons x r => exact absurd (h x (List.mem_cons_self ..)) (by omega)
  | n + 1, l, hn, h => by
    have h1 := nodup_le n (l.filter (· != n)) (hn.sublist List.filter_sublist) (fun x hx => by
      obtain ⟨h2, h3⟩ := List.mem_filter.mp hx
      have := h x h2
      simp at h3; omega)
    have h2 : l.length = (l.filter (· != n)).length + (l.filter (· == n)).length := by
      have := List.length_eq_countP_add_countP (p := fun x => x != n) (l := l)
      rw [List.countP_eq_length_filter, List.countP_eq_length_filter] at this
      rw [this]
      congr 2
      apply List.filter_congr
      intro x _
      by_cases e : x = n
      · subst e; simp
      · simp [e]
    have h3 : (l.filter (· == n)).length ≤ 1 := by
      rw [← List.countP_eq_length_filter]
      exact List.nodup_iff_count.mp hn n
    omega
theorem BI.size_le {c : Chain} {start p o : Nat} {st : BS} (h : BI c start p o st) : st.2.length ≤ size c := nodup_le _ _ h.nd h.lt
theorem bi_start {c : Chain} {start : Nat} (hs : start < size c) : BI c start 0 0 (bAt c.weights start 0) := by
  have l : c.weights.length = size c := rfl
  have g : ∀ x, x < size c → ((List.replicate c.weights.length (none : Option Nat)).set start (some 0)).getD x none = if x = start then some 0 else none := fun x hx => by
    rw [List.getD_eq_getElem?_getD, List.getElem?_set]
    by_cases e : start = x
    · subst e; simp [l, hs]
    · rw [if_neg e, if_neg (fun z => e z.symm)]
      simp [l, hx]
  refine ⟨by simp [bAt, l], fun x hx => ?_, by simp [bAt], fun x hx => ?_, ?_, fun a x h => ?_, fun x hx => ?_, fun a b x y _ h1 h2 => ?_, fun s y h1 h2 => ?_, fun a x y h => by omega, fun s y _ h => by omega⟩
  · simp [bAt] at hx; omega
  · show ((List.replicate c.weights.length (none : Option Nat)).set start (some 0)).getD x none = none ↔ x ∉ [start]
    rw [g x hx]
    by_cases e : x = start
    · simp [e]
    · simp [e]
  · show ((List.replicate c.weights.length (none : Option Nat)).set start (some 0)).getD start none = some 0
    rw [g start hs, if_pos rfl]
  · have e : x = start := by
      cases a with
      | zero => simp [bAt] at h; exact h.symm
      | succ a => simp [bAt] at h
    subst e
    show (((List.replicate c.weights.length (none : Option Nat)).set x (some 0)).getD x none).getD 0 ≤ a
    rw [g x hs, if_pos rfl]; exact Nat.zero_le _
  · have e : x = start := by simp [bAt] at hx; exact hx
    subst e
    have z : dv (bAt c.weights x 0) x = 0 := by
      show (((List.replicate c.weights.length (none : Option Nat)).set x (some 0)).getD x none).getD 0 = 0
      rw [g x hs, if_pos rfl]; rfl
    rw [z]
    exact RF_zero.mpr rfl
  · have e1 : x = start := by
      cases a with
      | zero => simp [bAt] at h1; exact h1.symm
      | succ a => simp [bAt] at h1
    have e2 : y = start := by
      cases b with
      | zero => simp [bAt] at h2; exact h2.symm
      | succ a => simp [bAt] at h2
    rw [e1, e2]; exact Nat.le_refl _
  · have e1 : s = start := by simp [bAt] at h1; exact h1.symm
    have e2 : y = start := by simp [bAt] at h2; exact h2
    rw [e1, e2]; omega
theorem getD_set {α : Type} {l : List α} {i j : Nat} {v d : α} (h : i < l.length) : (l.set i v).getD j d = if j = i then v else l.getD j d := by
  rw [List.getD_eq_getElem?_getD, List.getElem?_set]
  by_cases e : i = j
  · subst e; simp [h]
  · rw [if_neg e, if_neg (fun z => e z.symm), List.getD_eq_getElem?_getD]
theorem bi_in {c : Chain} (ok : COk c) {start p o s : Nat} {st : BS} (h : BI c start p o st) (hp : st.2[p]? = some s) (ho : o < size c) :
    BI c start p (o + 1) (bIn (c.weights.getD s []) s st o) ∧ (bIn (c.weights.getD s []) s st o).2[p]? = some s := by
  have sm : s ∈ st.2 := List.mem_of_getElem? hp
  have sl : s < size c := h.lt s sm
  have ge : (c.weights.getD s []).getD o 0 = weight c s o := rfl
  unfold bIn
  rw [ge]
  by_cases cd : 0 < weight c s o ∧ st.1.getD o none = none
  · rw [if_pos cd]
    obtain ⟨hw, hn⟩ := cd
    have om : o ∉ st.2 := (h.mem o ho).mp hn
    have os : o ≠ s := fun e => om (e ▸ sm)
    have pl : p < st.2.length := by
      have := List.getElem?_eq_some_iff.mp hp
      exact this.1
    have gd : ∀ x, (st.1.set o (some (dv st s + 1))).getD x none = if x = o then some (dv st s + 1) else st.1.getD x none := fun x => getD_set (by rw [h.len]; exact ho)
    have vd : ∀ x, dv (st.1.set o (some (dv st s + 1)), st.2 ++ [o]) x = if x = o then dv st s + 1 else dv st x := fun x => by
      unfold dv
      show ((st.1.set o (some (dv st s + 1))).getD x none).getD 0 = _
      rw [gd x]
      split
      · rfl
      · rfl
    have ol : ∀ x, x ∈ st.2 → x ≠ o := fun x hx e => om (e ▸ hx)
    have at_ : ∀ a x, (st.2 ++ [o])[a]? = some x → (st.2[a]? = some x ∧ x ≠ o) ∨ (a = st.2.length ∧ x = o) := fun a x q => by
      by_cases e : a < st.2.length
      · rw [List.getElem?_append_left e] at q
        exact .inl ⟨q, ol x (List.mem_of_getElem? q)⟩
      · rw [List.getElem?_append_right (by omega)] at q
        cases q2 : a - st.2.length with
        | zero => rw [q2] at q; simp at q; exact .inr ⟨by omega, q.symm⟩
        | succ k => rw [q2] at q; simp at q
    have hp' : (st.2 ++ [o])[p]? = some s := by rw [List.getElem?_append_left pl]; exact hp
    refine ⟨⟨by simp [h.len], fun x hx => ?_, ?_, fun x hx => ?_, ?_, fun a x q => ?_, fun x hx => ?_, fun a b x y hab q1 q2 => ?_, fun s' y q1 q2 => ?_, fun a x y q1 q2 q3 q4 => ?_, fun s' y q1 q2 q3 q4 => ?_⟩, hp'⟩
    · rcases List.mem_append.mp hx with z | z
      · exact h.lt x z
      · simp at z; omega
    · rw [List.nodup_append]
      refine ⟨h.nd, by simp, fun a ha b hb => ?_⟩
      simp at hb
      rw [hb]; exact ol a ha
    · show (st.1.set o _).getD x none = none ↔ x ∉ st.2 ++ [o]
      rw [gd x]
      by_cases e : x = o
      · simp [e]
      · rw [if_neg e, h.mem x hx]; simp [e]
    · show (st.1.set o _).getD start none = some 0
      rw [gd start]
      split
      · rename_i e
        rw [← e, h.st0] at hn; cases hn
      · exact h.st0
    · rw [vd]
      rcases at_ a x q with ⟨z, ne⟩ | ⟨z, e⟩
      · rw [if_neg ne]; exact h.ix a x z
      · rw [if_pos e]
        have := h.ix p s hp
        omega
    · rw [vd]
      rcases List.mem_append.mp hx with z | z
      · rw [if_neg (ol x z)]; exact h.sound x z
      · simp at z
        rw [if_pos z, z]
        exact RF_succ.mpr ⟨ho, .inr ⟨s, h.sound s sm, hw, os⟩⟩
    · rw [vd, vd]
      rcases at_ a x q1 with ⟨z1, n1⟩ | ⟨z1, e1⟩
      · rcases at_ b y q2 with ⟨z2, n2⟩ | ⟨z2, e2⟩
        · rw [if_neg n1, if_neg n2]; exact h.sorted a b x y hab z1 z2
        · rw [if_neg n1, if_pos e2]; exact h.near s x hp (List.mem_of_getElem? z1)
      · rcases at_ b y q2 with ⟨z2, n2⟩ | ⟨z2, e2⟩
        · have := (List.getElem?_eq_some_iff.mp z2).1
          omega
        · rw [if_pos e1, if_pos e2]; exact Nat.le_refl _
    · have es : s' = s := by rw [hp'] at q1; exact (Option.some.inj q1).symm
      subst es
      rw [vd, vd, if_neg os.symm]
      rcases List.mem_append.mp q2 with z | z
      · rw [if_neg (ol y z)]; exact h.near s' y hp z
      · simp at z; rw [if_pos z]; exact Nat.le_refl _
    · rw [vd, vd]
      rcases at_ a x q2 with ⟨z2, n2⟩ | ⟨z2, e2⟩
      · obtain ⟨d1, d2⟩ := h.done a x y q1 z2 q3 q4
        rw [if_neg (ol y d1), if_neg n2]
        exact ⟨List.mem_append_left _ d1, d2⟩
      · omega
    · have es : s' = s := by rw [hp'] at q1; exact (Option.some.inj q1).symm
      subst es
      rw [vd, vd, if_neg os.symm]
      by_cases e : y = o
      · rw [if_pos e, e]
        exact ⟨List.mem_append_right _ (by simp), Nat.le_refl _⟩
      · obtain ⟨d1, d2⟩ := h.part s' y hp (by omega) q3 q4
        rw [if_neg e]
        exact ⟨List.mem_append_left _ d1, d2⟩
  · rw [if_neg cd]
    refine ⟨⟨h.len, h.lt, h.nd, h.mem, h.st0, h.ix, h.sound, h.sorted, h.near, h.done, fun s' y q1 q2 q3 q4 => ?_⟩, hp⟩
    have es : s' = s := by rw [hp] at q1; exact (Option.some.inj q1).symm
    subst es
    by_cases e : y = o
    · subst e
      have ym : y ∈ st.2 := Classical.byContradiction fun z => cd ⟨q4, (h.mem y ho).mpr z⟩
      exact ⟨ym, h.near s' y hp ym⟩
    · exact h.part s' y hp (by omega) q3 q4
theorem bi_fold {c : Chain} (ok : COk c) {start p s : Nat} {st : BS} (h : BI c start p 0 st) (hp : st.2[p]? = some s) : ∀ o, o ≤ size c →
    BI c start p o ((List.range o).foldl (bIn (c.weights.getD s []) s) st) ∧ ((List.range o).foldl (bIn (c.weights.getD s []) s) st).2[p]? = some s
  | 0, _ => ⟨h, hp⟩
  | o + 1, ho => by
    obtain ⟨h1, h2⟩ := bi_fold ok h hp o (by omega)
    rw [List.range_succ, List.foldl_append]
    exact bi_in ok h1 h2 (by omega)
theorem bi_turn {c : Chain} {start p : Nat} {st : BS} (h : BI c start p (size c) st) (hp : p < st.2.length) : BI c start (p + 1) 0 st := by
  obtain ⟨s, hs⟩ : ∃ s, st.2[p]? = some s := ⟨_, List.getElem?_eq_getElem hp⟩
  refine ⟨h.len, h.lt, h.nd, h.mem, h.st0, h.ix, h.sound, h.sorted, fun s' y q1 q2 => ?_, fun a x y q1 q2 q3 q4 => ?_, fun _ _ _ q => by omega⟩
  · have d1 := h.near s y hs q2
    have d2 := h.sorted p (p + 1) s s' (by omega) hs q1
    omega
  · by_cases e : a = p
    · rw [e, hs] at q2
      have e2 := Option.some.inj q2
      subst e2
      exact h.part s y hs q3 q3 q4
    · exact h.done a x y (by omega) q2 q3 q4
theorem bi_step {c : Chain} (ok : COk c) {start p : Nat} {st : BS} (h : BI c start p 0 st) (hp : p < st.2.length) : BI c start (p + 1) 0 (bStep c.weights st p) := by
  obtain ⟨s, hs⟩ : ∃ s, st.2[p]? = some s := ⟨_, List.getElem?_eq_getElem hp⟩
  have e : st.2.getD p 0 = s := by rw [List.getD_eq_getElem?_getD, hs]; rfl
  have sl : s < size c := h.lt s (List.mem_of_getElem? hs)
  unfold bStep
  rw [e, ok.row s sl]
  obtain ⟨h1, h2⟩ := bi_fold ok h hs (size c) (Nat.le_refl _)
  exact bi_turn h1 (List.getElem?_eq_some_iff.mp h2).1
/-- the state at place p, as long as there was something to do -/
def bGo (c : Chain) (start p : Nat) : Prop := ∀ q, q < p → q < (bAt c.weights start q).2.length
theorem bi_at {c : Chain} (ok : COk c) {start : Nat} (hs : start < size c) : ∀ p, bGo c start p → BI c start p 0 (bAt c.weights start p)
  | 0, _ => bi_start hs
  | p + 1, g => bi_step ok (bi_at ok hs p fun q hq => g q (by omega)) (g p (by omega))
theorem bi_complete {c : Chain} {start p : Nat} {st : BS} (h : BI c start p 0 st) (hs : start < size c) (hp : st.2.length ≤ p) : ∀ k j, RF c start k j → j ∈ st.2 ∧ dv st j ≤ k
  | 0, j, r => by
    rw [RF_zero.mp r]
    refine ⟨Classical.byContradiction fun z => ?_, ?_⟩
    · have := (h.mem start hs).mpr z
      rw [h.st0] at this; cases this
    · unfold dv; rw [h.st0]; exact Nat.le_refl _
  | k + 1, j, r => by
    obtain ⟨hl, r | ⟨m, hm, hw, _⟩⟩ := RF_succ.mp r
    · obtain ⟨h1, h2⟩ := bi_complete h hs hp k j r
      exact ⟨h1, by omega⟩
    · obtain ⟨h1, h2⟩ := bi_complete h hs hp k m hm
      obtain ⟨a, ha, e⟩ := List.mem_iff_getElem.mp h1
      have ga : st.2[a]? = some m := by rw [List.getElem?_eq_getElem ha, e]
      obtain ⟨d1, d2⟩ := h.done a m j (by omega) ga hl hw
      exact ⟨d1, by omega⟩
theorem find_least {p : Nat → Bool} {n d : Nat} (hd : d < n) (hp : p d = true) (hl : ∀ k, p k = true → d ≤ k) : (List.range n).find? p = some d := by
  cases e : (List.range n).find? p with
  | none =>
    have := find_none e hd
    rw [hp] at this; cases this
  | some k =>
    obtain ⟨h1, h2⟩ := find_range e
    have h3 := hl k h2
    have h4 := List.find?_range_eq_some.mp e
    by_cases q : k = d
    · rw [q]
    · have h5 := h4.2.2 d (by omega)
      rw [hp] at h5; simp at h5
theorem contains_RF {c : Chain} {i k j : Nat} : (reachFrom c k [i]).contains j = true ↔ RF c i k j := by
  unfold RF
  rw [List.contains_iff_mem]
theorem mem_some {c : Chain} {start p o : Nat} {st : BS} (h : BI c start p o st) {j : Nat} (hj : j < size c) (hm : j ∈ st.2) : st.1.getD j none = some (dv st j) := by
  cases e : st.1.getD j none with
  | none => exact absurd hm ((h.mem j hj).mp e)
  | some d => unfold dv; rw [e]; rfl
/-- when nothing is left, the distances are the specification's -/
theorem bi_dist {c : Chain} {start p : Nat} {st : BS} (h : BI c start p 0 st) (hs : start < size c) (hp : st.2.length ≤ p) {j : Nat} (hj : j < size c) : st.1.getD j none = distance c start j := by
  unfold distance
  by_cases hm : j ∈ st.2
  · have e := mem_some h hj hm
    obtain ⟨a, ha, e2⟩ := List.mem_iff_getElem.mp hm
    have ga : st.2[a]? = some j := by rw [List.getElem?_eq_getElem ha, e2]
    have h1 := h.ix a j ga
    have h2 := h.size_le
    have f := find_least (p := fun steps => (reachFrom c steps [start]).contains j) (n := size c + 1) (d := dv st j) (by omega) (contains_RF.mpr (h.sound j hm)) fun k hk => (bi_complete h hs hp k j (contains_RF.mp hk)).2
    rw [e, f]
  · rw [(h.mem j hj).mpr hm]
    symm
    rw [List.find?_eq_none]
    intro k _ hk
    exact hm (bi_complete h hs hp k j (contains_RF.mp hk)).1
/-- the search ends within as many turns as there are states -/
theorem b_ends {c : Chain} (ok : COk c) {start : Nat} (hs : start < size c) : ∃ p, p ≤ size c ∧ bGo c start p ∧ (bAt c.weights start p).2.length ≤ p := by
  refine Classical.byContradiction fun z => ?_
  have all : ∀ p, p ≤ size c + 1 → bGo c start p := fun p => by
    induction p with
    | zero => exact fun _ q hq => by omega
    | succ p ih =>
      intro hp q hq
      have g := ih (by omega)
      by_cases e : q = p
      · subst e
        refine Classical.byContradiction fun y => z ⟨q, by omega, g, by omega⟩
      · exact g q (by omega)
  have g := all (size c + 1) (Nat.le_refl _)
  have h1 := g (size c) (by omega)
  have h2 := (bi_at ok hs (size c) fun q hq => g q (by omega)).size_le
  omega
theorem reaches_iff {c : Chain} (ok : COk c) {i j : Nat} (hi : i < size c) (hj : j < size c) : reaches c i j = true ↔ ∃ k, RF c i k j := by
  unfold reaches reachable
  rw [contains_RF]
  constructor
  · exact fun h => ⟨_, h⟩
  · rintro ⟨k, h⟩
    obtain ⟨p, hp, g, hl⟩ := b_ends ok hi
    have b := bi_at ok hi p g
    obtain ⟨h1, _⟩ := bi_complete b hi hl k j h
    obtain ⟨a, ha, e2⟩ := List.mem_iff_getElem.mp h1
    have ga : (bAt c.weights i p).2[a]? = some j := by rw [List.getElem?_eq_getElem ha, e2]
    have h2 := b.ix a j ga
    exact RF_le hi (b.sound j h1) (by omega)
theorem distance_some {c : Chain} (ok : COk c) {i j : Nat} (hi : i < size c) (hj : j < size c) : (∃ d, distance c i j = some d) ↔ reaches c i j = true := by
  obtain ⟨p, hp, g, hl⟩ := b_ends ok hi
  have b := bi_at ok hi p g
  rw [← bi_dist b hi hl hj, reaches_iff ok hi hj]
  constructor
  · rintro ⟨d, hd⟩
    have hm : j ∈ (bAt c.weights i p).2 := Classical.byContradiction fun z => by
      rw [(b.mem j hj).mpr z] at hd; cases hd
    exact ⟨_, b.sound j hm⟩
  · rintro ⟨k, hk⟩
    exact ⟨_, mem_some b hj (bi_complete b hi hl k j hk).1⟩
theorem reaches_refl {c : Chain} (ok : COk c) {i : Nat} (hi : i < size c) : reaches c i i = true := (reaches_iff ok hi hi).mpr ⟨0, RF_zero.mpr rfl⟩
theorem reaches_trans {c : Chain} (ok : COk c) {i j k : Nat} (hi : i < size c) (hj : j < size c) (hk : k < size c) (a : reaches c i j = true) (b : reaches c j k = true) : reaches c i k = true := by
  obtain ⟨x, hx⟩ := (reaches_iff ok hi hj).mp a
  obtain ⟨y, hy⟩ := (reaches_iff ok hj hk).mp b
  exact (reaches_iff ok hi hk).mpr ⟨_, RF_trans hi hj hx hy⟩
theorem reaches_step {c : Chain} (ok : COk c) {i j : Nat} (hi : i < size c) (hj : j < size c) (hw : 0 < weight c i j) : reaches c i j = true := by
  refine (reaches_iff ok hi hj).mpr ⟨1, RF_succ.mpr ⟨hj, ?_⟩⟩
  by_cases e : j = i
  · exact .inl (RF_zero.mpr e)
  · exact .inr ⟨i, RF_zero.mpr rfl, hw, e⟩
end EC
/-! ## EcMat -/
namespace EC
open Lrx1

/-! absolute values -/
def ab (r : Rat) : Rat := if r < 0 then -r else r
theorem ab_nonneg (r : Rat) : 0 ≤ ab r := by
  unfold ab; split <;> grind
theorem ab_le (r : Rat) : r ≤ ab r := by
  unfold ab; split <;> grind
theorem ab_le2 (r : Rat) : -r ≤ ab r := by
  unfold ab; split <;> grind
theorem ab_zero {r : Rat} (h : ab r = 0) : r = 0 := by
  unfold ab at h; split at h <;> grind
theorem ab_is {r s : Rat} (h1 : r ≤ s) (h2 : -r ≤ s) : ab r ≤ s := by
  unfold ab; split <;> grind
theorem S_ab (f : Nat → Rat) : ∀ n, ab (S n f) ≤ S n (fun i => ab (f i))
  | 0 => by rw [S_zero, S_zero]; decide
  | n + 1 => by
    have h := S_ab f n
    have h1 := ab_le (S n f)
    have h2 := ab_le2 (S n f)
    have h3 := ab_le (f n)
    have h4 := ab_le2 (f n)
    rw [S_succ, S_succ]
    exact ab_is (by grind) (by grind)
theorem ab_mul {w : Rat} (hw : 0 ≤ w) (x : Rat) : ab (x * w) = ab x * w := by
  unfold ab
  by_cases h : x < 0
  · rw [if_pos h]
    have : 0 ≤ (-x) * w := Rat.mul_nonneg (by grind) hw
    by_cases e : x * w < 0
    · rw [if_pos e]; grind
    · rw [if_neg e]; grind
  · rw [if_neg h]
    have : 0 ≤ x * w := Rat.mul_nonneg (by grind) hw
    rw [if_neg (by grind)]

/-! lists of different states -/
theorem getD_mem {L : List Nat} {q : Nat} (h : q < L.length) : L.getD q 0 ∈ L := by
  rw [List.getD_eq_getElem?_getD, List.getElem?_eq_getElem h]
  exact List.getElem_mem h
theorem mem_getD {L : List Nat} {x : Nat} (h : x ∈ L) : ∃ q, q < L.length ∧ L.getD q 0 = x := by
  obtain ⟨q, hq, e⟩ := List.mem_iff_getElem.mp h
  exact ⟨q, hq, by rw [List.getD_eq_getElem?_getD, List.getElem?_eq_getElem hq]; exact e⟩
theorem getD_inj {L : List Nat} (hn : L.Nodup) {p q : Nat} (hp : p < L.length) (hq : q < L.length) (h : L.getD p 0 = L.getD q 0) : p = q := by
  rw [List.getD_eq_getElem?_getD, List.getElem?_eq_getElem hp, List.getD_eq_getElem?_getD, List.getElem?_eq_getElem hq] at h
  exact (List.getElem_inj hn).mp h
theorem S_list (g : Nat → Rat) (n : Nat) : ∀ (L : List Nat), L.Nodup → (∀ x ∈ L, x < n) → S L.length (fun q => g (L.getD q 0)) = S n (fun j => if j ∈ L then g j else 0)
  | [], _, _ => by
    simp [S_zero, S_null]
  | a :: L, hn, hl => by
    have h1 := S_list g n L (List.nodup_cons.mp hn).2 fun x hx => hl x (List.mem_cons_of_mem _ hx)
    rw [List.length_cons, S_head]
    rw [S_congr (f := fun j => if j ∈ a :: L then g j else 0) (g := fun j => (if j = a then g a else 0) + (if j ∈ L then g j else 0)) (fun j hj => ?_), S_add, S_one, if_pos (hl a (List.mem_cons_self ..)), ← h1]
    · rfl
    · by_cases e : j = a
      · subst e
        rw [if_pos (List.mem_cons_self ..), if_pos rfl, if_neg (List.nodup_cons.mp hn).1]; grind
      · rw [if_neg e]
        by_cases m : j ∈ L
        · rw [if_pos m, if_pos (List.mem_cons_of_mem _ m)]; grind
        · rw [if_neg m, if_neg (fun z => by rcases List.mem_cons.mp z with z | z; exact e z; exact m z)]; grind
/-- a function of places as one of states -/
def atS (L : List Nat) (x : Nat → Rat) (j : Nat) : Rat := if j ∈ L then x (L.idxOf j) else 0
theorem atS_at {L : List Nat} (hn : L.Nodup) (x : Nat → Rat) {q : Nat} (h : q < L.length) : atS L x (L.getD q 0) = x q := by
  unfold atS
  rw [if_pos (getD_mem h)]
  congr 1
  have h1 : L.idxOf (L.getD q 0) < L.length := List.idxOf_lt_length_of_mem (getD_mem h)
  refine getD_inj hn h1 h ?_
  rw [List.getD_eq_getElem?_getD, List.getElem?_eq_getElem h1]
  exact List.getElem_idxOf h1
theorem atS_out {L : List Nat} (x : Nat → Rat) {j : Nat} (h : j ∉ L) : atS L x j = 0 := if_neg h
theorem S_atS {L : List Nat} {n : Nat} (hn : L.Nodup) (hl : ∀ x ∈ L, x < n) (f x : Nat → Rat) : S L.length (fun q => f (L.getD q 0) * x q) = S n (fun j => f j * atS L x j) := by
  rw [S_congr (g := fun q => (fun j => f j * atS L x j) (L.getD q 0)) (fun q hq => by simp only [atS_at hn x hq]), S_list (fun j => f j * atS L x j) n L hn hl]
  refine S_congr fun j hj => ?_
  by_cases m : j ∈ L
  · rw [if_pos m]
  · rw [if_neg m, atS_out x m]; grind

/-! the greatest -/
theorem argmax (f : Nat → Rat) : ∀ n, 0 < n → ∃ j, j < n ∧ ∀ i, i < n → f i ≤ f j
  | 0, h => by omega
  | 1, _ => ⟨0, by omega, fun i hi => by
      have : i = 0 := by omega
      subst this; exact Rat.le_refl⟩
  | n + 2, _ => by
    obtain ⟨j, hj, h⟩ := argmax f (n + 1) (by omega)
    by_cases e : f (n + 1) ≤ f j
    · refine ⟨j, by omega, fun i hi => ?_⟩
      by_cases q : i = n + 1
      · rw [q]; exact e
      · exact h i (by omega)
    · refine ⟨n + 1, by omega, fun i hi => ?_⟩
      by_cases q : i = n + 1
      · rw [q]; exact Rat.le_refl
      · have := h i (by omega)
        grind
/-- each state of L reaches one that isn't in L -/
def Leaves (c : Chain) (L : List Nat) : Prop := ∀ i ∈ L, ∃ k j, RF c i k j ∧ j ∉ L
section
variable {c : Chain}
/-- the maximum principle -/
theorem maxp (ok : COk c) {L : List Nat} (hl : ∀ x ∈ L, x < size c) (lv : Leaves c L) {X : Nat → Rat} {M0 : Rat}
    (hL : ∀ i ∈ L, sR c i * X i ≤ S (size c) (fun j => wR c i j * X j)) (hb : ∀ i, i < size c → i ∉ L → X i ≤ M0) : ∀ i, i < size c → X i ≤ M0 := by
  obtain ⟨j0, hj0, hm⟩ := argmax X (size c) ok.pos
  suffices X j0 ≤ M0 from fun i hi => by have := hm i hi; grind
  refine Classical.byContradiction fun gt => ?_
  have inL : ∀ i, i < size c → X i = X j0 → i ∈ L := fun i hi e => Classical.byContradiction fun z => by
    have := hb i hi z
    grind
  have step : ∀ m j, (m < size c ∧ X m = X j0) → j < size c → 0 < weight c m j → (j < size c ∧ X j = X j0) := fun m j ⟨hm1, hm2⟩ hj hw => by
    have h1 := hL m (inL m hm1 hm2)
    have le : ∀ j, j < size c → wR c m j * X j ≤ wR c m j * X j0 := fun j hj => Rat.mul_le_mul_of_nonneg_left (hm j hj) (wR_nonneg c m j)
    have s1 := S_le le
    have s2 : S (size c) (fun j => wR c m j * X j0) = sR c m * X j0 := by rw [S_mul_right, sR_eq ok]
    have t := S_tight le (by rw [hm2] at h1; grind) j hj
    have wp : wR c m j ≠ 0 := by
      unfold wR
      exact natPos_ne hw
    exact ⟨hj, by grind⟩
  obtain ⟨k, j, r, out⟩ := lv j0 (inL j0 hj0 rfl)
  have z := RF_closed (P := fun j => j < size c ∧ X j = X j0) ⟨hj0, rfl⟩ step r
  exact out (inL j z.1 z.2)
/-- the matrix: sums less weights -/
def hA (c : Chain) (L : List Nat) (p q : Nat) : Rat := (if p = q then sR c (L.getD p 0) else 0) - wR c (L.getD p 0) (L.getD q 0)
theorem hA_row {L : List Nat} (hn : L.Nodup) (hl : ∀ x ∈ L, x < size c) (x : Nat → Rat) {p : Nat} (hp : p < L.length) :
    S L.length (fun q => hA c L p q * x q) = sR c (L.getD p 0) * x p - S (size c) (fun j => wR c (L.getD p 0) j * atS L x j) := by
  rw [S_congr (g := fun q => (if q = p then sR c (L.getD p 0) * x p else 0) - wR c (L.getD p 0) (L.getD q 0) * x q) (fun q hq => by
    unfold hA
    by_cases e : p = q
    · subst e; simp only [if_true]; grind
    · rw [if_neg e, if_neg (fun z => e z.symm)]; grind), S_sub, S_one, if_pos hp, S_atS hn hl (wR c (L.getD p 0)) x]
theorem triv_row (ok : COk c) {L : List Nat} (hn : L.Nodup) (hl : ∀ x ∈ L, x < size c) (lv : Leaves c L) {x : Nat → Rat} (h : ∀ p, p < L.length → S L.length (fun q => hA c L p q * x q) = 0) :
    ∀ q, q < L.length → x q = 0 := by
  have key : ∀ y : Nat → Rat, (∀ p, p < L.length → S L.length (fun q => hA c L p q * y q) = 0) → ∀ q, q < L.length → y q ≤ 0 := fun y hy q hq => by
    have m := maxp ok hl lv (X := atS L y) (M0 := 0) (fun i hi => ?_) (fun i hi z => by rw [atS_out y z]; exact Rat.le_refl) (L.getD q 0) (hl _ (getD_mem hq))
    · rw [atS_at hn y hq] at m; exact m
    · obtain ⟨p, hp, e⟩ := mem_getD hi
      have z := hy p hp
      rw [hA_row hn hl y hp] at z
      rw [← e, atS_at hn y hp]
      grind
  intro q hq
  have h1 := key x h q hq
  have h2 := key (fun q => - x q) (fun p hp => by
    rw [S_congr (g := fun q => - (hA c L p q * x q)) (fun q _ => by grind), S_neg, h p hp]; grind) q hq
  grind
theorem triv_col (ok : COk c) {L : List Nat} (hn : L.Nodup) (hl : ∀ x ∈ L, x < size c) (lv : Leaves c L) {x : Nat → Rat} (h : ∀ q, q < L.length → S L.length (fun p => hA c L p q * x p) = 0) :
    ∀ q, q < L.length → x q = 0 := by
  have eqL : ∀ q, q < L.length → sR c (L.getD q 0) * x q = S (size c) (fun i => wR c i (L.getD q 0) * atS L x i) := fun q hq => by
    have z := h q hq
    rw [S_congr (g := fun p => (if p = q then sR c (L.getD q 0) * x q else 0) - wR c (L.getD p 0) (L.getD q 0) * x p) (fun p hp => by
      unfold hA
      by_cases e : p = q
      · subst e; simp only [if_true]; grind
      · rw [if_neg e, if_neg e]; grind), S_sub, S_one, if_pos hq, S_atS hn hl (fun i => wR c i (L.getD q 0)) x] at z
    grind
  -- Y: the absolute values
  have le : ∀ j, j < size c → sR c j * ab (atS L x j) ≤ S (size c) (fun i => ab (atS L x i) * wR c i j) := fun j hj => by
    by_cases m : j ∈ L
    · obtain ⟨q, hq, e⟩ := mem_getD m
      have h1 := eqL q hq
      have h2 := S_ab (fun i => wR c i (L.getD q 0) * atS L x i) (size c)
      have sn : 0 ≤ sR c j := by rw [sR_eq ok]; exact S_nonneg fun i _ => wR_nonneg c j i
      have h3 : sR c j * ab (atS L x j) = ab (S (size c) (fun i => wR c i (L.getD q 0) * atS L x i)) := by
        rw [← h1, ← e, atS_at hn x hq, e, Rat.mul_comm, ← ab_mul sn]
        congr 1; grind
      rw [h3, ← e]
      have e3 : S (size c) (fun i => ab (wR c i (L.getD q 0) * atS L x i)) = S (size c) (fun i => ab (atS L x i) * wR c i (L.getD q 0)) := S_congr fun i hi => by
        rw [← ab_mul (wR_nonneg c i _)]
        congr 1; grind
      rw [← e3]
      exact h2
    · rw [atS_out x m]
      have : 0 ≤ S (size c) (fun i => ab (atS L x i) * wR c i j) := S_nonneg fun i _ => Rat.mul_nonneg (ab_nonneg _) (wR_nonneg c i j)
      rw [show ab 0 = 0 from by decide, Rat.mul_zero]
      exact this
  have tot : S (size c) (fun j => sR c j * ab (atS L x j)) = S (size c) (fun j => S (size c) (fun i => ab (atS L x i) * wR c i j)) := by
    rw [S_swap (fun j i => ab (atS L x i) * wR c i j)]
    refine S_congr fun i hi => ?_
    rw [S_mul, sR_eq ok]; grind
  have eq := S_tight le tot
  -- from a state that isn't 0 all that is reached isn't 0
  have step : ∀ i j, (i < size c ∧ ab (atS L x i) ≠ 0) → j < size c → 0 < weight c i j → (j < size c ∧ ab (atS L x j) ≠ 0) := fun i j ⟨hi, ne⟩ hj hw => by
    refine ⟨hj, fun z => ?_⟩
    have e := eq j hj
    rw [z] at e
    have e2 := S_nil (f := fun i => ab (atS L x i) * wR c i j) (fun i _ => Rat.mul_nonneg (ab_nonneg _) (wR_nonneg c i j)) (by grind) i hi
    have wp : wR c i j ≠ 0 := by
      unfold wR
      exact natPos_ne hw
    grind
  intro q hq
  refine Classical.byContradiction fun ne => ?_
  have hm := getD_mem hq
  obtain ⟨k, j, r, out⟩ := lv _ hm
  have z := RF_closed (P := fun j => j < size c ∧ ab (atS L x j) ≠ 0) ⟨hl _ hm, fun e => ne (by
    have := ab_zero e
    rw [atS_at hn x hq] at this; exact this)⟩ step r
  rw [atS_out x out] at z
  exact z.2 (by decide)
theorem leaves_take {L : List Nat} (lv : Leaves c L) (k : Nat) : Leaves c (L.take k) := fun i hi => by
  obtain ⟨m, j, r, out⟩ := lv i (List.mem_of_mem_take hi)
  exact ⟨m, j, r, fun z => out (List.mem_of_mem_take z)⟩
theorem take_getD {L : List Nat} {k q : Nat} (h : q < k) : (L.take k).getD q 0 = L.getD q 0 := by
  rw [List.getD_eq_getElem?_getD, List.getElem?_take_of_lt h, List.getD_eq_getElem?_getD]
theorem hA_take {L : List Nat} {k p q : Nat} (hp : p < k) (hq : q < k) : hA c (L.take k) p q = hA c L p q := by
  unfold hA
  rw [take_getD hp, take_getD hq]
theorem sgA (ok : COk c) {L : List Nat} (hn : L.Nodup) (hl : ∀ x ∈ L, x < size c) : Sg L.length 0 (hA c L) := by
  refine ⟨fun i j _ _ _ _ ne => ?_, fun i _ hi => ?_⟩
  · unfold hA
    rw [if_neg ne]
    have := wR_nonneg c (L.getD i 0) (L.getD j 0)
    grind
  · have e : S (L.length - 0) (fun t => hA c L i (0 + t)) = S L.length (fun q => hA c L i q * (fun _ => 1) q) := by
      rw [Nat.sub_zero]
      exact S_congr fun t _ => by rw [Nat.zero_add]; grind
    rw [e, hA_row hn hl _ hi, sR_eq ok]
    have : S (size c) (fun j => wR c (L.getD i 0) j * atS L (fun _ => 1) j) ≤ S (size c) (fun j => wR c (L.getD i 0) j) := S_le fun j _ => by
      have w := wR_nonneg c (L.getD i 0) j
      unfold atS
      split <;> grind
    have e2 : (fun j => wR c (L.getD i 0) j) = wR c (L.getD i 0) := rfl
    rw [e2] at this
    grind

/-! the program's equations -/
def rowR (c : Chain) (L : List Nat) (p : Nat) : List Int :=
  let r := L.map fun j => -(weight c (L.getD p 0) j : Int)
  r.set p (r.getD p 0 + (rowSum c (L.getD p 0) : Int))
def eqsR (c : Chain) (L : List Nat) (gains : List Int) : List (List Int) := (List.range L.length).map fun p => rowR c L p ++ [gains.getD p 0]
def rowC (c : Chain) (L : List Nat) (p : Nat) : List Int :=
  let r := L.map fun i => -(weight c i (L.getD p 0) : Int)
  r.set p (r.getD p 0 + (rowSum c (L.getD p 0) : Int))
def eqsC (c : Chain) (L : List Nat) (gains : List Int) : List (List Int) := (List.range L.length).map fun p => rowC c L p ++ [gains.getD p 0]
theorem getD_app_l {l : List Int} {x : Int} {j : Nat} (h : j < l.length) : (l ++ [x]).getD j 0 = l.getD j 0 := by
  rw [List.getD_eq_getElem?_getD, List.getElem?_append_left h, List.getD_eq_getElem?_getD]
theorem getD_app_r {l : List Int} {x : Int} {j : Nat} (h : j = l.length) : (l ++ [x]).getD j 0 = x := by
  subst h
  simp [List.getD_eq_getElem?_getD]
theorem getD_mapL {α : Type} {f : Nat → α} {L : List Nat} {q : Nat} {d : α} (h : q < L.length) : (L.map f).getD q d = f (L.getD q 0) := by
  simp [List.getD_eq_getElem?_getD, h]
theorem rowR_get {L : List Nat} {p q : Nat} (hp : p < L.length) (hq : q < L.length) : (rowR c L p).getD q 0 = (if p = q then (rowSum c (L.getD p 0) : Int) else 0) - (weight c (L.getD p 0) (L.getD q 0) : Int) := by
  unfold rowR
  simp only
  rw [getD_set (by simpa using hp), getD_mapL hp, getD_mapL hq]
  by_cases e : q = p
  · subst e; simp; omega
  · rw [if_neg e, if_neg (fun z => e z.symm)]; omega
theorem rowC_get {L : List Nat} {p q : Nat} (hp : p < L.length) (hq : q < L.length) : (rowC c L p).getD q 0 = (if q = p then (rowSum c (L.getD q 0) : Int) else 0) - (weight c (L.getD q 0) (L.getD p 0) : Int) := by
  unfold rowC
  simp only
  rw [getD_set (by simpa using hp), getD_mapL hp, getD_mapL hq]
  by_cases e : q = p
  · subst e; simp; omega
  · rw [if_neg e, if_neg e]; omega
theorem rowR_len (L : List Nat) (p : Nat) : (rowR c L p).length = L.length := by simp [rowR]
theorem rowC_len (L : List Nat) (p : Nat) : (rowC c L p).length = L.length := by simp [rowC]
theorem cast_entry (p q i j : Nat) : (((if p = q then (rowSum c i : Int) else 0) - (weight c i j : Int) : Int) : Rat) = (if p = q then sR c i else 0) - wR c i j := by
  unfold sR wR
  split <;> (push_cast; rfl)
theorem low_entry (ok : COk c) (p q i j : Nat) : ((if p = q then (rowSum c i : Int) else 0) - (weight c i j : Int)).natAbs < 2 ^ 24 := by
  have h1 := rowSum_low ok i
  have h2 := ok.low i j
  split <;> omega
theorem solR (ok : COk c) {L : List Nat} (hn : L.Nodup) (hl : ∀ x ∈ L, x < size c) (lv : Leaves c L) {gains : List Int} (hg : ∀ p, p < L.length → (gains.getD p 0).natAbs < 2 ^ 24) :
    SolOk L.length (eqsR c L gains) ∧ (∀ p q, p < L.length → q < L.length → mA (eqsR c L gains) q p = hA c L p q) ∧ ∀ p, p < L.length → mA (eqsR c L gains) L.length p = ((gains.getD p 0 : Int) : Rat) := by
  have gr : ∀ p, p < L.length → (eqsR c L gains).getD p [] = rowR c L p ++ [gains.getD p 0] := fun p hp => getD_map_range hp
  have m1 : ∀ p q, p < L.length → q < L.length → mA (eqsR c L gains) q p = hA c L p q := fun p q hp hq => by
    unfold mA
    rw [gr p hp, getD_app_l (by rw [rowR_len]; exact hq), rowR_get hp hq, cast_entry]
    rfl
  refine ⟨⟨by simp [eqsR], fun i hi => by rw [gr i hi]; simp [rowR_len], fun i j hi hj => ?_, fun k hk => ?_⟩, m1, fun p hp => by unfold mA; rw [gr p hp, getD_app_r (by rw [rowR_len])]⟩
  · rw [gr i hi]
    by_cases e : j = L.length
    · rw [getD_app_r (by rw [rowR_len]; exact e)]; exact hg i hi
    · rw [getD_app_l (by rw [rowR_len]; omega), rowR_get hi (by omega)]; exact low_entry ok _ _ _ _
  · refine ((minors (A := mA (eqsR c L gains)) (n := L.length) (fun k hk x hx l hl' => ?_) (.inl ?_) k hk).1 k (Nat.le_refl _))
    · have lt : (L.take k).length = k := by rw [List.length_take]; omega
      refine triv_row ok (L := L.take k) (hn.sublist (List.take_sublist k L)) (fun y hy => hl y (List.mem_of_mem_take hy)) (leaves_take lv k) (x := x) (fun p hp => ?_) l (by omega)
      rw [lt] at hp ⊢
      rw [← hx p hp]
      exact S_congr fun q hq => by rw [hA_take hp hq, m1 p q (by omega) (by omega)]
    · have s := sgA ok hn hl
      refine ⟨fun i j a b d e ne => ?_, fun i a b => ?_⟩
      · rw [m1 i j b e]; exact s.off i j a b d e ne
      · rw [S_congr (g := fun t => hA c L i (0 + t)) (fun t ht => by rw [m1 i (0 + t) b (by omega)])]
        exact s.sum i a b
theorem solC (ok : COk c) {L : List Nat} (hn : L.Nodup) (hl : ∀ x ∈ L, x < size c) (lv : Leaves c L) {gains : List Int} (hg : ∀ p, p < L.length → (gains.getD p 0).natAbs < 2 ^ 24) :
    SolOk L.length (eqsC c L gains) ∧ (∀ p q, p < L.length → q < L.length → mA (eqsC c L gains) q p = hA c L q p) ∧ ∀ p, p < L.length → mA (eqsC c L gains) L.length p = ((gains.getD p 0 : Int) : Rat) := by
  have gr : ∀ p, p < L.length → (eqsC c L gains).getD p [] = rowC c L p ++ [gains.getD p 0] := fun p hp => getD_map_range hp
  have m1 : ∀ p q, p < L.length → q < L.length → mA (eqsC c L gains) q p = hA c L q p := fun p q hp hq => by
    unfold mA
    rw [gr p hp, getD_app_l (by rw [rowC_len]; exact hq), rowC_get hp hq, cast_entry]
    rfl
  refine ⟨⟨by simp [eqsC], fun i hi => by rw [gr i hi]; simp [rowC_len], fun i j hi hj => ?_, fun k hk => ?_⟩, m1, fun p hp => by unfold mA; rw [gr p hp, getD_app_r (by rw [rowC_len])]⟩
  · rw [gr i hi]
    by_cases e : j = L.length
    · rw [getD_app_r (by rw [rowC_len]; exact e)]; exact hg i hi
    · rw [getD_app_l (by rw [rowC_len]; omega), rowC_get hi (by omega)]; exact low_entry ok _ _ _ _
  · refine ((minors (A := mA (eqsC c L gains)) (n := L.length) (fun k hk x hx l hl' => ?_) (.inr ?_) k hk).1 k (Nat.le_refl _))
    · have lt : (L.take k).length = k := by rw [List.length_take]; omega
      refine triv_col ok (L := L.take k) (hn.sublist (List.take_sublist k L)) (fun y hy => hl y (List.mem_of_mem_take hy)) (leaves_take lv k) (x := x) (fun p hp => ?_) l (by omega)
      rw [lt] at hp ⊢
      rw [← hx p hp]
      exact S_congr fun q hq => by rw [hA_take hq hp, m1 p q (by omega) (by omega)]
    · have s := sgA ok hn hl
      refine ⟨fun i j a b d e ne => ?_, fun i a b => ?_⟩
      · rw [m1 j i e b]; exact s.off i j a b d e ne
      · rw [S_congr (g := fun t => hA c L i (0 + t)) (fun t ht => by rw [m1 (0 + t) i (by omega) b])]
        exact s.sum i a b
end
end EC
/-! ## EcHit -/
namespace EC
open Lrx1

/-! list sums of rationals -/
def LR (f : Nat → Rat) : List Nat → Rat
  | [] => 0
  | x :: l => f x + LR f l
theorem LR_S (f : Nat → Rat) : ∀ l : List Nat, LR f l = S l.length (fun q => f (l.getD q 0))
  | [] => rfl
  | x :: l => by
    rw [List.length_cons, S_head, LR, LR_S f l]
    rfl
theorem LR_mem {f : Nat → Rat} {n : Nat} {l : List Nat} (hn : l.Nodup) (hl : ∀ x ∈ l, x < n) : LR f l = S n (fun j => if j ∈ l then f j else 0) := by
  rw [LR_S, S_list f n l hn hl]
theorem LR_cast (f : Nat → Nat) : ∀ l : List Nat, (((l.map f).sum : Nat) : Rat) = LR (fun j => (f j : Rat)) l
  | [] => rfl
  | x :: l => by
    rw [List.map_cons, List.sum_cons, LR, ← LR_cast f l]
    push_cast; rfl
theorem LR_mul (a : Rat) (f : Nat → Rat) : ∀ l : List Nat, LR (fun j => a * f j) l = a * LR f l
  | [] => by simp only [LR]; grind
  | x :: l => by simp only [LR, LR_mul a f l]; grind
theorem LR_congr {f g : Nat → Rat} : ∀ {l : List Nat}, (∀ x ∈ l, f x = g x) → LR f l = LR g l
  | [], _ => rfl
  | x :: l, h => by
    simp only [LR]
    rw [h x (List.mem_cons_self ..), LR_congr fun y hy => h y (List.mem_cons_of_mem _ hy)]
theorem fold_add : ∀ (l : List Fraction) (a : Fraction), Red a → (∀ f ∈ l, Red f) → Red (l.foldl add a) ∧ val (l.foldl add a) = val a + (l.map val).foldr (· + ·) 0
  | [], a, ha, _ => ⟨ha, by simp only [List.foldl_nil, List.map_nil, List.foldr_nil]; grind⟩
  | x :: l, a, ha, h => by
    have hx := h x (List.mem_cons_self ..)
    obtain ⟨h1, h2⟩ := fold_add l (add a x) (red_add ha.pos hx.pos) fun f hf => h f (List.mem_cons_of_mem _ hf)
    refine ⟨h1, ?_⟩
    rw [List.foldl_cons, h2, val_add ha.pos hx.pos]
    simp only [List.map_cons, List.foldr_cons]
    grind
theorem sum_map {f : Nat → Fraction} (l : List Nat) (h : ∀ x ∈ l, Red (f x)) : Red (sum (l.map f)) ∧ val (sum (l.map f)) = LR (fun j => val (f j)) l := by
  obtain ⟨h1, h2⟩ := fold_add (l.map f) zero red_zero (fun g hg => by
    obtain ⟨x, hx, rfl⟩ := List.mem_map.mp hg
    exact h x hx)
  refine ⟨h1, ?_⟩
  show val ((l.map f).foldl add zero) = _
  rw [h2, val_zero]
  have : ∀ l : List Nat, ((l.map f).map val).foldr (· + ·) 0 = LR (fun j => val (f j)) l := fun l => by
    induction l with
    | nil => rfl
    | cons x l ih => simp only [List.map_cons, List.foldr_cons, LR, ih]
  rw [this]; grind

/-! jumps, stays, generators as rationals -/
section
variable {c : Chain}
theorem red_jump (ok : COk c) (i j : Nat) : Red (jump c i j) := by
  unfold jump
  split
  · split
    · exact red_one
    · exact red_zero
  · rename_i h
    split
    · exact red_zero
    · exact red_reduce _ (by omega)
theorem sR_pos {i : Nat} (h : rowSum c i ≠ 0) : sR c i ≠ 0 := natPos_ne (by omega)
theorem val_jump (ok : COk c) {i : Nat} (h : rowSum c i ≠ 0) (j : Nat) : val (jump c i j) = wR c i j / sR c i := by
  unfold jump
  rw [if_neg h]
  split
  · rename_i q
    rw [Bool.and_eq_true, beq_iff_eq] at q
    rw [val_zero]
    unfold wR
    rw [← q.2, ok.diag q.1 i]
    have := sR_pos (c := c) h
    grind
  · rw [val_reduce _ (by omega), Rat.intCast_natCast]
    rfl
theorem val_jump0 {i : Nat} (h : rowSum c i = 0) (j : Nat) : val (jump c i j) = if i = j then 1 else 0 := by
  unfold jump
  rw [if_pos h]
  split
  · exact val_one
  · exact val_zero
/-- a state that reaches another one has a sum -/
theorem sum_of_leaves (ok : COk c) {i : Nat} (hi : i < size c) {P : Nat → Prop} (h : ∃ k j, RF c i k j ∧ P j) (hP : ¬ P i) : rowSum c i ≠ 0 := fun z => by
  obtain ⟨k, j, r, p⟩ := h
  have w0 : ∀ j, j < size c → weight c i j = 0 := fun j hj => by
    rw [rowSum_eq ok.diag] at z
    have := List.sum_eq_zero_iff_forall_eq_nat.mp z (weight c i j) (List.mem_map_of_mem (List.mem_range.mpr hj))
    exact this
  have e := RF_closed (c := c) (i := i) (P := fun j => j = i) rfl (fun m j hm hj hw => by
    rw [hm, w0 j hj] at hw; omega) r
  exact hP (e ▸ p)
theorem leaves_sum (ok : COk c) {L : List Nat} (hl : ∀ x ∈ L, x < size c) (lv : Leaves c L) {i : Nat} (hi : i ∈ L) : rowSum c i ≠ 0 :=
  sum_of_leaves ok (hl i hi) (P := fun j => j ∉ L) (lv i hi) (fun h => h hi)

/-! a value for each state -/
def valAt (L : List Nat) (f : Nat → Fraction) (j : Nat) : Fraction := match L.findIdx? fun l => l == j with
  | none => zero
  | some k => f k
theorem findIdx_at {L : List Nat} (hn : L.Nodup) {q : Nat} (h : q < L.length) : (L.findIdx? fun l => l == L.getD q 0) = some q := by
  rw [List.findIdx?_eq_some_iff_getElem]
  have e : L.getD q 0 = L[q] := by rw [List.getD_eq_getElem?_getD, List.getElem?_eq_getElem h]; rfl
  refine ⟨h, by rw [e]; simp, fun j hj => ?_⟩
  rw [e]
  intro z
  have : L[j] = L[q] := by simpa using z
  have := (List.getElem_inj hn).mp this
  omega
theorem findIdx_out {L : List Nat} {j : Nat} (h : j ∉ L) : (L.findIdx? fun l => l == j) = none := by
  rw [List.findIdx?_eq_none_iff]
  intro x hx
  simp
  intro e
  exact h (e ▸ hx)
theorem valAt_at {L : List Nat} (hn : L.Nodup) (f : Nat → Fraction) {q : Nat} (h : q < L.length) : valAt L f (L.getD q 0) = f q := by
  unfold valAt
  rw [findIdx_at hn h]
theorem valAt_out {L : List Nat} (f : Nat → Fraction) {j : Nat} (h : j ∉ L) : valAt L f j = zero := by
  unfold valAt
  rw [findIdx_out h]
theorem valAt_congr {L : List Nat} (hn : L.Nodup) {f g : Nat → Fraction} (h : ∀ q, q < L.length → f q = g q) (j : Nat) : valAt L f j = valAt L g j := by
  by_cases m : j ∈ L
  · obtain ⟨q, hq, e⟩ := mem_getD m
    rw [← e, valAt_at hn f hq, valAt_at hn g hq, h q hq]
  · rw [valAt_out f m, valAt_out g m]
theorem val_valAt {L : List Nat} (hn : L.Nodup) (f : Nat → Fraction) (j : Nat) : val (valAt L f j) = atS L (fun q => val (f q)) j := by
  by_cases m : j ∈ L
  · obtain ⟨q, hq, e⟩ := mem_getD m
    rw [← e, valAt_at hn f hq, atS_at hn _ hq]
  · rw [valAt_out f m, atS_out _ m, val_zero]
theorem red_valAt {L : List Nat} (hn : L.Nodup) {f : Nat → Fraction} (h : ∀ q, q < L.length → Red (f q)) (j : Nat) : Red (valAt L f j) := by
  by_cases m : j ∈ L
  · obtain ⟨q, hq, e⟩ := mem_getD m
    rw [← e, valAt_at hn f hq]; exact h q hq
  · rw [valAt_out f m]; exact red_zero

/-! the program's values from gains, and the specification's -/
/-- the program's value at the place p -/
def solF (eqs : List (List Int)) (p : Nat) : Fraction := reduce (numI eqs p) (denI eqs)
def specEqs (c : Chain) (L : List Nat) (r : Nat → Fraction) : List Row := L.map fun i => (L.map fun j => sub (if i = j then one else zero) (jump c i j)) ++ [r i]
theorem entry_app_l {l : Row} {x : Fraction} {j : Nat} (h : j < l.length) : entry (l ++ [x]) j = entry l j := by
  unfold entry
  rw [List.getD_eq_getElem?_getD, List.getElem?_append_left h, List.getD_eq_getElem?_getD]
theorem entry_app_r {l : Row} {x : Fraction} {j : Nat} (h : j = l.length) : entry (l ++ [x]) j = x := by
  subst h
  unfold entry
  simp [List.getD_eq_getElem?_getD]
theorem entry_mapL {f : Nat → Fraction} {L : List Nat} {q : Nat} (h : q < L.length) : entry (L.map f) q = f (L.getD q 0) := getD_mapL h
theorem red_delta (i j : Nat) : Red (if i = j then one else zero) := by
  split
  · exact red_one
  · exact red_zero
theorem val_delta (i j : Nat) : val (if i = j then one else zero) = if i = j then 1 else 0 := by
  split
  · exact val_one
  · exact val_zero
theorem hit_core (ok : COk c) {L : List Nat} (hn : L.Nodup) (hl : ∀ x ∈ L, x < size c) (lv : Leaves c L) {gains : List Int} (hg : ∀ p, p < L.length → (gains.getD p 0).natAbs < 2 ^ 24)
    {r : Nat → Fraction} (hr : ∀ i ∈ L, Red (r i)) (hv : ∀ p, p < L.length → val (r (L.getD p 0)) * sR c (L.getD p 0) = ((gains.getD p 0 : Int) : Rat)) :
    ∃ sol, Lrx1.solve (specEqs c L r) = some sol ∧ ∀ p, p < L.length → sol.getD p zero = solF (eqsR c L gains) p := by
  obtain ⟨so, m1, m2⟩ := solR ok hn hl lv hg
  have sv := solveI_ok so
  have gr : ∀ p, p < L.length → (specEqs c L r).getD p [] = (L.map fun j => sub (if L.getD p 0 = j then one else zero) (jump c (L.getD p 0) j)) ++ [r (L.getD p 0)] := fun p hp => getD_mapL hp
  have en : ∀ p q, p < L.length → q < L.length → En (specEqs c L r) p q * sR c (L.getD p 0) = hA c L p q := fun p q hp hq => by
    have s0 := leaves_sum ok hl lv (getD_mem hp)
    unfold En
    rw [gr p hp, entry_app_l (by simpa using hq), entry_mapL hq, val_sub (red_delta _ _).pos (red_jump ok _ _).pos, val_delta, val_jump ok s0]
    unfold hA
    have s1 := sR_pos s0
    by_cases e : p = q
    · subst e; simp only [if_true]; grind
    · rw [if_neg e, if_neg (fun z => e (getD_inj hn hp hq z))]; grind
  have en2 : ∀ p, p < L.length → En (specEqs c L r) p L.length = val (r (L.getD p 0)) := fun p hp => by
    unfold En
    rw [gr p hp, entry_app_r (by simp)]
  have rok : RowsOk L.length (specEqs c L r) := by
    refine ⟨by simp [specEqs], fun i hi => by rw [gr i hi]; simp, fun i j hi hj => ?_⟩
    rw [gr i hi]
    by_cases e : j = L.length
    · rw [entry_app_r (by simp [e])]; exact hr _ (getD_mem hi)
    · rw [entry_app_l (by simp; omega), entry_mapL (by omega)]
      exact red_sub (red_delta _ _).pos (red_jump ok _ _).pos
  have mulsum : ∀ p (y : Nat → Rat), p < L.length → S L.length (fun q => hA c L p q * y q) = sR c (L.getD p 0) * S L.length (fun q => En (specEqs c L r) p q * y q) := fun p y hp => by
    rw [← S_mul]
    exact S_congr fun q hq => by rw [← en p q hp hq]; grind
  have tr : Triv L.length (specEqs c L r) := fun y hy y0 => triv_row ok hn hl lv fun p hp => by
    have z := hy p hp
    rw [S_succ, y0] at z
    rw [mulsum p y hp]
    grind
  obtain ⟨sol, e, len, red, eq⟩ := solve_ok rok tr
  refine ⟨sol, e, fun p hp => ?_⟩
  have d0 : ((denI (eqsR c L gains) : Nat) : Rat) ≠ 0 := natPos_ne sv.pos
  refine red_ext (red p hp) (red_reduce _ sv.pos) ?_
  unfold solF
  rw [val_reduce _ sv.pos]
  have z := triv_row ok hn hl lv (x := fun q => val (sol.getD q zero) - ((numI (eqsR c L gains) q : Int) : Rat) / ((denI (eqsR c L gains) : Nat) : Rat)) (fun p hp => ?_) p hp
  · grind
  · rw [S_congr (g := fun q => hA c L p q * val (sol.getD q zero) - 1 / ((denI (eqsR c L gains) : Nat) : Rat) * (mA (eqsR c L gains) q p * ((numI (eqsR c L gains) q : Int) : Rat))) (fun q hq => by rw [m1 p q hp hq]; grind), S_sub, S_mul, mulsum p _ hp, eq p hp, sv.eq p hp, en2 p hp, m2 p hp, ← hv p hp]
    grind
/-- the program's values satisfy the equations over all states -/
theorem gain_eq (ok : COk c) {L : List Nat} (hn : L.Nodup) (hl : ∀ x ∈ L, x < size c) (lv : Leaves c L) {gains : List Int} (hg : ∀ p, p < L.length → (gains.getD p 0).natAbs < 2 ^ 24) {p : Nat} (hp : p < L.length) :
    sR c (L.getD p 0) * val (solF (eqsR c L gains) p) = S (size c) (fun j => wR c (L.getD p 0) j * val (valAt L (solF (eqsR c L gains)) j)) + ((gains.getD p 0 : Int) : Rat) := by
  obtain ⟨so, m1, m2⟩ := solR ok hn hl lv hg
  have sv := solveI_ok so
  have d0 : ((denI (eqsR c L gains) : Nat) : Rat) ≠ 0 := natPos_ne sv.pos
  have vf : ∀ q, val (solF (eqsR c L gains) q) = 1 / ((denI (eqsR c L gains) : Nat) : Rat) * ((numI (eqsR c L gains) q : Int) : Rat) := fun q => by
    unfold solF
    rw [val_reduce _ sv.pos]; grind
  have h1 := hA_row hn hl (fun q => val (solF (eqsR c L gains) q)) hp
  have h2 : S L.length (fun q => hA c L p q * val (solF (eqsR c L gains) q)) = ((gains.getD p 0 : Int) : Rat) := by
    rw [S_congr (g := fun q => 1 / ((denI (eqsR c L gains) : Nat) : Rat) * (mA (eqsR c L gains) q p * ((numI (eqsR c L gains) q : Int) : Rat))) (fun q hq => by rw [m1 p q hp hq, vf q]; grind), S_mul, sv.eq p hp, m2 p hp]
    grind
  rw [S_congr (f := fun j => wR c (L.getD p 0) j * val (valAt L (solF (eqsR c L gains)) j)) (g := fun j => wR c (L.getD p 0) j * atS L (fun q => val (solF (eqsR c L gains) q)) j) (fun j _ => by rw [val_valAt hn])]
  grind
/-- sums of the program's gains -/
theorem sub_sum (ok : COk c) (i : Nat) {T : List Nat} (hn : T.Nodup) (hl : ∀ x ∈ T, x < size c) : (T.map (weight c i)).sum ≤ rowSum c i := by
  have h : (((T.map (weight c i)).sum : Nat) : Rat) ≤ ((rowSum c i : Nat) : Rat) := by
    rw [LR_cast, LR_mem hn hl]
    show _ ≤ sR c i
    rw [sR_eq ok]
    exact S_le fun j _ => by
      have := wR_nonneg c i j
      split
      · exact Rat.le_refl
      · exact this
  exact_mod_cast h
end

/-! hitting probabilities -/
structure SetOk (c : Chain) (T : List Nat) : Prop where
  nd : T.Nodup
  lt : ∀ x ∈ T, x < size c
section
variable {c : Chain}
theorem outside_mem {T : List Nat} {i : Nat} : i ∈ outside c T ↔ i < size c ∧ i ∉ T ∧ canReach c T i = true := by
  unfold outside states
  simp [List.mem_filter]
theorem outside_nd (T : List Nat) : (outside c T).Nodup := List.nodup_range.sublist List.filter_sublist
theorem outside_lt {T : List Nat} : ∀ x ∈ outside c T, x < size c := fun x hx => (outside_mem.mp hx).1
theorem outside_leaves (ok : COk c) {T : List Nat} (hT : ∀ x ∈ T, x < size c) : Leaves c (outside c T) := fun i hi => by
  obtain ⟨h1, h2, h3⟩ := outside_mem.mp hi
  unfold canReach at h3
  obtain ⟨j, hj, r⟩ := List.any_eq_true.mp h3
  obtain ⟨k, hk⟩ := (reaches_iff ok h1 (hT j hj)).mp r
  exact ⟨k, j, hk, fun z => (outside_mem.mp z).2.1 hj⟩
def gainsH (c : Chain) (T : List Nat) : List Int := (outside c T).map fun i => (((T.map (weight c i)).sum : Nat) : Int)
theorem gainsH_get {T : List Nat} {p : Nat} (hp : p < (outside c T).length) : (gainsH c T).getD p 0 = (((T.map (weight c ((outside c T).getD p 0))).sum : Nat) : Int) := getD_mapL hp
theorem gainsH_low (ok : COk c) {T : List Nat} (hT : SetOk c T) : ∀ p, p < (outside c T).length → ((gainsH c T).getD p 0).natAbs < 2 ^ 24 := fun p hp => by
  rw [gainsH_get hp]
  have h1 := sub_sum ok ((outside c T).getD p 0) hT.nd hT.lt
  have h2 := rowSum_low ok ((outside c T).getD p 0)
  omega
/-- the specification's hitting probabilities are what the program gives -/
theorem hitting_is (ok : COk c) {T : List Nat} (hT : SetOk c T) : hitting c T = (states c).map fun i => if i ∈ T then one else valAt (outside c T) (solF (eqsR c (outside c T) (gainsH c T))) i := by
  have lv := outside_leaves ok hT.lt
  have hv : ∀ p, p < (outside c T).length → val (sum (T.map fun j => jump c ((outside c T).getD p 0) j)) * sR c ((outside c T).getD p 0) = (((gainsH c T).getD p 0 : Int) : Rat) := fun p hp => ?_
  obtain ⟨sol, e, eq⟩ := hit_core ok (outside_nd T) outside_lt lv (gainsH_low ok hT) (r := fun i => sum (T.map fun j => jump c i j)) (fun i _ => (sum_map T fun x _ => red_jump ok i x).1) hv
  · have e' : Lrx1.solve ((outside c T).map fun i => ((outside c T).map fun j => sub (if i = j then one else zero) (jump c i j)) ++ [sum (T.map fun j => jump c i j)]) = some sol := e
    unfold hitting
    dsimp only
    rw [e']
    refine List.map_congr_left fun i _ => ?_
    simp only [List.contains_iff_mem]
    split
    · rfl
    · exact valAt_congr (outside_nd T) (f := fun q => sol.getD q zero) (fun q hq => eq q hq) i
  · have s0 := leaves_sum ok outside_lt lv (getD_mem hp)
    have s1 := sR_pos s0
    rw [(sum_map T fun x _ => red_jump ok _ x).2, gainsH_get hp, Rat.intCast_natCast, LR_cast, LR_congr (g := fun j => 1 / sR c ((outside c T).getD p 0) * (weight c ((outside c T).getD p 0) j : Rat)) (fun x _ => by rw [val_jump ok s0]; unfold wR; grind), LR_mul]
    grind
theorem entry_states {f : Nat → Fraction} {i : Nat} (h : i < size c) : entry ((states c).map f) i = f i := entry_map h
/-- .. as rationals -/
def hR (c : Chain) (T : List Nat) (i : Nat) : Rat := val (entry (hitting c T) i)
theorem red_hit (ok : COk c) {T : List Nat} (hT : SetOk c T) {i : Nat} (hi : i < size c) : Red (entry (hitting c T) i) := by
  rw [hitting_is ok hT, entry_states hi]
  split
  · exact red_one
  · refine red_valAt (outside_nd T) (fun q hq => red_reduce _ ?_) i
    exact (solveI_ok (solR ok (outside_nd T) outside_lt (outside_leaves ok hT.lt) (gainsH_low ok hT)).1).pos
theorem hR_in (ok : COk c) {T : List Nat} (hT : SetOk c T) {i : Nat} (h : i ∈ T) : hR c T i = 1 := by
  unfold hR
  rw [hitting_is ok hT, entry_states (hT.lt i h), if_pos h, val_one]
theorem hR_out (ok : COk c) {T : List Nat} (hT : SetOk c T) {i : Nat} (hi : i < size c) (h : i ∉ T) (h2 : i ∉ outside c T) : entry (hitting c T) i = zero := by
  rw [hitting_is ok hT, entry_states hi, if_neg h, valAt_out _ h2]
theorem hR_eq (ok : COk c) {T : List Nat} (hT : SetOk c T) {i : Nat} (h : i ∈ outside c T) : sR c i * hR c T i = S (size c) (fun j => wR c i j * hR c T j) := by
  have lv := outside_leaves ok hT.lt
  obtain ⟨p, hp, e⟩ := mem_getD h
  obtain ⟨h1, h2, h3⟩ := outside_mem.mp h
  have g := gain_eq ok (outside_nd T) outside_lt lv (gainsH_low ok hT) hp
  rw [e] at g
  have hi : hR c T i = val (solF (eqsR c (outside c T) (gainsH c T)) p) := by
    unfold hR
    rw [hitting_is ok hT, entry_states h1, if_neg h2, ← e, valAt_at (outside_nd T) _ hp]
  rw [hi, g, gainsH_get hp, Rat.intCast_natCast, LR_cast, LR_mem hT.nd hT.lt, ← S_add, e]
  refine S_congr fun j hj => ?_
  unfold hR
  rw [hitting_is ok hT, entry_states hj]
  by_cases m : j ∈ T
  · rw [if_pos m, if_pos m, val_one, valAt_out _ (fun z => (outside_mem.mp z).2.1 m), val_zero]
    unfold wR
    grind
  · rw [if_neg m, if_neg m]; grind
theorem hR_le (ok : COk c) {T : List Nat} (hT : SetOk c T) {i : Nat} (hi : i < size c) : hR c T i ≤ 1 := by
  refine maxp ok outside_lt (outside_leaves ok hT.lt) (X := hR c T) (M0 := 1) (fun i h => by rw [hR_eq ok hT h]; exact Rat.le_refl) (fun i hi h => ?_) i hi
  by_cases m : i ∈ T
  · rw [hR_in ok hT m]; exact Rat.le_refl
  · unfold hR
    rw [hR_out ok hT hi m h, val_zero]; decide
theorem hR_ge (ok : COk c) {T : List Nat} (hT : SetOk c T) {i : Nat} (hi : i < size c) : 0 ≤ hR c T i := by
  have z := maxp ok outside_lt (outside_leaves ok hT.lt) (X := fun i => - hR c T i) (M0 := 0) (fun i h => ?_) (fun i hi h => ?_) i hi
  · grind
  · rw [S_congr (g := fun j => - (wR c i j * hR c T j)) (fun j _ => by grind), S_neg, ← hR_eq ok hT h]; grind
  · by_cases m : i ∈ T
    · rw [hR_in ok hT m]; decide
    · unfold hR
      rw [hR_out ok hT hi m h, val_zero]; decide
end
end EC
/-! ## EcTime -/
namespace EC
open Lrx1
section
variable {c : Chain}

/-! mean times -/
/-- the states that the program solves for: certain, not in the set -/
def surely (c : Chain) (T : List Nat) : List Nat := (outside c T).filter fun k => entry (hitting c T) k == one
theorem surely_mem {T : List Nat} {i : Nat} : i ∈ surely c T ↔ i ∈ outside c T ∧ entry (hitting c T) i = one := by
  unfold surely
  rw [List.mem_filter, beq_iff_eq]
theorem surely_nd (T : List Nat) : (surely c T).Nodup := (outside_nd T).sublist List.filter_sublist
theorem surely_lt {T : List Nat} : ∀ x ∈ surely c T, x < size c := fun x hx => outside_lt x (surely_mem.mp hx).1
theorem surely_leaves (ok : COk c) {T : List Nat} (hT : SetOk c T) : Leaves c (surely c T) := fun i hi => by
  obtain ⟨h1, h2, h3⟩ := outside_mem.mp (surely_mem.mp hi).1
  unfold canReach at h3
  obtain ⟨j, hj, r⟩ := List.any_eq_true.mp h3
  obtain ⟨k, hk⟩ := (reaches_iff ok h1 (hT.lt j hj)).mp r
  exact ⟨k, j, hk, fun z => (outside_mem.mp (surely_mem.mp z).1).2.1 hj⟩
/-- the certain states of the program -/
def certain (c : Chain) (T : List Nat) : List Nat := (states c).filter fun i => entry (hitting c T) i == one
theorem certain_mem {T : List Nat} {i : Nat} : i ∈ certain c T ↔ i < size c ∧ entry (hitting c T) i = one := by
  unfold certain states
  rw [List.mem_filter, beq_iff_eq, List.mem_range]
theorem one_ne_zero : one ≠ zero := by decide
theorem surely_is (ok : COk c) {T : List Nat} (hT : SetOk c T) : (certain c T).filter (fun i => !T.contains i) = surely c T := by
  unfold certain surely outside
  rw [List.filter_filter, List.filter_filter]
  refine List.filter_congr fun i hi => ?_
  have hi' : i < size c := List.mem_range.mp hi
  by_cases m : i ∈ T
  · simp [m]
  · by_cases r : canReach c T i = true
    · simp [m, r]
    · have z : entry (hitting c T) i = zero := hR_out ok hT hi' m (fun h => r (outside_mem.mp h).2.2)
      rw [z]
      have : (zero == one) = false := by decide
      simp [m, r, this]
/-- the gain: the stay times the sum -/
def gainT (c : Chain) (i : Nat) : Int := if c.isContinuous then 1 else (rowSum c i : Int)
def gainsT (c : Chain) (T : List Nat) : List Int := (surely c T).map (gainT c)
theorem red_stay (i : Nat) (h : c.isContinuous = true → rowSum c i ≠ 0) : Red (stay c i) := by
  unfold stay
  split
  · rename_i q
    exact red_reduce _ (by have := h q; omega)
  · exact red_one
theorem val_stay (i : Nat) (h : rowSum c i ≠ 0) : val (stay c i) * sR c i = ((gainT c i : Int) : Rat) := by
  unfold stay gainT
  have s1 := sR_pos h
  split
  · rw [val_reduce _ (by omega)]
    show ((1 : Int) : Rat) / sR c i * sR c i = _
    grind
  · rw [val_one, Rat.intCast_natCast]
    show 1 * sR c i = sR c i
    grind
theorem gainsT_low (ok : COk c) {T : List Nat} : ∀ p, p < (surely c T).length → ((gainsT c T).getD p 0).natAbs < 2 ^ 24 := fun p hp => by
  have e : (gainsT c T).getD p 0 = gainT c ((surely c T).getD p 0) := getD_mapL hp
  rw [e]
  have h2 := rowSum_low ok ((surely c T).getD p 0)
  unfold gainT
  split <;> omega
theorem hittingTime_is (ok : COk c) {T : List Nat} (hT : SetOk c T) {i : Nat} (hi : i < size c) :
    hittingTime c T i = if i ∈ certain c T then some (valAt (surely c T) (solF (eqsR c (surely c T) (gainsT c T))) i) else none := by
  have lv := surely_leaves ok hT
  obtain ⟨sol, e, eq⟩ := hit_core ok (surely_nd T) surely_lt lv (gainsT_low ok) (r := stay c) (fun i hi => red_stay i fun _ => leaves_sum ok surely_lt lv hi) (fun p hp => by
    rw [val_stay _ (leaves_sum ok surely_lt lv (getD_mem hp))]
    have e : (gainsT c T).getD p 0 = gainT c ((surely c T).getD p 0) := getD_mapL hp
    rw [e])
  unfold hittingTime
  by_cases m : i ∈ T
  · have one_ : entry (hitting c T) i = one := by
      rw [hitting_is ok hT, entry_states hi, if_pos m]
    rw [if_pos (List.contains_iff_mem.mpr m), if_pos (certain_mem.mpr ⟨hi, one_⟩), valAt_out]
    exact fun z => (outside_mem.mp (surely_mem.mp z).1).2.1 m
  · rw [if_neg (fun z => m (List.contains_iff_mem.mp z))]
    by_cases o : entry (hitting c T) i = one
    · rw [if_neg (fun z => z o), if_pos (certain_mem.mpr ⟨hi, o⟩)]
      have e' : Lrx1.solve (((outside c T).filter fun k => entry (hitting c T) k == one).map fun k => (((outside c T).filter fun k => entry (hitting c T) k == one).map fun j => sub (if k = j then one else zero) (jump c k j)) ++ [stay c k]) = some sol := e
      dsimp only
      rw [e']
      have im : i ∈ surely c T := by
        rw [← surely_is ok hT, List.mem_filter]
        exact ⟨certain_mem.mpr ⟨hi, o⟩, by simp [m]⟩
      obtain ⟨q, hq, eq2⟩ := mem_getD im
      have f : ((surely c T).findIdx? fun j => j == i) = some q := by rw [← eq2]; exact findIdx_at (surely_nd T) hq
      have f' : (((outside c T).filter fun k => entry (hitting c T) k == one).findIdx? fun j => j == i) = some q := f
      rw [f', ← eq2, valAt_at (surely_nd T) _ hq, ← eq q hq]
      rfl
    · rw [if_pos o, if_neg (fun z => o (certain_mem.mp z).2)]

/-! watched chains -/
def gainsW (c : Chain) (T : List Nat) (j : Nat) : List Int := (outside c T).map fun i => (weight c i j : Int)
theorem gainsW_low (ok : COk c) {T : List Nat} (j : Nat) : ∀ p, p < (outside c T).length → ((gainsW c T j).getD p 0).natAbs < 2 ^ 24 := fun p hp => by
  have e : (gainsW c T j).getD p 0 = (weight c ((outside c T).getD p 0) j : Int) := getD_mapL hp
  rw [e]
  have := ok.low ((outside c T).getD p 0) j
  omega
/-- the probability that j is the first, by the program -/
def firstF (c : Chain) (T : List Nat) (j k : Nat) : Fraction := valAt (outside c T) (solF (eqsR c (outside c T) (gainsW c T j))) k
theorem red_solF (ok : COk c) {L : List Nat} (hn : L.Nodup) (hl : ∀ x ∈ L, x < size c) (lv : Leaves c L) {gains : List Int} (hg : ∀ p, p < L.length → (gains.getD p 0).natAbs < 2 ^ 24) (p : Nat) : Red (solF (eqsR c L gains) p) :=
  red_reduce _ (solveI_ok (solR ok hn hl lv hg).1).pos
theorem red_firstF (ok : COk c) {T : List Nat} (hT : SetOk c T) (j k : Nat) : Red (firstF c T j k) :=
  red_valAt (outside_nd T) (fun q _ => red_solF ok (outside_nd T) outside_lt (outside_leaves ok hT.lt) (gainsW_low ok j) q) k
theorem LR_filter (f : Nat → Rat) (p : Nat → Bool) : ∀ l : List Nat, (∀ x ∈ l, p x = false → f x = 0) → LR f (l.filter p) = LR f l
  | [], _ => rfl
  | x :: l, h => by
    have ih := LR_filter f p l fun y hy => h y (List.mem_cons_of_mem _ hy)
    cases e : p x with
    | true => rw [List.filter_cons_of_pos e, LR, LR, ih]
    | false =>
      rw [List.filter_cons_of_neg (by rw [e]; decide), LR, ih, h x (List.mem_cons_self ..) e]
      grind
theorem watched_is (ok : COk c) {T : List Nat} (hT : SetOk c T) (i j : Nat) :
    watched c T i j = add (jump c i j) (sum ((states c).map fun k => mul (jump c i k) (firstF c T j k))) := by
  have lv := outside_leaves ok hT.lt
  obtain ⟨sol, e, eq⟩ := hit_core ok (outside_nd T) outside_lt lv (gainsW_low ok j) (r := fun k => jump c k j) (fun i _ => red_jump ok i j) (fun p hp => by
    have s0 := leaves_sum ok outside_lt lv (getD_mem hp)
    have s1 := sR_pos s0
    have e : (gainsW c T j).getD p 0 = (weight c ((outside c T).getD p 0) j : Int) := getD_mapL hp
    rw [e, val_jump ok s0, Rat.intCast_natCast]
    unfold wR
    grind)
  have e' : Lrx1.solve ((outside c T).map fun k => ((outside c T).map fun l => sub (if k = l then one else zero) (jump c k l)) ++ [jump c k j]) = some sol := e
  have fi : ∀ k, (match (outside c T).findIdx? fun l => l == k with
      | none => zero
      | some at_ => sol.getD at_ zero) = firstF c T j k := fun k => valAt_congr (outside_nd T) (f := fun q => sol.getD q zero) (fun q hq => eq q hq) k
  unfold watched
  dsimp only
  rw [e']
  simp only [Option.getD_some]
  refine (congrArg (fun z => add (jump c i j) (sum z)) (List.map_congr_left (g := fun k => mul (jump c i k) (firstF c T j k)) fun k _ => congrArg (mul (jump c i k)) (fi k))).trans ?_
  show add (jump c i j) _ = _
  have rm : ∀ k, Red (mul (jump c i k) (firstF c T j k)) := fun k => red_mul (red_jump ok i k).pos (red_firstF ok hT j k).pos
  congr 1
  refine red_ext (sum_map _ fun x _ => rm x).1 (sum_map _ fun x _ => rm x).1 ?_
  rw [(sum_map _ fun x _ => rm x).2, (sum_map _ fun x _ => rm x).2]
  refine LR_filter _ _ _ fun x _ hx => ?_
  have xm : x ∈ T := by simpa using hx
  have z : firstF c T j x = zero := valAt_out _ fun z => (outside_mem.mp z).2.1 xm
  rw [val_mul (red_jump ok i x).pos (red_firstF ok hT j x).pos, z, val_zero]
  grind

/-! visits: the way back isn't certain -/
def backF (c : Chain) (j : Nat) : Fraction := sum ((states c).map fun k => mul (jump c j k) (entry (hitting c [j]) k))
theorem setOne {j : Nat} (hj : j < size c) : SetOk c [j] := ⟨by simp, fun x hx => by simp at hx; omega⟩
theorem red_backF (ok : COk c) {j : Nat} (hj : j < size c) : Red (backF c j) :=
  (sum_map (states c) fun x hx => red_mul (red_jump ok j x).pos (red_hit ok (setOne hj) (List.mem_range.mp hx)).pos).1
theorem val_backF (ok : COk c) {j : Nat} (hj : j < size c) (h : rowSum c j ≠ 0) : val (backF c j) * sR c j = S (size c) (fun k => wR c j k * hR c [j] k) := by
  unfold backF
  rw [(sum_map (states c) fun x hx => red_mul (red_jump ok j x).pos (red_hit ok (setOne hj) (List.mem_range.mp hx)).pos).2, LR_mem (n := size c) (l := states c) List.nodup_range (fun x hx => List.mem_range.mp hx)]
  have s1 := sR_pos h
  rw [S_congr (g := fun k => (1 / sR c j) * (wR c j k * hR c [j] k)) (fun k hk => by
    rw [if_pos (show k ∈ states c from List.mem_range.mpr hk), val_mul (red_jump ok j k).pos (red_hit ok (setOne hj) hk).pos, val_jump ok h]
    unfold hR
    grind), S_mul]
  grind
theorem closed_iff (ok : COk c) {i : Nat} (hi : i < size c) : isClosed c i = true ↔ ∀ j, j < size c → reaches c i j = true → reaches c j i = true := by
  unfold isClosed
  rw [List.all_eq_true]
  constructor
  · intro h j hj r
    refine h j ?_
    unfold reaches at r
    exact List.contains_iff_mem.mp r
  · intro h j hj
    have r : reaches c i j = true := List.contains_iff_mem.mpr hj
    have hj' : j < size c := by
      unfold reachable at hj
      exact RF_lt hi hj
    exact h j hj' r
theorem back_lt (ok : COk c) {j : Nat} (hj : j < size c) (hc : isClosed c j = false) : val (backF c j) < 1 := by
  -- a state that is reached and doesn't reach back
  have ex : ∃ k, k < size c ∧ reaches c j k = true ∧ reaches c k j = false := by
    refine Classical.byContradiction fun z => ?_
    have : isClosed c j = true := (closed_iff ok hj).mpr fun k hk r => by
      cases e : reaches c k j with
      | true => rfl
      | false => exact absurd ⟨k, hk, r, e⟩ z
    rw [hc] at this; cases this
  obtain ⟨k, hk, r1, r2⟩ := ex
  have kj : k ≠ j := fun e => by rw [e, reaches_refl ok hj] at r2; cases r2
  obtain ⟨x, hx⟩ := (reaches_iff ok hj hk).mp r1
  have s0 : rowSum c j ≠ 0 := sum_of_leaves ok hj (P := fun y => y ≠ j) ⟨x, k, hx, kj⟩ (fun h => h rfl)
  have s1 := sR_pos s0
  have vb := val_backF ok hj s0
  have so := setOne (c := c) hj
  have le : ∀ k, k < size c → wR c j k * hR c [j] k ≤ wR c j k := fun k hk => by
    have h1 := Rat.mul_le_mul_of_nonneg_left (hR_le ok so hk) (wR_nonneg c j k)
    rw [Rat.mul_one] at h1
    exact h1
  have tot := S_le le
  have tot : S (size c) (fun k => wR c j k * hR c [j] k) ≤ S (size c) (wR c j) := tot
  rw [← sR_eq ok, ← vb] at tot
  have sn : 0 ≤ sR c j := by rw [sR_eq ok]; exact S_nonneg fun i _ => wR_nonneg c j i
  have sp : 0 < sR c j := by grind
  refine Classical.byContradiction fun ge => ?_
  have ge1 : 1 ≤ val (backF c j) := by grind
  have ge2 := Rat.mul_le_mul_of_nonneg_right ge1 sn
  have eq : S (size c) (fun k => wR c j k * hR c [j] k) = S (size c) (wR c j) := by
    rw [← vb, ← sR_eq ok]; grind
  have t := S_tight (g := wR c j) le eq
  -- all states on the way have the hitting probability 1
  have step : ∀ m y, (m < size c ∧ hR c [j] m = 1) → y < size c → 0 < weight c m y → (y < size c ∧ hR c [j] y = 1) := fun m y ⟨hm, h1⟩ hy hw => by
    refine ⟨hy, ?_⟩
    have wp : wR c m y ≠ 0 := natPos_ne hw
    have tm : wR c m y * hR c [j] y = wR c m y := by
      by_cases e : m = j
      · rw [e]; exact t y hy
      · have ms : m ∈ outside c [j] := by
          refine Classical.byContradiction fun z => ?_
          have := hR_out ok so hm (by simp [e]) z
          unfold hR at h1
          rw [this, val_zero] at h1
          grind
        have e1 := hR_eq ok so ms
        rw [h1] at e1
        have le' : ∀ k, k < size c → wR c m k * hR c [j] k ≤ wR c m k := fun k hk => by
          have h1 := Rat.mul_le_mul_of_nonneg_left (hR_le ok so hk) (wR_nonneg c m k)
          rw [Rat.mul_one] at h1
          exact h1
        refine S_tight (g := wR c m) le' ?_ y hy
        rw [← sR_eq ok, ← e1]; grind
    grind
  have z := RF_closed (P := fun y => y < size c ∧ hR c [j] y = 1) ⟨hj, hR_in ok so (by simp)⟩ step hx
  have out : k ∉ outside c [j] := fun h => by
    have := (outside_mem.mp h).2.2
    unfold canReach at this
    rw [List.any_eq_true] at this
    obtain ⟨y, hy, r⟩ := this
    simp at hy
    rw [hy, r2] at r; cases r
  have h0 := hR_out ok so hk (by simp [kj]) out
  have := z.2
  unfold hR at this
  rw [h0, val_zero] at this
  grind
theorem back_num (ok : COk c) {j : Nat} (hj : j < size c) (hc : isClosed c j = false) : 0 < (sub one (backF c j)).num := by
  have rb := red_backF ok hj
  have v := val_sub red_one.pos rb.pos
  have l := back_lt ok hj hc
  rw [val_one] at v
  have rs := red_sub red_one.pos rb.pos
  have p : 0 < val (sub one (backF c j)) := by grind
  exact num_pos_of rs p
where
  num_pos_of {f : Fraction} (h : Red f) (p : 0 < val f) : 0 < f.num := by
    refine Classical.byContradiction fun z => ?_
    have h1 : f.num ≤ 0 := by omega
    have h2 : (f.num : Rat) ≤ 0 := by
      have := Rat.intCast_le_intCast.mpr h1
      simpa using this
    have h3 : (0 : Rat) < ((f.den : Nat) : Rat) := by
      have : ((0 : Nat) : Rat) < ((f.den : Nat) : Rat) := by exact_mod_cast h.pos
      simpa using this
    unfold val at p
    have e : (f.num : Rat) = (f.num : Rat) / ((f.den : Nat) : Rat) * ((f.den : Nat) : Rat) := by grind
    have := Rat.mul_pos p h3
    grind
end
end EC
/-! ## EcStat -/
namespace EC
open Lrx1
section
variable {c : Chain}

/-! classes -/
theorem class_mem {i j : Nat} : j ∈ classOf c i ↔ j < size c ∧ reaches c i j = true ∧ reaches c j i = true := by
  unfold classOf states
  rw [List.mem_filter, List.mem_range, Bool.and_eq_true]
theorem class_nd (i : Nat) : (classOf c i).Nodup := List.nodup_range.sublist List.filter_sublist
theorem class_lt {i : Nat} : ∀ x ∈ classOf c i, x < size c := fun x hx => (class_mem.mp hx).1
theorem class_self (ok : COk c) {i : Nat} (hi : i < size c) : i ∈ classOf c i := class_mem.mpr ⟨hi, reaches_refl ok hi, reaches_refl ok hi⟩
theorem class_set (i : Nat) : SetOk c (classOf c i) := ⟨class_nd i, class_lt⟩
/-- a closed class: f its first state, o the others -/
structure CC (c : Chain) (f : Nat) (o : List Nat) : Prop where
  nd : (f :: o).Nodup
  lt : ∀ x ∈ f :: o, x < size c
  cl : ∀ x ∈ f :: o, ∀ y, y < size c → 0 < weight c x y → y ∈ f :: o
  co : ∀ x ∈ f :: o, ∀ y ∈ f :: o, reaches c x y = true
theorem class_CC (ok : COk c) {i : Nat} (hi : i < size c) (h : isClosed c i = true) : ∃ f o, classOf c i = f :: o ∧ CC c f o := by
  cases e : classOf c i with
  | nil => have := class_self ok hi; rw [e] at this; cases this
  | cons f o =>
    refine ⟨f, o, rfl, by rw [← e]; exact class_nd i, by rw [← e]; exact class_lt, ?_, ?_⟩
    · rw [← e]
      intro x hx y hy hw
      obtain ⟨h1, h2, h3⟩ := class_mem.mp hx
      have r := reaches_trans ok hi h1 hy h2 (reaches_step ok h1 hy hw)
      exact class_mem.mpr ⟨hy, r, (closed_iff ok hi).mp h y hy r⟩
    · rw [← e]
      intro x hx y hy
      obtain ⟨h1, h2, h3⟩ := class_mem.mp hx
      obtain ⟨g1, g2, g3⟩ := class_mem.mp hy
      exact reaches_trans ok h1 hi g1 h3 g2
def gainsS (c : Chain) (f : Nat) (o : List Nat) : List Int := o.map fun j => (weight c f j : Int)
def yI (c : Chain) (f : Nat) (o : List Nat) : Nat → Int
  | 0 => (denI (eqsC c o (gainsS c f o)) : Int)
  | q + 1 => numI (eqsC c o (gainsS c f o)) q
def scl (c : Chain) (f : Nat) (o : List Nat) (q : Nat) : Nat := if c.isContinuous = true ∨ o = [] then 1 else rowSum c ((f :: o).getD q 0)
def xI (c : Chain) (f : Nat) (o : List Nat) (q : Nat) : Int := yI c f o q * (scl c f o q : Int)
def totI (c : Chain) (f : Nat) (o : List Nat) : Int := ((List.range (o.length + 1)).map (xI c f o)).sum
def statF (c : Chain) (f : Nat) (o : List Nat) (q : Nat) : Fraction := reduce (xI c f o q) (totI c f o).toNat
theorem gainsS_low (ok : COk c) (f : Nat) (o : List Nat) : ∀ p, p < o.length → ((gainsS c f o).getD p 0).natAbs < 2 ^ 24 := fun p hp => by
  have e : (gainsS c f o).getD p 0 = (weight c f (o.getD p 0) : Int) := getD_mapL hp
  rw [e]
  have := ok.low f (o.getD p 0)
  omega
theorem o_nd {f : Nat} {o : List Nat} (h : CC c f o) : o.Nodup := (List.nodup_cons.mp h.nd).2
theorem o_lt {f : Nat} {o : List Nat} (h : CC c f o) : ∀ x ∈ o, x < size c := fun x hx => h.lt x (List.mem_cons_of_mem _ hx)
theorem f_out {f : Nat} {o : List Nat} (h : CC c f o) : f ∉ o := (List.nodup_cons.mp h.nd).1
theorem o_leaves (ok : COk c) {f : Nat} {o : List Nat} (h : CC c f o) : Leaves c o := fun i hi => by
  obtain ⟨k, hk⟩ := (reaches_iff ok (o_lt h i hi) (h.lt f (List.mem_cons_self ..))).mp (h.co i (List.mem_cons_of_mem _ hi) f (List.mem_cons_self ..))
  exact ⟨k, f, hk, f_out h⟩
theorem hA_col {L : List Nat} (hn : L.Nodup) (hl : ∀ x ∈ L, x < size c) (x : Nat → Rat) {q : Nat} (hq : q < L.length) :
    S L.length (fun p => hA c L p q * x p) = sR c (L.getD q 0) * x q - S (size c) (fun j => wR c j (L.getD q 0) * atS L x j) := by
  rw [S_congr (g := fun p => (if p = q then sR c (L.getD q 0) * x q else 0) - wR c (L.getD p 0) (L.getD q 0) * x p) (fun p hp => by
    unfold hA
    by_cases e : p = q
    · subst e; simp only [if_true]; grind
    · rw [if_neg e, if_neg e]; grind), S_sub, S_one, if_pos hq, S_atS hn hl (fun i => wR c i (L.getD q 0)) x]
/-- a measure that is balanced at the others, and 0 elsewhere, is 0 -/
theorem bal_zero (ok : COk c) {f : Nat} {o : List Nat} (h : CC c f o) {W : Nat → Rat} (out : ∀ j, j < size c → j ∉ o → W j = 0) (bal : ∀ t ∈ o, S (size c) (fun j => wR c j t * W j) = sR c t * W t) : ∀ j, j < size c → W j = 0 := fun j hj => by
  by_cases m : j ∈ o
  · obtain ⟨q, hq, e⟩ := mem_getD m
    have z := triv_col ok (o_nd h) (o_lt h) (o_leaves ok h) (x := fun q => W (o.getD q 0)) (fun q hq => ?_) q hq
    · rw [← e]; exact z
    · rw [hA_col (o_nd h) (o_lt h) _ hq, S_congr (g := fun j => wR c j (o.getD q 0) * W j) (fun j hj => ?_), bal _ (getD_mem hq)]
      · grind
      · by_cases mj : j ∈ o
        · obtain ⟨q', hq', e'⟩ := mem_getD mj
          rw [← e', atS_at (o_nd h) _ hq']
        · rw [atS_out _ mj, out j hj mj]
  · exact out j hj m
def yR (c : Chain) (f : Nat) (o : List Nat) (q : Nat) : Rat := ((yI c f o q : Int) : Rat)
def YS (c : Chain) (f : Nat) (o : List Nat) : Nat → Rat := atS (f :: o) (yR c f o)
theorem YS_at {f : Nat} {o : List Nat} (h : CC c f o) {q : Nat} (hq : q < o.length + 1) : YS c f o ((f :: o).getD q 0) = yR c f o q := atS_at h.nd _ hq
theorem YS_out {f : Nat} {o : List Nat} {j : Nat} (hj : j ∉ f :: o) : YS c f o j = 0 := atS_out _ hj
theorem bal_o (ok : COk c) {f : Nat} {o : List Nat} (h : CC c f o) : ∀ t ∈ o, S (size c) (fun j => wR c j t * YS c f o j) = sR c t * YS c f o t := fun t ht => by
  obtain ⟨p, hp, e⟩ := mem_getD ht
  obtain ⟨so, m1, m2⟩ := solC ok (o_nd h) (o_lt h) (o_leaves ok h) (gainsS_low ok f o)
  have sv := solveI_ok so
  have z := sv.eq p hp
  rw [m2 p hp, S_congr (g := fun q => hA c o q p * ((numI (eqsC c o (gainsS c f o)) q : Int) : Rat)) (fun q hq => by rw [m1 p q hp hq])] at z
  have eg : (gainsS c f o).getD p 0 = (weight c f (o.getD p 0) : Int) := getD_mapL hp
  rw [eg, S_congr (g := fun q => (if q = p then sR c (o.getD p 0) * ((numI (eqsC c o (gainsS c f o)) p : Int) : Rat) else 0) - wR c (o.getD q 0) (o.getD p 0) * ((numI (eqsC c o (gainsS c f o)) q : Int) : Rat)) (fun q hq => by
    unfold hA
    by_cases e : q = p
    · subst e; simp only [if_true]; grind
    · rw [if_neg e, if_neg e]; grind), S_sub, S_one, if_pos hp, Rat.intCast_natCast] at z
  unfold YS
  rw [← S_atS h.nd h.lt (fun j => wR c j t) (yR c f o), List.length_cons, S_head, ← e]
  have e1 : atS (f :: o) (yR c f o) (o.getD p 0) = yR c f o (p + 1) := atS_at h.nd (yR c f o) (q := p + 1) (by simp; omega)
  rw [e1]
  have e2 : S o.length (fun t => wR c ((f :: o).getD (t + 1) 0) (o.getD p 0) * yR c f o (t + 1)) = S o.length (fun q => wR c (o.getD q 0) (o.getD p 0) * ((numI (eqsC c o (gainsS c f o)) q : Int) : Rat)) := S_congr fun q _ => rfl
  rw [e2]
  have e3 : yR c f o 0 = ((denI (eqsC c o (gainsS c f o)) : Nat) : Rat) := Rat.intCast_natCast _
  have e4 : yR c f o (p + 1) = ((numI (eqsC c o (gainsS c f o)) p : Int) : Rat) := rfl
  have e5 : (f :: o).getD 0 0 = f := rfl
  have e6 : (weight c f (o.getD p 0) : Rat) = wR c f (o.getD p 0) := rfl
  rw [e3, e4, e5]
  rw [e6] at z
  grind
theorem w_out {f : Nat} {o : List Nat} (h : CC c f o) {x t : Nat} (hx : x ∈ f :: o) (ht : t < size c) (m : t ∉ f :: o) : wR c x t = 0 := by
  have : weight c x t = 0 := Classical.byContradiction fun z => m (h.cl x hx t ht (by omega))
  unfold wR
  rw [this]; rfl
/-- sums over all states of what goes in, and of what goes out -/
theorem total_eq (ok : COk c) (Z : Nat → Rat) : S (size c) (fun t => sR c t * Z t) = S (size c) (fun t => S (size c) (fun j => wR c j t * Z j)) := by
  rw [S_swap (fun t j => wR c j t * Z j)]
  refine S_congr fun i hi => ?_
  rw [S_mul_right, sR_eq ok]
theorem bal_out {f : Nat} {o : List Nat} (h : CC c f o) {Z : Nat → Rat} (hz : ∀ j, j ∉ f :: o → Z j = 0) {t : Nat} (ht : t < size c) (m : t ∉ f :: o) : S (size c) (fun j => wR c j t * Z j) = sR c t * Z t := by
  rw [hz t m, S_all_zero fun j hj => ?_]
  · grind
  · by_cases mj : j ∈ f :: o
    · rw [w_out h mj ht m]; grind
    · rw [hz j mj]; grind
theorem bal_all (ok : COk c) {f : Nat} {o : List Nat} (h : CC c f o) : ∀ t, t < size c → S (size c) (fun j => wR c j t * YS c f o j) = sR c t * YS c f o t := by
  have hf : f < size c := h.lt f (List.mem_cons_self ..)
  have others : ∀ t, t < size c → t ≠ f → S (size c) (fun j => wR c j t * YS c f o j) = sR c t * YS c f o t := fun t ht ne => by
    by_cases m : t ∈ o
    · exact bal_o ok h t m
    · exact bal_out h (fun j hj => YS_out hj) ht (by simp [ne, m])
  intro t ht
  by_cases e : t = f
  · subst e
    have z := S_at (f := fun u => S (size c) (fun j => wR c j u * YS c t o j) - sR c u * YS c t o u) ht (fun u hu ne => by
      show _ - _ = (0 : Rat)
      rw [others u hu ne]; grind)
    rw [S_sub, ← total_eq ok] at z
    grind
  · exact others t ht e
theorem den_pos (ok : COk c) {f : Nat} {o : List Nat} (h : CC c f o) : 0 < denI (eqsC c o (gainsS c f o)) := (solveI_ok (solC ok (o_nd h) (o_lt h) (o_leaves ok h) (gainsS_low ok f o)).1).pos
theorem YS_f {f : Nat} {o : List Nat} (h : CC c f o) : YS c f o f = ((denI (eqsC c o (gainsS c f o)) : Nat) : Rat) := by
  have := YS_at h (q := 0) (by omega)
  rw [show (f :: o).getD 0 0 = f from rfl] at this
  rw [this]
  exact Rat.intCast_natCast _
theorem cast_pos {d : Nat} (h : 0 < d) : (0 : Rat) < (d : Rat) := by
  have : ((0 : Nat) : Rat) < (d : Rat) := by exact_mod_cast h
  simpa using this
theorem YS_nonneg (ok : COk c) {f : Nat} {o : List Nat} (h : CC c f o) : ∀ j, j < size c → 0 ≤ YS c f o j := by
  have bal := bal_all ok h
  have sn : ∀ j, 0 ≤ sR c j := fun j => by rw [sR_eq ok]; exact S_nonneg fun i _ => wR_nonneg c j i
  have le : ∀ t, t < size c → sR c t * ab (YS c f o t) ≤ S (size c) (fun j => wR c j t * ab (YS c f o j)) := fun t ht => by
    have h2 := S_ab (fun j => wR c j t * YS c f o j) (size c)
    rw [bal t ht] at h2
    have e1 : ab (sR c t * YS c f o t) = sR c t * ab (YS c f o t) := by
      rw [Rat.mul_comm, ab_mul (sn t)]; grind
    have e2 : S (size c) (fun i => ab (wR c i t * YS c f o i)) = S (size c) (fun j => wR c j t * ab (YS c f o j)) := S_congr fun i _ => by
      rw [Rat.mul_comm, ab_mul (wR_nonneg c i t)]; grind
    rw [e1, e2] at h2
    exact h2
  have eq := S_tight le (total_eq ok _)
  have hf : f < size c := h.lt f (List.mem_cons_self ..)
  have z := bal_zero ok h (W := fun j => ab (YS c f o j) - YS c f o j) (fun j hj m => ?_) (fun t ht => ?_)
  · intro j hj
    have := z j hj
    have := ab_nonneg (YS c f o j)
    grind
  · by_cases e : j = f
    · have := cast_pos (den_pos ok h)
      rw [e, YS_f h]
      unfold ab
      rw [if_neg (by grind)]; grind
    · rw [YS_out (by simp [e, m]), show ab 0 = 0 from by decide]; grind
  · have ht' := o_lt h t ht
    rw [S_congr (g := fun j => wR c j t * ab (YS c f o j) - wR c j t * YS c f o j) (fun j _ => by grind), S_sub, ← eq t ht', bal t ht']
    grind
theorem YS_pos (ok : COk c) {f : Nat} {o : List Nat} (h : CC c f o) : ∀ j ∈ f :: o, 0 < YS c f o j := fun j hj => by
  have hf : f < size c := h.lt f (List.mem_cons_self ..)
  obtain ⟨k, hk⟩ := (reaches_iff ok hf (h.lt j hj)).mp (h.co f (List.mem_cons_self ..) j hj)
  have nn := YS_nonneg ok h
  refine (RF_closed (P := fun j => j < size c ∧ 0 < YS c f o j) ⟨hf, by rw [YS_f h]; exact cast_pos (den_pos ok h)⟩ (fun m t ⟨hm, pm⟩ ht hw => ⟨ht, ?_⟩) hk).2
  have wp : 0 < wR c m t := cast_pos hw
  have b := bal_all ok h t ht
  have ne : YS c f o t ≠ 0 := fun e => by
    rw [e, Rat.mul_zero] at b
    have z := S_nil (f := fun j => wR c j t * YS c f o j) (fun j hj => Rat.mul_nonneg (wR_nonneg c j t) (nn j hj)) b m hm
    have := Rat.mul_pos wp pm
    have z' : wR c m t * YS c f o m = 0 := z
    grind
  have := nn t ht
  grind
theorem yI_pos (ok : COk c) {f : Nat} {o : List Nat} (h : CC c f o) {q : Nat} (hq : q < o.length + 1) : 0 < yI c f o q := by
  have hm : (f :: o).getD q 0 ∈ f :: o := getD_mem (by simpa using hq)
  have := YS_pos ok h _ hm
  rw [YS_at h hq] at this
  unfold yR at this
  exact_mod_cast this
theorem scl_pos (ok : COk c) {f : Nat} {o : List Nat} (h : CC c f o) {q : Nat} (hq : q < o.length + 1) : 0 < scl c f o q := by
  unfold scl
  split
  · omega
  · rename_i ne
    have hm : (f :: o).getD q 0 ∈ f :: o := getD_mem (by simpa using hq)
    -- another state of the class
    have ex : ∃ y, y ∈ f :: o ∧ y ≠ (f :: o).getD q 0 := by
      refine Classical.byContradiction fun z => ?_
      have all : ∀ y ∈ f :: o, y = (f :: o).getD q 0 := fun y hy => Classical.byContradiction fun n => z ⟨y, hy, n⟩
      cases o with
      | nil => exact ne (.inr rfl)
      | cons a r =>
        have e1 := all f (List.mem_cons_self ..)
        have e2 := all a (List.mem_cons_of_mem _ (List.mem_cons_self ..))
        exact f_out h (by rw [e1, ← e2]; exact List.mem_cons_self ..)
    obtain ⟨y, hy, n⟩ := ex
    obtain ⟨k, hk⟩ := (reaches_iff ok (h.lt _ hm) (h.lt y hy)).mp (h.co _ hm y hy)
    have := sum_of_leaves ok (h.lt _ hm) (P := fun z => z ≠ (f :: o).getD q 0) ⟨k, y, hk, n⟩ (fun z => z rfl)
    omega
theorem xI_pos (ok : COk c) {f : Nat} {o : List Nat} (h : CC c f o) {q : Nat} (hq : q < o.length + 1) : 0 < xI c f o q := by
  unfold xI
  exact Int.mul_pos (yI_pos ok h hq) (by have := scl_pos ok h hq; omega)
theorem sumI_S (f : Nat → Int) : ∀ n, ((((List.range n).map f).sum : Int) : Rat) = S n (fun j => ((f j : Int) : Rat))
  | 0 => rfl
  | n + 1 => by
    rw [List.range_succ, List.map_append, List.sum_append, S_succ, ← sumI_S f n]
    simp
theorem sumI_pos (f : Nat → Int) : ∀ n, (∀ j, j < n → 0 < f j) → 0 ≤ ((List.range n).map f).sum ∧ (0 < n → 0 < ((List.range n).map f).sum)
  | 0, _ => by simp
  | n + 1, h => by
    have h1 := (sumI_pos f n fun j hj => h j (by omega)).1
    have h2 := h n (by omega)
    rw [List.range_succ, List.map_append, List.sum_append]
    simp
    omega
theorem totI_pos (ok : COk c) {f : Nat} {o : List Nat} (h : CC c f o) : 0 < totI c f o := (sumI_pos _ _ fun j hj => xI_pos ok h hj).2 (by omega)
def totR (c : Chain) (f : Nat) (o : List Nat) : Rat := S (o.length + 1) (fun q => ((xI c f o q : Int) : Rat))
theorem totR_eq (ok : COk c) {f : Nat} {o : List Nat} (h : CC c f o) : (((totI c f o).toNat : Nat) : Rat) = totR c f o := by
  have : (((totI c f o).toNat : Nat) : Int) = totI c f o := Int.toNat_of_nonneg (by have := totI_pos ok h; omega)
  rw [← Rat.intCast_natCast, this]
  exact sumI_S _ _
theorem totR_pos (ok : COk c) {f : Nat} {o : List Nat} (h : CC c f o) : 0 < totR c f o := by
  rw [← totR_eq ok h]
  exact cast_pos (by have := totI_pos ok h; omega)
theorem statF_red (ok : COk c) {f : Nat} {o : List Nat} (h : CC c f o) (q : Nat) : Red (statF c f o q) := red_reduce _ (by have := totI_pos ok h; omega)
theorem statF_val (ok : COk c) {f : Nat} {o : List Nat} (h : CC c f o) (q : Nat) : val (statF c f o q) = ((xI c f o q : Int) : Rat) / totR c f o := by
  unfold statF
  rw [val_reduce _ (by have := totI_pos ok h; omega), totR_eq ok h]
theorem red_gen (ok : COk c) (i j : Nat) : Red (generator c i j) := by
  unfold generator
  split
  · split <;> exact red_whole _
  · exact red_sub (red_jump ok i j).pos (red_delta i j).pos
/-- the generator, scaled -/
theorem gen_scl (ok : COk c) {f : Nat} {o : List Nat} (h : CC c f o) {q : Nat} (hq : q < o.length + 1) (ho : o ≠ []) (t : Nat) :
    val (generator c ((f :: o).getD q 0) t) * (scl c f o q : Rat) = wR c ((f :: o).getD q 0) t - (if (f :: o).getD q 0 = t then sR c ((f :: o).getD q 0) else 0) := by
  have sp := scl_pos ok h hq
  unfold generator scl at *
  by_cases k : c.isContinuous = true
  · rw [if_pos k]
    rw [if_pos (Or.inl k)]
    by_cases e : (f :: o).getD q 0 = t
    · rw [if_pos e, if_pos e, val_whole]
      have : wR c ((f :: o).getD q 0) t = 0 := by
        unfold wR
        rw [← e, ok.diag k]; rfl
      rw [this, Rat.intCast_neg, Rat.intCast_natCast]
      unfold sR
      grind
    · rw [if_neg e, if_neg e, val_whole, Rat.intCast_natCast]
      unfold wR
      grind
  · have n : ¬ (c.isContinuous = true ∨ o = []) := fun z => z.elim k ho
    rw [if_neg k]
    rw [if_neg n] at sp ⊢
    have s0 : rowSum c ((f :: o).getD q 0) ≠ 0 := by omega
    have s1 := sR_pos s0
    rw [val_sub (red_jump ok _ _).pos (red_delta _ _).pos, val_delta, val_jump ok s0]
    show _ * sR c ((f :: o).getD q 0) = _
    split <;> grind
/-- a measure on the members, scaled, meets the generator's equations as it is balanced -/
theorem gen_sum (ok : COk c) {f : Nat} {o : List Nat} (h : CC c f o) (ho : o ≠ []) (u : Nat → Rat) {p : Nat} (hp : p < o.length + 1) :
    S (o.length + 1) (fun q => val (generator c ((f :: o).getD q 0) ((f :: o).getD p 0)) * ((scl c f o q : Rat) * u q)) =
      S (size c) (fun j => wR c j ((f :: o).getD p 0) * atS (f :: o) u j) - sR c ((f :: o).getD p 0) * u p := by
  rw [S_congr (g := fun q => wR c ((f :: o).getD q 0) ((f :: o).getD p 0) * u q - (if q = p then sR c ((f :: o).getD p 0) * u p else 0)) (fun q hq => ?_), S_sub, S_one, if_pos hp]
  · have := S_atS h.nd h.lt (fun j => wR c j ((f :: o).getD p 0)) u
    rw [List.length_cons] at this
    rw [this]
  · have g := gen_scl ok h hq ho ((f :: o).getD p 0)
    by_cases e : q = p
    · subst e; simp only [if_true] at g ⊢; grind
    · rw [if_neg e]
      rw [if_neg (fun z => e (getD_inj h.nd (by simpa using hq) (by simpa using hp) z))] at g
      grind
/-- the stationary distribution of the specification is the program's -/
theorem stationary_is (ok : COk c) {f : Nat} {o : List Nat} (h : CC c f o) : stationaryOf c (f :: o) = (states c).map (valAt (f :: o) (statF c f o)) := by
  have ln : (f :: o).length = o.length + 1 := rfl
  have head : ∀ p, p < o.length + 1 → (((f :: o).head? == some ((f :: o).getD p 0)) = true ↔ p = 0) := fun p hp => by
    cases p with
    | zero => simp
    | succ p =>
      simp only [List.head?_cons, beq_iff_eq, Option.some.injEq]
      constructor
      · intro e
        have hm : o.getD p 0 ∈ o := getD_mem (by omega)
        exact absurd (e ▸ hm) (f_out h)
      · intro e; omega
  let eqs : List Row := (f :: o).map fun j => if (f :: o).head? == some j then (f :: o).map (fun _ => one) ++ [one] else (f :: o).map (fun i => generator c i j) ++ [zero]
  have ge : ∀ p, p < o.length + 1 → eqs.getD p [] = if p = 0 then (f :: o).map (fun _ => one) ++ [one] else (f :: o).map (fun i => generator c i ((f :: o).getD p 0)) ++ [zero] := fun p hp => by
    have := getD_mapL (f := fun j => if (f :: o).head? == some j then (f :: o).map (fun _ => one) ++ [one] else (f :: o).map (fun i => generator c i j) ++ [zero]) (L := f :: o) (q := p) (d := []) (by simpa using hp)
    refine this.trans ?_
    by_cases e : p = 0
    · rw [if_pos ((head p hp).mpr e), if_pos e]
    · rw [if_neg (fun z => e ((head p hp).mp z)), if_neg e]
  have en0 : ∀ q, q < o.length + 1 → En eqs 0 q = 1 := fun q hq => by
    unfold En
    rw [ge 0 (by omega), if_pos rfl, entry_app_l (by simpa using hq), entry_mapL (f := fun _ => one) (by simpa using hq), val_one]
  have enp : ∀ p q, p < o.length + 1 → p ≠ 0 → q < o.length + 1 → En eqs p q = val (generator c ((f :: o).getD q 0) ((f :: o).getD p 0)) := fun p q hp p0 hq => by
    unfold En
    rw [ge p hp, if_neg p0, entry_app_l (by simpa using hq), entry_mapL (f := fun i => generator c i ((f :: o).getD p 0)) (by simpa using hq)]
  have rok : RowsOk (o.length + 1) eqs := by
    refine ⟨by simp [eqs], fun i hi => ?_, fun i j hi hj => ?_⟩
    · rw [ge i hi]; split <;> simp
    · rw [ge i hi]
      split
      · by_cases e : j = o.length + 1
        · rw [entry_app_r (by simp [e])]; exact red_one
        · rw [entry_app_l (by simp; omega), entry_mapL (f := fun _ => one) (by simp; omega)]; exact red_one
      · by_cases e : j = o.length + 1
        · rw [entry_app_r (by simp [e])]; exact red_zero
        · rw [entry_app_l (by simp; omega), entry_mapL (f := fun x => generator c x ((f :: o).getD i 0)) (by simp; omega)]; exact red_gen ok _ _
  have enL : ∀ p, p < o.length + 1 → En eqs p (o.length + 1) = if p = 0 then 1 else 0 := fun p hp => by
    unfold En
    rw [ge p hp]
    split
    · rw [entry_app_r (by simp), val_one]
    · rw [entry_app_r (by simp), val_zero]
  have tp := totR_pos ok h
  have d0 : ((denI (eqsC c o (gainsS c f o)) : Nat) : Rat) ≠ 0 := natPos_ne (den_pos ok h)
  have hxy : ∀ q, ((xI c f o q : Int) : Rat) = (scl c f o q : Rat) * yR c f o q := fun q => by
    unfold xI yR
    rw [Rat.intCast_mul, Rat.intCast_natCast]; grind
  have tr : Triv (o.length + 1) eqs := fun y hy y0 => by
    have r0 : S (o.length + 1) y = 0 := by
      have z := hy 0 (by omega)
      rw [S_succ, y0, S_congr (g := y) (fun q hq => by rw [en0 q hq]; grind)] at z
      grind
    by_cases ho : o = []
    · subst ho
      intro j hj
      have e : j = 0 := by simp at hj; omega
      subst e
      have z : S (0 + 1) y = 0 := r0
      rw [S_succ, S_zero] at z
      grind
    · have yu : ∀ q, q < o.length + 1 → y q = (scl c f o q : Rat) * (fun q => y q / (scl c f o q : Rat)) q := fun q hq => by
        have := natPos_ne (scl_pos ok h hq)
        grind
      generalize hu : (fun q => y q / (scl c f o q : Rat)) = u at yu
      have bu : ∀ p, p < o.length + 1 → p ≠ 0 → S (size c) (fun j => wR c j ((f :: o).getD p 0) * atS (f :: o) u j) = sR c ((f :: o).getD p 0) * u p := fun p hp p0 => by
        have z := hy p hp
        rw [S_succ, y0, S_congr (g := fun q => val (generator c ((f :: o).getD q 0) ((f :: o).getD p 0)) * ((scl c f o q : Rat) * u q)) (fun q hq => by rw [enp p q hp p0 hq, ← yu q hq]), gen_sum ok h ho u hp] at z
        grind
      have W := bal_zero ok h (W := fun j => atS (f :: o) u j - u 0 / ((denI (eqsC c o (gainsS c f o)) : Nat) : Rat) * YS c f o j) (fun j hj m => ?_) (fun t ht => ?_)
      · have uq : ∀ q, q < o.length + 1 → u q = u 0 / ((denI (eqsC c o (gainsS c f o)) : Nat) : Rat) * yR c f o q := fun q hq => by
          have z := W ((f :: o).getD q 0) (h.lt _ (getD_mem (by simpa using hq)))
          rw [YS_at h hq, atS_at h.nd u (by simpa using hq)] at z
          grind
        have z : u 0 / ((denI (eqsC c o (gainsS c f o)) : Nat) : Rat) * totR c f o = 0 := by
          unfold totR
          rw [← S_mul, ← r0]
          refine S_congr fun q hq => ?_
          rw [yu q hq, uq q hq, hxy q]; grind
        have r1 : u 0 / ((denI (eqsC c o (gainsS c f o)) : Nat) : Rat) = 0 := by grind
        intro q hq
        rw [yu q hq, uq q hq, r1]; grind
      · show atS (f :: o) u j - _ * YS c f o j = 0
        by_cases e : j = f
        · have := atS_at h.nd u (q := 0) (by simp)
          rw [show (f :: o).getD 0 0 = f from rfl] at this
          rw [e, YS_f h, this]; grind
        · rw [YS_out (by simp [e, m]), atS_out u (by simp [e, m])]; grind
      · obtain ⟨p, hp, e⟩ := mem_getD ht
        have e' : (f :: o).getD (p + 1) 0 = t := e
        have b1 := bu (p + 1) (by omega) (by omega)
        rw [e'] at b1
        have at1 := atS_at h.nd u (q := p + 1) (by simp; omega)
        rw [e'] at at1
        rw [S_congr (g := fun j => wR c j t * atS (f :: o) u j - u 0 / ((denI (eqsC c o (gainsS c f o)) : Nat) : Rat) * (wR c j t * YS c f o j)) (fun j _ => by grind), S_sub, S_mul, b1, bal_o ok h t ht, at1]
        grind
  obtain ⟨sol, e, len, red, eq⟩ := solve_ok rok tr
  have same : ∀ q, q < o.length + 1 → sol.getD q zero = statF c f o q := fun q hq => by
    refine red_ext (red q hq) (statF_red ok h q) ?_
    rw [statF_val ok h q]
    have z := tr (fun q => if q < o.length + 1 then val (sol.getD q zero) - ((xI c f o q : Int) : Rat) / totR c f o else 0) (fun p hp => ?_) (by rw [if_neg (by omega)]) q hq
    · simp only [hq, if_true] at z
      grind
    · rw [S_succ]
      simp only [Nat.lt_irrefl, if_false]
      rw [S_congr (g := fun q => En eqs p q * val (sol.getD q zero) - 1 / totR c f o * (En eqs p q * ((xI c f o q : Int) : Rat))) (fun q hq => by rw [if_pos hq]; grind), S_sub, S_mul, eq p hp, enL p hp]
      by_cases p0 : p = 0
      · rw [if_pos p0, p0, S_congr (g := fun q => ((xI c f o q : Int) : Rat)) (fun q hq => by rw [en0 q hq]; grind)]
        have : S (o.length + 1) (fun q => ((xI c f o q : Int) : Rat)) = totR c f o := rfl
        rw [this]; grind
      · have ho : o ≠ [] := fun z => by subst z; simp at hp; omega
        rw [if_neg p0, S_congr (g := fun q => val (generator c ((f :: o).getD q 0) ((f :: o).getD p 0)) * ((scl c f o q : Rat) * yR c f o q)) (fun q hq => by rw [enp p q hp p0 hq, hxy q]), gen_sum ok h ho _ hp]
        have b := bal_all ok h _ (h.lt _ (getD_mem (L := f :: o) (q := p) (by simpa using hp)))
        rw [YS_at h hp] at b
        have b' : S (size c) (fun j => wR c j ((f :: o).getD p 0) * atS (f :: o) (yR c f o) j) = sR c ((f :: o).getD p 0) * yR c f o p := b
        rw [b']; grind
  unfold stationaryOf
  dsimp only
  have e' : Lrx1.solve ((f :: o).map fun j => if (f :: o).head? == some j then (f :: o).map (fun _ => one) ++ [one] else (f :: o).map (fun i => generator c i j) ++ [zero]) = some sol := e
  rw [e']
  exact List.map_congr_left fun i _ => valAt_congr h.nd (f := fun k => sol.getD k zero) (fun q hq => same q (by simpa using hq)) i
end
end EC
/-! ## EcAdd -/
/-! sums over a common denominator; sizes -/
namespace EC
open Lrx1
def FrOk (n : Nat) (f : Fraction) : Prop := Red f ∧ f.num.natAbs < 2 ^ n ∧ f.den < 2 ^ n
theorem sum_vals (L : Nat) (hL : 0 < L) : ∀ fs : List Fraction, (∀ f ∈ fs, Red f ∧ f.den ∣ L) → (((fs.map fun f => f.num * ((L / f.den : Nat) : Int)).sum : Int) : Rat) = (fs.map val).foldr (· + ·) 0 * (L : Rat)
  | [], _ => by simp
  | f :: r, h => by
    obtain ⟨hr, q, hq⟩ := h f (List.mem_cons_self ..)
    have ih := sum_vals L hL r fun x hx => h x (List.mem_cons_of_mem _ hx)
    have d0 : 0 < f.den := hr.1
    have e : L / f.den = q := by rw [hq, Nat.mul_div_cancel_left _ d0]
    have nz : (f.den : Rat) ≠ 0 := natPos_ne d0
    rw [List.map_cons, List.map_cons, List.sum_cons, List.foldr_cons, Rat.intCast_add, ih, e, Rat.intCast_mul]
    rw [Rat.intCast_natCast]
    have hv : val f * (L : Rat) = (f.num : Rat) * ((q : Nat) : Rat) := by
      have e1 : (L : Rat) = (f.den : Rat) * (q : Rat) := by rw [hq, Rat.natCast_mul]
      rw [e1]
      unfold val
      grind
    rw [← hv, Rat.add_mul]
theorem added_is {L : Nat} (hL : 0 < L) {fs : List Fraction} (h : ∀ f ∈ fs, Red f ∧ f.den ∣ L) : reduce (fs.map fun f => f.num * ((L / f.den : Nat) : Int)).sum L = sum fs := by
  have z := fold_add fs zero red_zero fun f hf => (h f hf).1
  refine red_ext (red_reduce _ hL) z.1 ?_
  rw [val_reduce _ hL, show val (sum fs) = _ from z.2, sum_vals L hL fs h]
  have nz : (L : Rat) ≠ 0 := natPos_ne hL
  have v0 : val zero = 0 := by decide +kernel
  rw [v0]
  grind
theorem one_pos : 0 < one.den := by decide
theorem sub_one {f : Fraction} (h : Red f) : sub one f = ⟨(f.den : Int) - f.num, f.den⟩ := by
  have r : Red (⟨(f.den : Int) - f.num, f.den⟩ : Fraction) := ⟨h.pos, by
    have h1 : Int.gcd f.num (f.den : Int) = 1 := h.cop
    show Int.gcd ((f.den : Int) - f.num) (f.den : Int) = 1
    rw [← Int.neg_sub, Int.neg_gcd]
    simpa using h1⟩
  refine red_ext (red_sub one_pos h.pos) r ?_
  rw [val_sub one_pos h.pos, val_one]
  unfold val
  have nz : (f.den : Rat) ≠ 0 := natPos_ne h.pos
  show _ = (((f.den : Int) - f.num : Int) : Rat) / (f.den : Rat)
  rw [Rat.intCast_sub, Rat.intCast_natCast]
  grind
end EC
/-! ## EcGen -/
/-! chances, the generator, the greatest sum -/
namespace EC
open Lrx1
variable {c : Chain}
theorem frOk_mono {m n : Nat} (h : m ≤ n) {f : Fraction} (a : FrOk m f) : FrOk n f :=
  ⟨a.1, Nat.lt_of_lt_of_le a.2.1 (Nat.pow_le_pow_right (by decide) h), Nat.lt_of_lt_of_le a.2.2 (Nat.pow_le_pow_right (by decide) h)⟩
theorem frOk_reduce {m : Nat} {n : Int} {d : Nat} (hd : 0 < d) (h1 : n.natAbs < 2 ^ m) (h2 : d < 2 ^ m) : FrOk m (reduce n d) := by
  refine ⟨red_reduce n hd, ?_, ?_⟩
  · unfold reduce
    rw [if_neg (by omega)]
    refine Nat.lt_of_le_of_lt ?_ h1
    show (n / ((Nat.gcd n.natAbs d : Nat) : Int)).natAbs ≤ _
    exact Int.natAbs_ediv_le_natAbs n _
  · unfold reduce
    rw [if_neg (by omega)]
    exact Nat.lt_of_le_of_lt (Nat.div_le_self _ _) h2
theorem frOk_one {m : Nat} (h : 0 < m) : FrOk m one := ⟨red_one, Nat.one_lt_two_pow (by omega), Nat.one_lt_two_pow (by omega)⟩
theorem frOk_zero {m : Nat} (h : 0 < m) : FrOk m zero := ⟨red_zero, Nat.two_pow_pos m, Nat.one_lt_two_pow (by omega)⟩
/-- the chance of a jump into some states -/
def chanceF (c : Chain) (i : Nat) (L : List Nat) : Fraction := if rowSum c i = 0 then (if i ∈ L then one else zero) else reduce (((L.map (weight c i)).sum : Nat) : Int) (rowSum c i)
theorem chance_is (ok : COk c) {i : Nat} {L : List Nat} (hn : L.Nodup) (hl : ∀ x ∈ L, x < size c) : chanceF c i L = sum (L.map (jump c i)) := by
  obtain ⟨z1, z2⟩ := sum_map L fun x _ => red_jump ok i x
  unfold chanceF
  by_cases h : rowSum c i = 0
  · rw [if_pos h]
    refine red_ext (by split; exact red_one; exact red_zero) z1 ?_
    rw [z2, LR_congr (g := fun j => if i = j then (1 : Rat) else 0) fun x _ => val_jump0 h x]
    by_cases m : i ∈ L
    · rw [if_pos m, val_one]
      clear z1 z2
      induction L with
      | nil => cases m
      | cons x r ih =>
        obtain ⟨n1, n2⟩ := List.nodup_cons.mp hn
        show _ = (if i = x then (1 : Rat) else 0) + LR _ r
        rcases List.mem_cons.mp m with rfl | m
        · rw [if_pos rfl, show LR (fun j => if i = j then (1 : Rat) else 0) r = 0 from ?_]
          · grind
          · rw [LR_congr (g := fun j => (0 : Rat) * 0) fun x hx => by rw [if_neg (fun e : i = x => n1 (e ▸ hx))]; grind, LR_mul]
            grind
        · rw [if_neg (fun e : i = x => n1 (e ▸ m)), ← ih n2 (fun x hx => hl x (List.mem_cons_of_mem _ hx)) m]
          grind
    · rw [if_neg m, val_zero, LR_congr (g := fun j => (0 : Rat) * 0) fun x hx => by rw [if_neg (fun e : i = x => m (e ▸ hx))]; grind, LR_mul]
      grind
  · rw [if_neg h]
    refine red_ext (red_reduce _ (by omega)) z1 ?_
    rw [z2, val_reduce _ (by omega), Rat.intCast_natCast, LR_cast, LR_congr (f := fun j => val (jump c i j)) (g := fun j => (1 / sR c i) * (weight c i j : Rat)) fun x _ => by rw [val_jump ok h]; unfold wR; grind, LR_mul]
    unfold sR
    grind
theorem chance_one (ok : COk c) (i j : Nat) : chanceF c i [j] = jump c i j := by
  unfold chanceF jump
  by_cases h : rowSum c i = 0
  · rw [if_pos h, if_pos h]
    simp
  · rw [if_neg h, if_neg h]
    by_cases e : (c.isContinuous && i == j) = true
    · rw [if_pos e]
      have e' : c.isContinuous = true ∧ i = j := by simpa using e
      obtain ⟨e1, rfl⟩ := e'
      have w0 : weight c i i = 0 := by
        by_cases hi : i < size c
        · exact ok.diag e1 i
        · exact weight_out (by omega)
      simp only [List.map_cons, List.map_nil, List.sum_cons, List.sum_nil, w0]
      refine red_ext (red_reduce _ (by omega)) red_zero ?_
      rw [val_reduce _ (by omega), val_zero]
      simp only [Nat.add_zero, Int.natCast_zero, Rat.intCast_zero]
      grind
    · rw [if_neg e]
      simp
theorem sub_one2 {f : Fraction} (h : Red f) : sub f one = ⟨f.num - (f.den : Int), f.den⟩ := by
  have r : Red (⟨f.num - (f.den : Int), f.den⟩ : Fraction) := ⟨h.pos, by
    have h1 : Int.gcd f.num (f.den : Int) = 1 := h.cop
    show Int.gcd (f.num - (f.den : Int)) (f.den : Int) = 1
    simpa using h1⟩
  refine red_ext (red_sub h.pos one_pos) r ?_
  rw [val_sub h.pos one_pos, val_one]
  unfold val
  have nz : (f.den : Rat) ≠ 0 := natPos_ne h.pos
  show _ = ((f.num - (f.den : Int) : Int) : Rat) / (f.den : Rat)
  rw [Rat.intCast_sub, Rat.intCast_natCast]
  grind
theorem sub_zero {f : Fraction} (h : Red f) : sub f zero = f := by
  refine red_ext (red_sub h.pos (by decide)) h ?_
  rw [val_sub h.pos (by decide), val_zero]
  grind
theorem frOk_jump (ok : COk c) (i j : Nat) : FrOk 24 (jump c i j) := by
  unfold jump
  have r := rowSum_low ok i
  by_cases h : rowSum c i = 0
  · rw [if_pos h]
    split
    · exact frOk_one (by decide)
    · exact frOk_zero (by decide)
  · rw [if_neg h]
    split
    · exact frOk_zero (by decide)
    · refine frOk_reduce (by omega) ?_ (by omega)
      by_cases hi : i < size c
      · have : weight c i j ≤ 1000000 := ok.low i j
        omega
      · rw [weight_out (by omega)]; decide
theorem frOk_gen (ok : COk c) (i j : Nat) : FrOk 25 (generator c i j) := by
  unfold generator
  have r := rowSum_low ok i
  by_cases h : c.isContinuous = true
  · rw [if_pos h]
    split
    · refine ⟨red_whole _, ?_, Nat.one_lt_two_pow (by decide)⟩
      show (-(rowSum c i : Int)).natAbs < _
      omega
    · refine ⟨red_whole _, ?_, Nat.one_lt_two_pow (by decide)⟩
      have : weight c i j ≤ 1000000 := ok.low i j
      show ((weight c i j : Int)).natAbs < _
      omega
  · rw [if_neg h]
    have f := frOk_jump ok i j
    split
    · rw [sub_one2 f.1]
      obtain ⟨f0, f1, f2⟩ := f
      refine ⟨by rw [← sub_one2 f0]; exact red_sub f0.pos one_pos, ?_, by
        show (jump c i j).den < _
        omega⟩
      show ((jump c i j).num - ((jump c i j).den : Int)).natAbs < _
      omega
    · rw [sub_zero f.1]; exact frOk_mono (by decide) f
theorem foldl_max (f : Nat → Nat) : ∀ (l : List Nat) (a : Nat), (a ≤ l.foldl (fun (m i : Nat) => max m (f i)) a ∧ ∀ x ∈ l, f x ≤ l.foldl (fun (m i : Nat) => max m (f i)) a) ∧ (l.foldl (fun (m i : Nat) => max m (f i)) a = a ∨ ∃ x ∈ l, f x = l.foldl (fun (m i : Nat) => max m (f i)) a)
  | [], a => ⟨⟨Nat.le_refl a, fun x h => absurd h (List.not_mem_nil)⟩, .inl rfl⟩
  | y :: r, a => by
    obtain ⟨⟨h1, h2⟩, h3⟩ := foldl_max f r (max a (f y))
    refine ⟨⟨Nat.le_trans (Nat.le_max_left _ _) h1, fun x hx => ?_⟩, ?_⟩
    · rcases List.mem_cons.mp hx with rfl | hx
      · exact Nat.le_trans (Nat.le_max_right _ _) h1
      · exact h2 x hx
    · rcases h3 with h3 | ⟨x, hx, h3⟩
      · rcases Nat.le_total a (f y) with q | q
        · exact .inr ⟨y, List.mem_cons_self .., by show _ = r.foldl _ _; rw [h3]; omega⟩
        · exact .inl (by show r.foldl _ _ = a; rw [h3]; omega)
      · exact .inr ⟨x, List.mem_cons_of_mem _ hx, h3⟩
theorem greatest_ge (c : Chain) {i : Nat} (hi : i < size c) : rowSum c i ≤ greatestRate c := (foldl_max (rowSum c) (states c) 0).1.2 i (List.mem_range.mpr hi)
theorem greatest_mem (ok : COk c) : ∃ i, i < size c ∧ rowSum c i = greatestRate c := by
  rcases (foldl_max (rowSum c) (states c) 0).2 with h | ⟨i, hi, h⟩
  · refine ⟨0, ok.pos, ?_⟩
    have := greatest_ge c ok.pos
    have e : greatestRate c = 0 := h
    omega
  · exact ⟨i, List.mem_range.mp hi, h⟩
/-- the sums of all states, as the program makes them -/
theorem sums_are (ok : COk c) : c.weights.map (·.sum) = (states c).map (rowSum c) := by
  apply List.ext_getElem
  · simp [states, size]
  · intro i h1 h2
    have hi' : i < c.weights.length := by simpa using h1
    have hi : i < size c := hi'
    simp only [List.getElem_map, states, List.getElem_range]
    rw [rowSum_row ok hi]
    simp [List.getD_eq_getElem?_getD, hi']
theorem greatest_low (ok : COk c) : greatestRate c ≤ 8000000 := by
  obtain ⟨i, _, e⟩ := greatest_mem ok
  rw [← e]
  exact rowSum_low ok i
end EC
/-! ## EcClass -/
/-! classes -/
namespace EC
open Lrx1
variable {c : Chain}
theorem dist_some (ok : COk c) {i j : Nat} (hi : i < size c) (hj : j < size c) : (distance c i j).isSome = reaches c i j := by
  rw [Bool.eq_iff_iff, ← distance_some ok hi hj, Option.isSome_iff_exists]
/-- no transition leads out of the class -/
theorem closed_class (ok : COk c) {i : Nat} (hi : i < size c) : (∀ x ∈ classOf c i, ∀ j, j < size c → 0 < weight c x j → j ∈ classOf c i) ↔ isClosed c i = true := by
  rw [closed_iff ok hi]
  constructor
  · intro h j hj r
    obtain ⟨k, hk⟩ := (reaches_iff ok hi hj).mp r
    have := RF_closed (P := fun x => x ∈ classOf c i) (class_self ok hi) (fun m j hm hj hw => h m hm j hj hw) hk
    exact (class_mem.mp this).2.2
  · intro h x hx j hj hw
    obtain ⟨xl, r1, r2⟩ := class_mem.mp hx
    have r := reaches_trans ok hi xl hj r1 (reaches_step ok xl hj hw)
    exact class_mem.mpr ⟨hj, r, h j hj r⟩
theorem class_head (ok : COk c) {i : Nat} (hi : i < size c) : (classOf c i)[0]? = some ((classOf c i).headD 0) ∧ (classOf c i).headD 0 < size c := by
  have h := class_self ok hi
  have l := class_lt (c := c) (i := i)
  cases e : classOf c i with
  | nil => rw [e] at h; cases h
  | cons x r => exact ⟨rfl, l x (by rw [e]; exact List.mem_cons_self ..)⟩
theorem head_is (ok : COk c) {i : Nat} (hi : i < size c) : ((classOf c i).head? == some i) = decide ((classOf c i).headD 0 = i) := by
  have h := class_self ok hi
  cases e : classOf c i with
  | nil => rw [e] at h; cases h
  | cons x r =>
    rw [List.head?_cons, List.headD_cons]
    by_cases q : x = i
    · simp [q]
    · simp [q]
theorem classes_mem (ok : COk c) {i : Nat} : i ∈ classes c ↔ i < size c ∧ (classOf c i).headD 0 = i := by
  unfold classes
  rw [List.mem_filter]
  constructor
  · rintro ⟨h1, h2⟩
    have h1' := List.mem_range.mp h1
    rw [head_is ok h1'] at h2
    exact ⟨h1', of_decide_eq_true h2⟩
  · rintro ⟨h1, h2⟩
    exact ⟨List.mem_range.mpr h1, by rw [head_is ok h1]; exact decide_eq_true h2⟩
theorem closed_mem (ok : COk c) {i : Nat} : i ∈ closedClasses c ↔ i < size c ∧ (classOf c i).headD 0 = i ∧ isClosed c i = true := by
  unfold closedClasses
  rw [List.mem_filter, classes_mem ok, and_assoc]
theorem closed_filter (ok : COk c) : ((classes c).map (classOf c)).filter (fun L => isClosed c (L.headD 0)) = (closedClasses c).map (classOf c) := by
  rw [List.filter_map]
  unfold closedClasses
  congr 1
  apply List.filter_congr
  intro i hi
  show isClosed c ((classOf c i).headD 0) = _
  rw [((classes_mem ok).mp hi).2]
theorem class_len (i : Nat) : (classOf c i).length ≤ size c := nodup_le _ _ (class_nd i) class_lt
theorem classes_len : (classes c).length ≤ size c := nodup_le _ _ (List.nodup_range.sublist List.filter_sublist) fun x hx => List.mem_range.mp (List.mem_filter.mp hx).1
theorem closed_len : (closedClasses c).length ≤ size c := Nat.le_trans (List.length_filter_le _ _) classes_len
theorem level_at (ok : COk c) {i j : Nat} (hi : i < size c) (h : j ∈ classOf c i) : ∃ d : Nat, distance c i j = some d ∧ level c i j = (d : Int) := by
  obtain ⟨hj, r, _⟩ := class_mem.mp h
  obtain ⟨d, hd⟩ := (distance_some ok hi hj).mpr r
  exact ⟨d, hd, by unfold level; rw [hd]; rfl⟩
end EC
/-! ## EcStep -/
/-! distributions after some steps -/
namespace EC
open Lrx1
variable {c : Chain}
def prodN : List Nat → Nat
  | [] => 1
  | x :: r => x * prodN r
theorem dvd_prod {x : Nat} : ∀ {l : List Nat}, x ∈ l → x ∣ prodN l
  | y :: r, h => by
    rcases List.mem_cons.mp h with rfl | h
    · exact ⟨prodN r, rfl⟩
    · exact Nat.dvd_trans (dvd_prod h) ⟨y, by rw [prodN, Nat.mul_comm]⟩
theorem prod_pos : ∀ {l : List Nat}, (∀ x ∈ l, 0 < x) → 0 < prodN l
  | [], _ => Nat.one_pos
  | y :: r, h => Nat.mul_pos (h y (List.mem_cons_self ..)) (prod_pos fun x hx => h x (List.mem_cons_of_mem _ hx))
theorem prod_low {b : Nat} : ∀ {l : List Nat}, (∀ x ∈ l, x < 2 ^ b) → prodN l ≤ 2 ^ (b * l.length)
  | [], _ => by simp [prodN]
  | y :: r, h => by
    rw [prodN, List.length_cons, Nat.mul_succ, Nat.add_comm, Nat.pow_add]
    exact Nat.mul_le_mul (Nat.le_of_lt (h y (List.mem_cons_self ..))) (prod_low fun x hx => h x (List.mem_cons_of_mem _ hx))
theorem lcm_fold_dvd : ∀ (l : List Nat) (b D : Nat), b ∣ D → (∀ n ∈ l, n ∣ D) → l.foldl Nat.lcm b ∣ D
  | [], b, D, h, _ => h
  | x :: r, b, D, h, g => lcm_fold_dvd r (Nat.lcm b x) D (Nat.lcm_dvd h (g x (List.mem_cons_self ..))) fun n hn => g n (List.mem_cons_of_mem _ hn)
theorem dvd_lcm_fold : ∀ (l : List Nat) (b : Nat), b ∣ l.foldl Nat.lcm b ∧ ∀ n ∈ l, n ∣ l.foldl Nat.lcm b
  | [], b => ⟨Nat.dvd_refl b, fun n hn => absurd hn List.not_mem_nil⟩
  | m :: r, b => by
    obtain ⟨i1, i2⟩ := dvd_lcm_fold r (Nat.lcm b m)
    refine ⟨Nat.dvd_trans (Nat.dvd_lcm_left b m) i1, fun n hn => ?_⟩
    rcases List.mem_cons.mp hn with rfl | hn
    · exact Nat.dvd_trans (Nat.dvd_lcm_right b n) i1
    · exact i2 n hn
def sumsP (c : Chain) : List Nat := ((states c).map (rowSum c)).filter fun s => decide (0 < s)
def comS (c : Chain) : Nat := if c.isContinuous then greatestRate c else (sumsP c).foldl Nat.lcm 1
theorem sumsP_mem {x : Nat} : x ∈ sumsP c ↔ 0 < x ∧ ∃ i, i < size c ∧ rowSum c i = x := by
  unfold sumsP
  rw [List.mem_filter, List.mem_map]
  constructor
  · rintro ⟨⟨i, hi, e⟩, h⟩
    exact ⟨of_decide_eq_true h, i, List.mem_range.mp hi, e⟩
  · rintro ⟨h, i, hi, e⟩
    exact ⟨⟨i, List.mem_range.mpr hi, e⟩, decide_eq_true h⟩
theorem sumsP_len : (sumsP c).length ≤ size c := by
  refine Nat.le_trans (List.length_filter_le _ _) ?_
  simp [states]
theorem sumsP_low (ok : COk c) : ∀ x ∈ sumsP c, x < 2 ^ 23 := fun x hx => by
  obtain ⟨_, i, _, rfl⟩ := sumsP_mem.mp hx
  have := rowSum_low ok i
  omega
theorem sumsP_prod (ok : COk c) : prodN (sumsP c) < 2 ^ 192 := by
  refine Nat.lt_of_le_of_lt (prod_low (sumsP_low ok)) (Nat.pow_lt_pow_right (by decide) ?_)
  have h1 := sumsP_len (c := c)
  have h2 := ok.le
  have : 23 * (sumsP c).length ≤ 23 * 8 := Nat.mul_le_mul_left _ (by omega)
  omega
theorem com_dvd (hc : c.isContinuous = false) {i : Nat} (hi : i < size c) (h : rowSum c i ≠ 0) : rowSum c i ∣ comS c := by
  unfold comS
  rw [hc, if_neg Bool.false_ne_true]
  exact (dvd_lcm_fold _ 1).2 _ (sumsP_mem.mpr ⟨by omega, i, hi, rfl⟩)
theorem com_low (ok : COk c) : comS c < 2 ^ 192 := by
  unfold comS
  split
  · have := greatest_low ok
    exact Nat.lt_of_le_of_lt this (by decide)
  · refine Nat.lt_of_le_of_lt (Nat.le_of_dvd (prod_pos fun x hx => (sumsP_mem.mp hx).1) ?_) (sumsP_prod ok)
    exact lcm_fold_dvd _ 1 _ (Nat.one_dvd _) fun n hn => dvd_prod hn
theorem com_pos (h : c.isContinuous = true → greatestRate c ≠ 0) : 0 < comS c := by
  unfold comS
  split
  · have := h (by assumption); omega
  · refine Nat.pos_of_dvd_of_pos (lcm_fold_dvd _ 1 (prodN (sumsP c)) (Nat.one_dvd _) fun n hn => dvd_prod hn) (prod_pos fun x hx => (sumsP_mem.mp hx).1)
def facS (c : Chain) (i : Nat) : Nat := if c.isContinuous = false ∧ 0 < rowSum c i then comS c / rowSum c i else 1
def rowF (c : Chain) (i : Nat) : List Int := (c.weights.getD i []).map fun (w : Nat) => (w : Int) * (facS c i : Int)
def rowS (c : Chain) (i : Nat) : List Int := (rowF c i).set i ((rowF c i).getD i 0 + ((comS c : Int) - (rowF c i).sum))
theorem sum_mulI (f : Int) : ∀ l : List Nat, (l.map fun (w : Nat) => (w : Int) * f).sum = ((l.sum : Nat) : Int) * f
  | [] => by simp
  | x :: r => by
    rw [List.map_cons, List.sum_cons, List.sum_cons, sum_mulI f r, ← Int.add_mul]
    congr 1
theorem rowF_len (ok : COk c) {i : Nat} (hi : i < size c) : (rowF c i).length = size c := by unfold rowF; rw [List.length_map]; exact ok.row i hi
theorem rowF_get (ok : COk c) {i j : Nat} (hi : i < size c) (hj : j < size c) : (rowF c i).getD j 0 = (weight c i j : Int) * (facS c i : Int) := by
  unfold rowF weight
  have h := ok.row i hi
  generalize c.weights.getD i [] = l at h ⊢
  rw [List.getD_eq_getElem?_getD, List.getD_eq_getElem?_getD, List.getElem?_map, List.getElem?_eq_getElem (by omega)]
  rfl
theorem rowF_sum (ok : COk c) {i : Nat} (hi : i < size c) : (rowF c i).sum = (rowSum c i : Int) * (facS c i : Int) := by
  unfold rowF
  rw [sum_mulI, ← rowSum_row ok hi]
theorem rowS_len (ok : COk c) {i : Nat} (hi : i < size c) : (rowS c i).length = size c := by unfold rowS; rw [List.length_set]; exact rowF_len ok hi
def stepI (c : Chain) (i j : Nat) : Int := (weight c i j : Int) * (facS c i : Int) + if j = i then (comS c : Int) - (rowSum c i : Int) * (facS c i : Int) else 0
theorem rowS_get (ok : COk c) {i j : Nat} (hi : i < size c) (hj : j < size c) : (rowS c i).getD j 0 = stepI c i j := by
  unfold rowS stepI
  rw [getD_set (by rw [rowF_len ok hi]; exact hi)]
  by_cases h : j = i
  · subst h
    rw [if_pos rfl, if_pos rfl, rowF_get ok hi hi, rowF_sum ok hi]
  · rw [if_neg h, if_neg h, rowF_get ok hi hj, Int.add_zero]
theorem wle (ok : COk c) {i j : Nat} (hi : i < size c) (hj : j < size c) : weight c i j ≤ rowSum c i := by
  have h := sub_sum ok i (T := [j]) (by simp) (fun x hx => by simp at hx; omega)
  simpa using h
theorem step_low (ok : COk c) {i j : Nat} (hi : i < size c) (hj : j < size c) : 0 ≤ stepI c i j ∧ stepI c i j ≤ (comS c : Int) := by
  have w := wle ok hi hj
  unfold stepI facS
  by_cases hc : c.isContinuous = true
  · have e : ¬ (c.isContinuous = false ∧ 0 < rowSum c i) := by rw [hc]; simp
    rw [if_neg e]
    have g := greatest_ge c hi
    have ec : comS c = greatestRate c := by unfold comS; rw [if_pos hc]
    have d := ok.diag hc i
    by_cases h : j = i
    · subst h; rw [if_pos rfl, d, ec]; omega
    · rw [if_neg h, ec]; omega
  · have hc' : c.isContinuous = false := by simpa using hc
    by_cases h0 : 0 < rowSum c i
    · rw [if_pos ⟨hc', h0⟩]
      obtain ⟨k, hk⟩ := com_dvd hc' hi (by omega)
      have e : comS c / rowSum c i = k := by rw [hk, Nat.mul_div_cancel_left _ h0]
      rw [e]
      have e2 : (comS c : Int) = (rowSum c i : Int) * (k : Int) := by rw [hk, Int.natCast_mul]
      have m : (weight c i j : Int) * (k : Int) ≤ (rowSum c i : Int) * (k : Int) := by
        rw [← Int.natCast_mul, ← Int.natCast_mul]
        exact Int.ofNat_le.mpr (Nat.mul_le_mul_right k w)
      have p : 0 ≤ (weight c i j : Int) * (k : Int) := by rw [← Int.natCast_mul]; exact Int.natCast_nonneg _
      rw [e2]
      split <;> omega
    · rw [if_neg (fun z => h0 z.2)]
      split <;> omega
theorem val_step (ok : COk c) (hg : c.isContinuous = true → greatestRate c ≠ 0) {i j : Nat} (hi : i < size c) (hj : j < size c) :
    Red (stepMatrix c (greatestRate c) i j) ∧ val (stepMatrix c (greatestRate c) i j) * (comS c : Rat) = ((stepI c i j : Int) : Rat) := by
  unfold stepMatrix stepI facS
  by_cases hc : c.isContinuous = true
  · have e : ¬ (c.isContinuous = false ∧ 0 < rowSum c i) := by rw [hc]; simp
    rw [if_pos hc, if_neg e]
    have g0 := hg hc
    have ec : comS c = greatestRate c := by unfold comS; rw [if_pos hc]
    have nz : ((greatestRate c : Nat) : Rat) ≠ 0 := natPos_ne (by omega)
    have rg := red_gen ok i j
    have wn : (whole (greatestRate c : Int)).num ≠ 0 := by show (greatestRate c : Int) ≠ 0; omega
    have rd : Red (divide (generator c i j) (whole (greatestRate c : Int))) := red_divide rg.pos wn
    refine ⟨red_add (red_delta i j).pos rd.pos, ?_⟩
    rw [val_add (red_delta i j).pos rd.pos, val_delta, val_divide rg.pos Nat.one_pos wn, val_whole, ec, Rat.intCast_natCast]
    have d := ok.diag hc i
    unfold generator
    rw [if_pos hc]
    by_cases h : i = j
    · subst h
      rw [if_pos rfl, if_pos rfl, if_pos rfl, d, val_whole]
      simp only [Int.natCast_zero, Int.zero_mul, Int.zero_add, Int.natCast_one, Int.mul_one]
      rw [Rat.intCast_neg, Rat.intCast_sub, Rat.intCast_natCast, Rat.intCast_natCast]
      grind
    · rw [if_neg h, if_neg h, if_neg (fun e => h e.symm), val_whole]
      simp only [Int.natCast_one, Int.mul_one, Int.add_zero]
      rw [Rat.intCast_natCast]
      grind
  · have hc' : c.isContinuous = false := by simpa using hc
    rw [if_neg hc]
    refine ⟨red_jump ok i j, ?_⟩
    by_cases h0 : 0 < rowSum c i
    · rw [if_pos ⟨hc', h0⟩, val_jump ok (by omega)]
      obtain ⟨k, hk⟩ := com_dvd hc' hi (by omega)
      have e : comS c / rowSum c i = k := by rw [hk, Nat.mul_div_cancel_left _ h0]
      rw [e]
      have e2 : (comS c : Int) = (rowSum c i : Int) * (k : Int) := by rw [hk, Int.natCast_mul]
      have nz : sR c i ≠ 0 := sR_pos (by omega)
      rw [e2, Int.sub_self]
      have z : (if j = i then (0 : Int) else 0) = 0 := by split <;> rfl
      rw [z, Int.add_zero, Rat.intCast_mul, Rat.intCast_natCast, Rat.intCast_natCast, hk, Rat.natCast_mul]
      unfold wR sR at *
      grind
    · have r0 : rowSum c i = 0 := by omega
      rw [if_neg (fun z => h0 z.2), val_jump0 r0]
      have w0 : weight c i j = 0 := by have := wle ok hi hj; omega
      rw [w0, r0]
      simp only [Int.natCast_zero, Int.zero_mul, Int.zero_add, Int.sub_zero]
      by_cases h : i = j
      · rw [if_pos h, if_pos h.symm, Rat.intCast_natCast]; grind
      · rw [if_neg h, if_neg (fun e => h e.symm)]; grind

/-! the sums -/
def axs (ns : List Int) (rows : List (List Int)) (m : Nat) : List Int := ((ns.zip rows).take m).foldl (fun later p => List.zipWith (fun old w => old + p.1 * w) later p.2) (List.replicate ns.length 0)
def astep (ns : List Int) (rows : List (List Int)) : List Int := axs ns rows ns.length
structure Mx (n : Nat) (rows : List (List Int)) : Prop where
  len : rows.length = n
  row : ∀ i, i < n → (rows.getD i []).length = n
theorem axs_succ {n m : Nat} {ns : List Int} {rows : List (List Int)} (h : Mx n rows) (hl : ns.length = n) (hm : m < n) : axs ns rows (m + 1) = List.zipWith (fun old w => old + ns.getD m 0 * w) (axs ns rows m) (rows.getD m []) := by
  unfold axs
  have z : (ns.zip rows)[m]? = some (ns.getD m 0, rows.getD m []) := by
    rw [List.getElem?_zip_eq_some]
    constructor
    · show ns[m]? = some (ns.getD m 0)
      rw [List.getD_eq_getElem?_getD, List.getElem?_eq_getElem (by omega)]; rfl
    · show rows[m]? = some (rows.getD m [])
      rw [List.getD_eq_getElem?_getD, List.getElem?_eq_getElem (by rw [h.len]; exact hm)]; rfl
  rw [List.take_add_one, z, List.foldl_append]
  rfl
theorem axs_len {n : Nat} {ns : List Int} {rows : List (List Int)} (h : Mx n rows) (hl : ns.length = n) : ∀ m, m ≤ n → (axs ns rows m).length = n
  | 0, _ => by simp [axs, hl]
  | m + 1, hm => by
    rw [axs_succ h hl (by omega), List.length_zipWith, axs_len h hl m (by omega), h.row m (by omega), Nat.min_self]
theorem axs_get {n m j : Nat} {ns : List Int} {rows : List (List Int)} (h : Mx n rows) (hl : ns.length = n) (hm : m < n) (hj : j < n) : (axs ns rows (m + 1)).getD j 0 = (axs ns rows m).getD j 0 + ns.getD m 0 * (rows.getD m []).getD j 0 := by
  rw [axs_succ h hl hm, getD_zip (f := fun old w => old + ns.getD m 0 * w) (by rw [axs_len h hl m (by omega)]; exact hj) (by rw [h.row m hm]; exact hj)]
theorem axs_zero {ns : List Int} {rows : List (List Int)} (j : Nat) : (axs ns rows 0).getD j 0 = 0 := by
  unfold axs
  rw [List.take_zero, List.foldl_nil, List.getD_eq_getElem?_getD, List.getElem?_replicate]
  split <;> rfl
theorem axs_val {n j : Nat} {ns : List Int} {rows : List (List Int)} (h : Mx n rows) (hl : ns.length = n) (hj : j < n) : ∀ m, m ≤ n → (((axs ns rows m).getD j 0 : Int) : Rat) = S m (fun i => ((ns.getD i 0 : Int) : Rat) * (((rows.getD i []).getD j 0 : Int) : Rat))
  | 0, _ => by rw [axs_zero]; rfl
  | m + 1, hm => by
    rw [axs_get h hl (by omega) hj, Rat.intCast_add, Rat.intCast_mul, axs_val h hl hj m (by omega)]
    rfl
theorem axs_low {n j A C : Nat} {ns : List Int} {rows : List (List Int)} (h : Mx n rows) (hl : ns.length = n) (hj : j < n) (hA : ∀ i, i < n → (ns.getD i 0).natAbs ≤ A) (hC : ∀ i, i < n → ((rows.getD i []).getD j 0).natAbs ≤ C) : ∀ m, m ≤ n → ((axs ns rows m).getD j 0).natAbs ≤ m * (A * C)
  | 0, _ => by rw [axs_zero]; simp
  | m + 1, hm => by
    rw [axs_get h hl (by omega) hj]
    have ih := axs_low h hl hj hA hC m (by omega)
    have p : (ns.getD m 0 * (rows.getD m []).getD j 0).natAbs ≤ A * C := by
      rw [Int.natAbs_mul]
      exact Nat.mul_le_mul (hA m (by omega)) (hC m (by omega))
    have := Int.natAbs_add_le ((axs ns rows m).getD j 0) (ns.getD m 0 * (rows.getD m []).getD j 0)
    rw [Nat.succ_mul]
    omega
def rowsS (c : Chain) : List (List Int) := (states c).map (rowS c)
theorem rowsS_get {i : Nat} (hi : i < size c) : (rowsS c).getD i [] = rowS c i := getD_map_range hi
theorem mxS (ok : COk c) : Mx (size c) (rowsS c) := ⟨by simp [rowsS, states], fun i hi => by rw [rowsS_get hi]; exact rowS_len ok hi⟩
def numS (c : Chain) (start : List Nat) : Nat → List Int
  | 0 => start.map fun (w : Nat) => (w : Int)
  | k + 1 => astep (numS c start k) (rowsS c)
def StOk (c : Chain) (start : List Nat) : Prop := start.length = size c ∧ (∀ w ∈ start, w ≤ 1000000) ∧ 0 < start.sum
theorem numS_len (ok : COk c) {start : List Nat} (h : start.length = size c) : ∀ k, (numS c start k).length = size c
  | 0 => by simp [numS, h]
  | k + 1 => by
    have l := numS_len ok h k
    show (axs _ _ _).length = _
    exact axs_len (mxS ok) l _ (by omega)
theorem getD_mapI {l : List Nat} {j : Nat} (hj : j < l.length) : (l.map fun (w : Nat) => (w : Int)).getD j 0 = (l.getD j 0 : Nat) := by
  rw [List.getD_eq_getElem?_getD, List.getD_eq_getElem?_getD, List.getElem?_map, List.getElem?_eq_getElem hj]
  rfl
theorem numS_low (ok : COk c) {start : List Nat} (h : start.length = size c) (hw : ∀ w ∈ start, w ≤ 1000000) : ∀ k j, j < size c → ((numS c start k).getD j 0).natAbs < 2 ^ (24 + 195 * k)
  | 0, j, hj => by
    show ((start.map fun (w : Nat) => (w : Int)).getD j 0).natAbs < _
    rw [getD_mapI (by omega), Int.natAbs_natCast]
    have : start.getD j 0 ≤ 1000000 := by
      rw [List.getD_eq_getElem?_getD, List.getElem?_eq_getElem (by omega)]
      exact hw _ (List.getElem_mem _)
    omega
  | k + 1, j, hj => by
    have l := numS_len ok h k
    have z := axs_low (mxS ok) l hj (A := 2 ^ (24 + 195 * k)) (C := 2 ^ 192 - 1) (fun i hi => Nat.le_of_lt (numS_low ok h hw k i hi)) (fun i hi => by
      rw [rowsS_get hi, rowS_get ok hi hj]
      have s := step_low ok hi hj
      have cl := com_low ok
      omega) (size c) (Nat.le_refl _)
    show ((axs _ _ _).getD j 0).natAbs < _
    rw [l]
    refine Nat.lt_of_le_of_lt z ?_
    have e : 24 + 195 * (k + 1) = 3 + ((24 + 195 * k) + 192) := by omega
    rw [e]
    generalize 24 + 195 * k = N
    rw [Nat.pow_add 2 3, Nat.pow_add 2 N]
    have h8 := ok.le
    have p1 : 0 < 2 ^ N := Nat.two_pow_pos _
    have q : size c * (2 ^ N * (2 ^ 192 - 1)) ≤ 2 ^ 3 * (2 ^ N * (2 ^ 192 - 1)) := Nat.mul_le_mul_right _ h8
    refine Nat.lt_of_le_of_lt q (Nat.mul_lt_mul_of_pos_left (Nat.mul_lt_mul_of_pos_left (by decide) p1) (by decide))
theorem after_succ (rate : Nat) : ∀ (k : Nat) (d : List Fraction), afterSteps c rate (k + 1) d = advance c rate (afterSteps c rate k d)
  | 0, d => rfl
  | k + 1, d => by
    rw [afterSteps, after_succ rate k]
    rfl
theorem after_is (ok : COk c) (hg : c.isContinuous = true → greatestRate c ≠ 0) {start : List Nat} (h : start.length = size c) (hs : 0 < start.sum) (k : Nat) :
    afterSteps c (greatestRate c) k (start.map fun (w : Nat) => reduce (w : Int) start.sum) = (numS c start k).map fun n => reduce n (start.sum * comS c ^ k) := by
  have cp := com_pos hg
  induction k with
  | zero =>
    show start.map _ = (start.map _).map _
    rw [List.map_map]
    apply List.map_congr_left
    intro w _
    show reduce (w : Int) start.sum = reduce (w : Int) (start.sum * 1)
    rw [Nat.mul_one]
  | succ k ih =>
    rw [after_succ, ih]
    have l := numS_len ok h k
    have tp : 0 < start.sum * comS c ^ k := Nat.mul_pos hs (Nat.pow_pos cp)
    have tp' : 0 < start.sum * comS c ^ (k + 1) := Nat.mul_pos hs (Nat.pow_pos cp)
    have en : ∀ i, i < size c → entry ((numS c start k).map fun n => reduce n (start.sum * comS c ^ k)) i = reduce ((numS c start k).getD i 0) (start.sum * comS c ^ k) := fun i hi => by
      unfold entry
      rw [List.getD_eq_getElem?_getD, List.getD_eq_getElem?_getD, List.getElem?_map, List.getElem?_eq_getElem (by omega)]
      rfl
    have l2 := numS_len ok h (k + 1)
    apply List.ext_getElem
    · simp [advance, states, l2]
    · intro j h1 h2
      have hj : j < size c := by simpa [advance, states] using h1
      have e2 : (numS c start (k + 1))[j]'(by omega) = (numS c start (k + 1)).getD j 0 := by
        rw [List.getD_eq_getElem?_getD, List.getElem?_eq_getElem (by omega)]; rfl
      rw [List.getElem_map, e2]
      have gj : (advance c (greatestRate c) ((numS c start k).map fun n => reduce n (start.sum * comS c ^ k)))[j]'h1 = sum ((List.range (size c)).map fun i => mul (entry ((numS c start k).map fun n => reduce n (start.sum * comS c ^ k)) i) (stepMatrix c (greatestRate c) i j)) := by
        simp [advance, states]
      rw [gj]
      have rm : ∀ x ∈ List.range (size c), Red (mul (entry ((numS c start k).map fun n => reduce n (start.sum * comS c ^ k)) x) (stepMatrix c (greatestRate c) x j)) := fun x hx => by
        have hx' := List.mem_range.mp hx
        rw [en x hx']
        exact red_mul (red_reduce _ tp).pos (val_step ok hg hx' hj).1.pos
      obtain ⟨z1, z2⟩ := sum_map _ rm
      refine red_ext z1 (red_reduce _ tp') ?_
      rw [z2, val_reduce _ tp', LR_mem (n := size c) List.nodup_range (fun x hx => List.mem_range.mp hx)]
      have nz : ((start.sum * comS c ^ k : Nat) : Rat) ≠ 0 := natPos_ne tp
      have nc : ((comS c : Nat) : Rat) ≠ 0 := natPos_ne cp
      have ax := axs_val (mxS ok) l hj (size c) (Nat.le_refl _)
      have en2 : (numS c start (k + 1)).getD j 0 = (axs (numS c start k) (rowsS c) (size c)).getD j 0 := by
        show (axs _ _ _).getD j 0 = _
        rw [l]
      rw [en2, ax, S_congr (g := fun i => (1 / ((start.sum * comS c ^ k : Nat) : Rat) / ((comS c : Nat) : Rat)) * (((numS c start k).getD i 0 : Int) * (((rowsS c).getD i []).getD j 0 : Int) : Rat)) (fun i hi => by
        rw [if_pos (List.mem_range.mpr hi), en i hi, val_mul (red_reduce _ tp).pos (val_step ok hg hi hj).1.pos, val_reduce _ tp, rowsS_get hi, rowS_get ok hi hj, ← (val_step ok hg hi hj).2]
        grind), S_mul]
      have e3 : ((start.sum * comS c ^ (k + 1) : Nat) : Rat) = ((start.sum * comS c ^ k : Nat) : Rat) * ((comS c : Nat) : Rat) := by
        rw [Nat.pow_succ, ← Nat.mul_assoc, Rat.natCast_mul]
      rw [e3]
      grind
end EC
/-! ## EcSize -/
/-! how great the fractions can be -/
namespace EC
open Lrx1
variable {c : Chain}
theorem den_dvd (n : Int) (d : Nat) : (reduce n d).den ∣ d := by
  unfold reduce
  split
  · exact Nat.one_dvd _
  · exact Nat.div_dvd_of_dvd (Nat.gcd_dvd_right _ _)
theorem two_mul {a b m n : Nat} (ha : a < 2 ^ m) (hb : b < 2 ^ n) : a * b < 2 ^ (m + n) := by
  rw [Nat.pow_add]
  exact Nat.mul_lt_mul'' ha hb
theorem mul_den_dvd (a b : Fraction) : (mul a b).den ∣ a.den * b.den := den_dvd _ _
theorem val_mul_den {f : Fraction} (h : Red f) : val f * (f.den : Rat) = (f.num : Rat) := by
  unfold val
  have nz : (f.den : Rat) ≠ 0 := natPos_ne h.pos
  grind
theorem num_nonneg {f : Fraction} (h : Red f) (h0 : 0 ≤ val f) : 0 ≤ f.num := by
  refine Classical.byContradiction fun z => ?_
  have h1 : f.num ≤ -1 := by omega
  have h2 : (f.num : Rat) ≤ ((-1 : Int) : Rat) := Rat.intCast_le_intCast.mpr h1
  have h3 := val_mul_den h
  have h4 : (0 : Rat) ≤ val f * (f.den : Rat) := Rat.mul_nonneg h0 (Rat.le_of_lt (cast_pos h.pos))
  rw [h3] at h4
  have : ((-1 : Int) : Rat) = -1 := by rfl
  rw [this] at h2
  grind
theorem num_le_den {f : Fraction} (h : Red f) (h1 : val f ≤ 1) : f.num ≤ (f.den : Int) := by
  have h3 := val_mul_den h
  have p := cast_pos h.pos
  have h4 : val f * (f.den : Rat) ≤ 1 * (f.den : Rat) := Rat.mul_le_mul_of_nonneg_right h1 (Rat.le_of_lt p)
  rw [h3, Rat.one_mul] at h4
  have : ((f.num : Int) : Rat) ≤ (((f.den : Nat) : Int) : Rat) := by rw [Rat.intCast_natCast]; exact h4
  exact Rat.intCast_le_intCast.mp this
theorem frOk_01 {f : Fraction} {B : Nat} (h : Red f) (h0 : 0 ≤ val f) (h1 : val f ≤ 1) (hd : f.den < 2 ^ B) : FrOk B f := by
  have a := num_nonneg h h0
  have b := num_le_den h h1
  exact ⟨h, by omega, hd⟩
theorem frOk_mul {m n : Nat} {a b : Fraction} (ha : FrOk m a) (hb : FrOk n b) : FrOk (m + n) (mul a b) := by
  refine frOk_reduce (Nat.mul_pos ha.1.pos hb.1.pos) ?_ ?_
  · rw [Int.natAbs_mul, Nat.pow_add]
    exact Nat.mul_lt_mul'' ha.2.1 hb.2.1
  · rw [Nat.pow_add]
    exact Nat.mul_lt_mul'' ha.2.2 hb.2.2
theorem out7 (ok : COk c) {T : List Nat} (hT : SetOk c T) (ht : T ≠ []) : (outside c T).length ≤ 7 := by
  cases T with
  | nil => exact absurd rfl ht
  | cons t r =>
    have n : (t :: outside c (t :: r)).Nodup := List.nodup_cons.mpr ⟨fun z => (outside_mem.mp z).2.1 (List.mem_cons_self ..), outside_nd _⟩
    have l := nodup_le (size c) _ n fun x hx => by
      rcases List.mem_cons.mp hx with rfl | hx
      · exact hT.lt _ (List.mem_cons_self ..)
      · exact outside_lt x hx
    have := ok.le
    rw [List.length_cons] at l
    omega
theorem bb_7 {n : Nat} (h : n ≤ 7) : 2 ^ bb n ≤ 2 ^ 3199 := Nat.pow_le_pow_right (by decide) (by rw [← bb7]; exact bb_mono h)
/-- the common denominator of what a system gives -/
theorem sol_dens (ok : COk c) {T : List Nat} (hT : SetOk c T) (ht : T ≠ []) {gains : List Int} (hg : ∀ p, p < (outside c T).length → (gains.getD p 0).natAbs < 2 ^ 24) :
    ∃ D, 0 < D ∧ D < 2 ^ 3199 ∧ ∀ i, (valAt (outside c T) (solF (eqsR c (outside c T) gains)) i).den ∣ D ∧ FrOk 3199 (valAt (outside c T) (solF (eqsR c (outside c T) gains)) i) := by
  have so := solveI_ok (solR ok (outside_nd T) outside_lt (outside_leaves ok hT.lt) hg).1
  have b7 := bb_7 (out7 ok hT ht)
  refine ⟨denI (eqsR c (outside c T) gains), so.pos, Nat.lt_of_lt_of_le so.dlow b7, fun i => ?_⟩
  by_cases m : i ∈ outside c T
  · obtain ⟨q, hq, e⟩ := mem_getD m
    rw [← e, valAt_at (outside_nd T) _ hq]
    exact ⟨den_dvd _ _, frOk_reduce so.pos (Nat.lt_of_lt_of_le (so.low q hq) b7) (Nat.lt_of_lt_of_le so.dlow b7)⟩
  · rw [valAt_out _ m]
    exact ⟨Nat.one_dvd _, frOk_zero (by decide)⟩
theorem hit_dens (ok : COk c) {T : List Nat} (hT : SetOk c T) (ht : T ≠ []) : ∃ D, 0 < D ∧ D < 2 ^ 3199 ∧ ∀ i, i < size c → (entry (hitting c T) i).den ∣ D ∧ FrOk 3199 (entry (hitting c T) i) := by
  obtain ⟨D, h1, h2, h3⟩ := sol_dens ok hT ht (gainsH_low ok hT)
  refine ⟨D, h1, h2, fun i hi => ?_⟩
  rw [hitting_is ok hT, entry_states hi]
  split
  · exact ⟨Nat.one_dvd _, frOk_one (by decide)⟩
  · exact h3 i
theorem first_dens (ok : COk c) {T : List Nat} (hT : SetOk c T) (ht : T ≠ []) (j : Nat) : ∃ D, 0 < D ∧ D < 2 ^ 3199 ∧ ∀ i, (firstF c T j i).den ∣ D ∧ FrOk 3199 (firstF c T j i) :=
  sol_dens ok hT ht (gainsW_low ok j)
theorem jump_dvd (c : Chain) (i j : Nat) : (jump c i j).den ∣ (if rowSum c i = 0 then 1 else rowSum c i) := by
  unfold jump
  split
  · split <;> exact Nat.dvd_refl _
  · split
    · exact Nat.one_dvd _
    · exact den_dvd _ _
theorem js_low (ok : COk c) (i : Nat) : 0 < (if rowSum c i = 0 then 1 else rowSum c i) ∧ (if rowSum c i = 0 then 1 else rowSum c i) < 2 ^ 24 := by
  have := rowSum_low ok i
  split <;> omega
theorem val_jump_nonneg (ok : COk c) (i j : Nat) : 0 ≤ val (jump c i j) := by
  by_cases h : rowSum c i = 0
  · rw [val_jump0 h]; split <;> decide
  · rw [val_jump ok h]
    have h1 := wR_nonneg c i j
    have h2 : (0 : Rat) < sR c i := cast_pos (by omega)
    rw [Rat.div_def]
    exact Rat.mul_nonneg h1 (Rat.le_of_lt (Rat.inv_pos.mpr h2))
/-- the terms of the way back -/
theorem back_dens (ok : COk c) {j : Nat} (hj : j < size c) : ∃ D, 0 < D ∧ D < 2 ^ 3223 ∧ ∀ k, k < size c → FrOk 3223 (mul (jump c j k) (entry (hitting c [j]) k)) ∧ (mul (jump c j k) (entry (hitting c [j]) k)).den ∣ D := by
  obtain ⟨D, h1, h2, h3⟩ := hit_dens ok (setOne hj) (by simp)
  obtain ⟨j1, j2⟩ := js_low ok j
  refine ⟨(if rowSum c j = 0 then 1 else rowSum c j) * D, Nat.mul_pos j1 h1, ?_, fun k hk => ⟨?_, ?_⟩⟩
  · exact Nat.lt_of_lt_of_le (two_mul j2 h2) (Nat.pow_le_pow_right (by decide) (by decide))
  · exact frOk_mul (frOk_jump ok j k) (h3 k hk).2
  · exact Nat.dvd_trans (mul_den_dvd _ _) (Nat.mul_dvd_mul (jump_dvd c j k) (h3 k hk).1)
theorem val_back_nonneg (ok : COk c) {j : Nat} (hj : j < size c) : 0 ≤ val (backF c j) := by
  unfold backF
  have rm : ∀ x ∈ states c, Red (mul (jump c j x) (entry (hitting c [j]) x)) := fun x hx => red_mul (red_jump ok j x).pos (red_hit ok (setOne hj) (List.mem_range.mp hx)).pos
  rw [(sum_map (states c) rm).2, LR_mem (n := size c) (l := states c) List.nodup_range (fun x hx => List.mem_range.mp hx)]
  refine S_nonneg fun k hk => ?_
  rw [if_pos (show k ∈ states c from List.mem_range.mpr hk), val_mul (red_jump ok j k).pos (red_hit ok (setOne hj) hk).pos]
  exact Rat.mul_nonneg (val_jump_nonneg ok j k) (hR_ge ok (setOne hj) hk)
theorem sum_den {fs : List Fraction} {D : Nat} (hD : 0 < D) (h : ∀ f ∈ fs, Red f ∧ f.den ∣ D) : (sum fs).den ∣ D := by
  rw [← added_is hD h]
  exact den_dvd _ _
theorem frOk_rest (ok : COk c) {j : Nat} (hj : j < size c) (hc : isClosed c j = false) : FrOk 3223 (sub one (backF c j)) := by
  obtain ⟨D, h1, h2, h3⟩ := back_dens ok hj
  have rb := red_backF ok hj
  have dd : (backF c j).den ∣ D := sum_den h1 fun f hf => by
    obtain ⟨k, hk, rfl⟩ := List.mem_map.mp hf
    have := h3 k (List.mem_range.mp hk)
    exact ⟨this.1.1, this.2⟩
  have dl := Nat.lt_of_le_of_lt (Nat.le_of_dvd h1 dd) h2
  have n0 := num_nonneg rb (val_back_nonneg ok hj)
  have n1 := back_num ok hj hc
  have rs := red_sub red_one.pos rb.pos
  rw [sub_one rb] at n1 rs ⊢
  have n1' : 0 < ((backF c j).den : Int) - (backF c j).num := n1
  refine ⟨rs, ?_, dl⟩
  show (((backF c j).den : Int) - (backF c j).num).natAbs < _
  omega

/-! stationary distributions -/
theorem CC_len (ok : COk c) {f : Nat} {o : List Nat} (h : CC c f o) : o.length ≤ 7 := by
  have := nodup_le _ _ h.nd h.lt
  have := ok.le
  rw [List.length_cons] at *
  omega
theorem yI_low (ok : COk c) {f : Nat} {o : List Nat} (h : CC c f o) {q : Nat} (hq : q < o.length + 1) : (yI c f o q).natAbs < 2 ^ 3199 := by
  have so := solveI_ok (solC ok (o_nd h) (o_lt h) (o_leaves ok h) (gainsS_low ok f o)).1
  have b7 := bb_7 (CC_len ok h)
  cases q with
  | zero =>
    show ((denI (eqsC c o (gainsS c f o)) : Nat) : Int).natAbs < _
    rw [Int.natAbs_natCast]
    exact Nat.lt_of_lt_of_le so.dlow b7
  | succ q => exact Nat.lt_of_lt_of_le (so.low q (by omega)) b7
theorem scl_low (ok : COk c) (f : Nat) (o : List Nat) (q : Nat) : scl c f o q < 2 ^ 23 := by
  unfold scl
  have := rowSum_low ok ((f :: o).getD q 0)
  split <;> omega
theorem xI_low (ok : COk c) {f : Nat} {o : List Nat} (h : CC c f o) {q : Nat} (hq : q < o.length + 1) : (xI c f o q).natAbs < 2 ^ 3222 := by
  unfold xI
  rw [Int.natAbs_mul, show 3222 = 3199 + 23 from rfl, Nat.pow_add]
  exact Nat.mul_lt_mul'' (yI_low ok h hq) (by rw [Int.natAbs_natCast]; exact scl_low ok f o q)
theorem sum_lowI {B : Nat} : ∀ l : List Int, (∀ x ∈ l, x.natAbs ≤ B) → l.sum.natAbs ≤ l.length * B
  | [], _ => by simp
  | x :: r, h => by
    have ih := sum_lowI r fun y hy => h y (List.mem_cons_of_mem _ hy)
    have hx := h x (List.mem_cons_self ..)
    have t := Int.natAbs_add_le x r.sum
    rw [List.sum_cons, List.length_cons, Nat.succ_mul]
    omega
theorem totI_low (ok : COk c) {f : Nat} {o : List Nat} (h : CC c f o) : (totI c f o).natAbs < 2 ^ 3226 := by
  unfold totI
  have z := sum_lowI (B := 2 ^ 3222) ((List.range (o.length + 1)).map (xI c f o)) fun x hx => by
    obtain ⟨q, hq, rfl⟩ := List.mem_map.mp hx
    exact Nat.le_of_lt (xI_low ok h (List.mem_range.mp hq))
  rw [List.length_map, List.length_range] at z
  have l := CC_len ok h
  have m : (o.length + 1) * 2 ^ 3222 ≤ 8 * 2 ^ 3222 := Nat.mul_le_mul_right _ (by omega)
  have e : (2 : Nat) ^ 3226 = 16 * 2 ^ 3222 := by rw [show 3226 = 4 + 3222 from rfl, Nat.pow_add]
  have p : 0 < 2 ^ 3222 := Nat.two_pow_pos _
  rw [e]
  omega
theorem frOk_statF (ok : COk c) {f : Nat} {o : List Nat} (h : CC c f o) {q : Nat} (hq : q < o.length + 1) : FrOk 3226 (statF c f o q) := by
  have tp := totI_pos ok h
  have tl := totI_low ok h
  refine frOk_reduce (by omega) (Nat.lt_of_lt_of_le (xI_low ok h hq) (Nat.pow_le_pow_right (by decide) (by decide))) (by omega)
def statV (c : Chain) (i j : Nat) : Fraction := entry (stationaryOf c (classOf c i)) j
theorem stat_len (c : Chain) (L : List Nat) : (stationaryOf c L).length = size c := by simp [stationaryOf, states]
theorem frOk_statV (ok : COk c) {i : Nat} (hi : i < size c) (hc : isClosed c i = true) {j : Nat} (hj : j < size c) : FrOk 3226 (statV c i j) := by
  obtain ⟨f, o, e, h⟩ := class_CC ok hi hc
  unfold statV
  rw [e, stationary_is ok h, entry_states hj]
  by_cases m : j ∈ f :: o
  · obtain ⟨q, hq, e⟩ := mem_getD m
    rw [← e, valAt_at h.nd _ hq]
    exact frOk_statF ok h hq
  · rw [valAt_out _ m]
    exact frOk_zero (by decide)
theorem statV_pos (ok : COk c) {i : Nat} (hi : i < size c) (hc : isClosed c i = true) {j : Nat} (hm : j ∈ classOf c i) : 0 < (statV c i j).num := by
  obtain ⟨f, o, e, h⟩ := class_CC ok hi hc
  have hj := class_lt j hm
  unfold statV
  rw [e] at hm ⊢
  rw [stationary_is ok h, entry_states hj]
  obtain ⟨q, hq, e⟩ := mem_getD hm
  rw [← e, valAt_at h.nd _ hq]
  refine @back_num.num_pos_of c j _ (statF_red ok h q) ?_
  rw [statF_val ok h]
  have h1 : (0 : Rat) < ((xI c f o q : Int) : Rat) := by
    have := Rat.intCast_lt_intCast.mpr (xI_pos ok h hq)
    simpa using this
  rw [Rat.div_def]
  exact Rat.mul_pos h1 (Rat.inv_pos.mpr (totR_pos ok h))
theorem statV_out (ok : COk c) {i : Nat} (hi : i < size c) (hc : isClosed c i = true) {j : Nat} (hj : j < size c) (hm : j ∉ classOf c i) : statV c i j = zero := by
  obtain ⟨f, o, e, h⟩ := class_CC ok hi hc
  unfold statV
  rw [e] at hm ⊢
  rw [stationary_is ok h, entry_states hj, valAt_out _ hm]

/-! long-run shares -/
theorem add_zero_r {a : Fraction} (h : Red a) : add a zero = a := by
  refine red_ext (red_add h.pos (by decide)) h ?_
  rw [val_add h.pos (by decide), val_zero]; grind
theorem add_zero_l {a : Fraction} (h : Red a) : add zero a = a := by
  refine red_ext (red_add (by decide) h.pos) h ?_
  rw [val_add (by decide) h.pos, val_zero]; grind
theorem mul_zero_r {a : Fraction} (h : Red a) : mul a zero = zero := by
  refine red_ext (red_mul h.pos (by decide)) red_zero ?_
  rw [val_mul h.pos (by decide), val_zero]; grind
def partF (c : Chain) (i j cl : Nat) : Fraction := mul (entry (hitting c (classOf c cl)) i) (statV c cl j)
def shareTo (c : Chain) (i m j : Nat) : Fraction := sum (((closedClasses c).take m).map (partF c i j))
theorem longRun_is (c : Chain) (i : Nat) : longRun c i = (states c).map (shareTo c i (closedClasses c).length) := by
  unfold longRun shareTo
  dsimp only
  rw [List.take_length]
  apply List.map_congr_left
  intro j _
  rw [List.map_map]
  rfl
theorem class_ne (ok : COk c) {i : Nat} (hi : i < size c) : classOf c i ≠ [] := fun z => by
  have := class_self ok hi
  rw [z] at this
  cases this
theorem red_part (ok : COk c) {i j cl : Nat} (hi : i < size c) (hj : j < size c) (hc : cl ∈ closedClasses c) : Red (partF c i j cl) := by
  obtain ⟨h1, h2, h3⟩ := (closed_mem ok).mp hc
  exact red_mul (red_hit ok (class_set cl) hi).pos (frOk_statV ok h1 h3 hj).1.pos
theorem part_zero (ok : COk c) {i j cl : Nat} (hi : i < size c) (hj : j < size c) (hc : cl ∈ closedClasses c) (hm : j ∉ classOf c cl) : partF c i j cl = zero := by
  obtain ⟨h1, h2, h3⟩ := (closed_mem ok).mp hc
  unfold partF
  rw [statV_out ok h1 h3 hj hm, mul_zero_r (red_hit ok (class_set cl) hi)]
theorem sum_app (l : List Fraction) (x : Fraction) : sum (l ++ [x]) = add (sum l) x := by
  unfold sum
  rw [List.foldl_append]
  rfl
theorem red_sum {l : List Fraction} (h : ∀ f ∈ l, Red f) : Red (sum l) := (fold_add l zero red_zero h).1
theorem sum_zeros : ∀ l : List Fraction, (∀ f ∈ l, f = zero) → sum l = zero := fun l h => by
  have z := fold_add l zero red_zero fun f hf => by rw [h f hf]; exact red_zero
  refine red_ext z.1 red_zero ?_
  rw [show val (sum l) = _ from z.2, val_zero]
  clear z
  induction l with
  | nil => exact Rat.add_zero 0
  | cons x r ih =>
    rw [List.map_cons, List.foldr_cons, h x (List.mem_cons_self ..), val_zero]
    have := ih fun f hf => h f (List.mem_cons_of_mem _ hf)
    grind
theorem class_eq (ok : COk c) {i j : Nat} (hi : i < size c) (h : j ∈ classOf c i) : classOf c j = classOf c i := by
  obtain ⟨hj, r1, r2⟩ := class_mem.mp h
  unfold classOf
  apply List.filter_congr
  intro x hx
  have hx' := List.mem_range.mp hx
  rw [Bool.eq_iff_iff, Bool.and_eq_true, Bool.and_eq_true]
  constructor
  · rintro ⟨a, b⟩
    exact ⟨reaches_trans ok hi hj hx' r1 a, reaches_trans ok hx' hj hi b r2⟩
  · rintro ⟨a, b⟩
    exact ⟨reaches_trans ok hj hi hx' r2 a, reaches_trans ok hx' hi hj b r1⟩
theorem one_class (ok : COk c) {a b j : Nat} (ha : a ∈ closedClasses c) (hb : b ∈ closedClasses c) (h1 : j ∈ classOf c a) (h2 : j ∈ classOf c b) : a = b := by
  obtain ⟨a1, a2, a3⟩ := (closed_mem ok).mp ha
  obtain ⟨b1, b2, b3⟩ := (closed_mem ok).mp hb
  rw [← a2, ← b2, ← class_eq ok a1 h1, ← class_eq ok b1 h2]
theorem closed_nd : (closedClasses c).Nodup := (List.nodup_range.sublist List.filter_sublist).sublist List.filter_sublist
theorem share_zero (c : Chain) (i j : Nat) : shareTo c i 0 j = zero := by
  unfold shareTo
  rw [List.take_zero]
  rfl
theorem share_succ (ok : COk c) {i m cl j : Nat} (hi : i < size c) (hj : j < size c) (h : (closedClasses c)[m]? = some cl) : shareTo c i (m + 1) j = if j ∈ classOf c cl then partF c i j cl else shareTo c i m j := by
  have hm := List.mem_of_getElem? h
  have rt : ∀ f ∈ ((closedClasses c).take m).map (partF c i j), Red f := fun f hf => by
    obtain ⟨x, hx, rfl⟩ := List.mem_map.mp hf
    exact red_part ok hi hj (List.mem_of_mem_take hx)
  unfold shareTo
  rw [List.take_add_one, h, List.map_append]
  show sum (_ ++ [partF c i j cl]) = _
  rw [sum_app]
  split
  · rename_i mj
    rw [sum_zeros, add_zero_l (red_part ok hi hj hm)]
    intro f hf
    obtain ⟨x, hx, rfl⟩ := List.mem_map.mp hf
    refine part_zero ok hi hj (List.mem_of_mem_take hx) fun z => ?_
    have e := one_class ok (List.mem_of_mem_take hx) hm z mj
    subst e
    obtain ⟨k, hk, e⟩ := List.mem_iff_getElem.mp hx
    rw [List.length_take] at hk
    rw [List.getElem_take] at e
    obtain ⟨hml, e2⟩ := List.getElem?_eq_some_iff.mp h
    have := (List.getElem_inj closed_nd (h₀ := by omega) (h₁ := hml)).mp (e.trans e2.symm)
    omega
  · rename_i mj
    rw [part_zero ok hi hj hm mj, add_zero_r (red_sum rt)]
theorem frOk_stay (ok : COk c) (i : Nat) (h : c.isContinuous = true → rowSum c i ≠ 0) : stay c i = (if c.isContinuous then ⟨1, rowSum c i⟩ else one) ∧ FrOk 24 (stay c i) := by
  have r := red_stay i h
  have lo := rowSum_low ok i
  have e : stay c i = (if c.isContinuous then ⟨1, rowSum c i⟩ else one) := by
    unfold stay
    split
    · have h0 := h (by assumption)
      unfold reduce
      rw [if_neg h0]
      simp
    · rfl
  refine ⟨e, ?_⟩
  by_cases hc : c.isContinuous = true
  · rw [e, if_pos hc] at r
    rw [e, if_pos hc]
    refine ⟨r, ?_, ?_⟩
    · show (1 : Int).natAbs < _; decide
    · show rowSum c i < _; omega
  · rw [e, if_neg hc]
    exact frOk_one (by decide)
end EC
/-! ## EcLump -/
/-! blocks, flows, lumped chains -/
namespace EC
open Lrx1
def lab (labels : List Nat) (i : Nat) : Nat := labels.getD i 0
def firstsTo (labels : List Nat) (m : Nat) : List Nat := (List.range m).filter fun i => labels.idxOf (labels.getD i 0) == i
def blkTo (labels : List Nat) (m i : Nat) : List Nat := (List.range m).filter fun j => labels.getD j 0 == labels.getD i 0
def dictTo (labels : List Nat) (m : Nat) : List (Nat × List Nat) := (firstsTo labels m).map fun i => (labels.getD i 0, blkTo labels m i)
theorem dict_end (labels : List Nat) : (dictTo labels labels.length).map (·.2) = blocks labels := by
  unfold dictTo
  rw [List.map_map]
  rfl
section
variable {labels : List Nat}
theorem lab_mem {i : Nat} (h : i < labels.length) : labels.getD i 0 ∈ labels := by
  rw [List.getD_eq_getElem?_getD, List.getElem?_eq_getElem h]
  exact List.getElem_mem h
theorem idx_lt {i : Nat} (h : i < labels.length) : labels.idxOf (labels.getD i 0) < labels.length := List.idxOf_lt_length_of_mem (lab_mem h)
theorem lab_idx {i : Nat} (h : i < labels.length) : labels.getD (labels.idxOf (labels.getD i 0)) 0 = labels.getD i 0 := by
  have l := idx_lt h
  rw [List.getD_eq_getElem?_getD, List.getElem?_eq_getElem l, Option.getD_some]
  exact List.getElem_idxOf l
theorem idx_le {i : Nat} (h : i < labels.length) : labels.idxOf (labels.getD i 0) ≤ i := by
  refine Classical.byContradiction fun z => ?_
  have z : i < labels.idxOf (labels.getD i 0) := by omega
  have := List.not_of_lt_findIdx (p := fun x => x == labels.getD i 0) (xs := labels) (i := i) z
  have e : labels.getD i 0 = labels[i] := by rw [List.getD_eq_getElem?_getD, List.getElem?_eq_getElem h]; rfl
  have this : (labels[i] == labels.getD i 0) = false := this
  have e2 : (labels[i] == labels.getD i 0) = true := by rw [e]; exact beq_self_eq_true _
  rw [this] at e2
  cases e2
theorem dict_keys {m : Nat} (hm : m < labels.length) : labels.getD m 0 ∈ (dictTo labels m).map (·.1) ↔ labels.idxOf (labels.getD m 0) < m := by
  unfold dictTo firstsTo
  rw [List.map_map, List.mem_map]
  constructor
  · rintro ⟨i, hi, e⟩
    rw [List.mem_filter, List.mem_range] at hi
    obtain ⟨h1, h2⟩ := hi
    have e' : labels.getD i 0 = labels.getD m 0 := e
    rw [e'] at h2
    have : labels.idxOf (labels.getD m 0) = i := by simpa using h2
    omega
  · intro h
    refine ⟨labels.idxOf (labels.getD m 0), ?_, lab_idx hm⟩
    rw [List.mem_filter, List.mem_range]
    exact ⟨h, by rw [lab_idx hm]; simp⟩
theorem blk_succ (m i : Nat) : blkTo labels (m + 1) i = blkTo labels m i ++ (if labels.getD m 0 = labels.getD i 0 then [m] else []) := by
  unfold blkTo
  rw [List.range_succ, List.filter_append, List.filter_cons]
  by_cases h : labels.getD m 0 = labels.getD i 0
  · rw [if_pos h, if_pos (by simpa using h)]; rfl
  · rw [if_neg h, if_neg (by simpa using h)]; rfl
theorem firsts_succ (m : Nat) : firstsTo labels (m + 1) = firstsTo labels m ++ (if labels.idxOf (labels.getD m 0) = m then [m] else []) := by
  unfold firstsTo
  rw [List.range_succ, List.filter_append, List.filter_cons]
  by_cases h : labels.idxOf (labels.getD m 0) = m
  · rw [if_pos h, if_pos (by simpa using h)]; rfl
  · rw [if_neg h, if_neg (by simpa using h)]; rfl
def putIn (l m : Nat) (e : Nat × List Nat) : Nat × List Nat := if e.1 = l then (e.1, e.2 ++ [m]) else e
theorem dict_step {m : Nat} (hm : m < labels.length) : dictTo labels (m + 1) = (if labels.idxOf (labels.getD m 0) = m then dictTo labels m ++ [(labels.getD m 0, [])] else dictTo labels m).map (putIn (labels.getD m 0) m) := by
  have old : (firstsTo labels m).map (fun i => (labels.getD i 0, blkTo labels (m + 1) i)) = (dictTo labels m).map (putIn (labels.getD m 0) m) := by
    unfold dictTo
    rw [List.map_map]
    apply List.map_congr_left
    intro i _
    show _ = putIn (labels.getD m 0) m (labels.getD i 0, blkTo labels m i)
    rw [blk_succ]
    unfold putIn
    dsimp only
    by_cases h : labels.getD m 0 = labels.getD i 0
    · rw [if_pos h, if_pos h.symm]
    · rw [if_neg h, if_neg (fun e => h e.symm), List.append_nil]
  by_cases h : labels.idxOf (labels.getD m 0) = m
  · rw [if_pos h, List.map_append, ← old]
    unfold dictTo
    rw [firsts_succ, if_pos h, List.map_append]
    congr 1
    have be : blkTo labels m m = [] := by
      unfold blkTo
      rw [List.filter_eq_nil_iff]
      intro j hj
      have hj' := List.mem_range.mp hj
      intro z
      have z : labels.getD j 0 = labels.getD m 0 := by simpa using z
      have := idx_le (labels := labels) (i := j) (by omega)
      rw [z] at this
      omega
    show [(labels.getD m 0, blkTo labels (m + 1) m)] = [putIn (labels.getD m 0) m (labels.getD m 0, [])]
    rw [blk_succ, if_pos rfl, be]
    unfold putIn
    rw [if_pos rfl]
  · rw [if_neg h, ← old]
    unfold dictTo
    rw [firsts_succ, if_neg h, List.append_nil]
theorem dict_len (m : Nat) : (dictTo labels m).length ≤ m := by
  unfold dictTo firstsTo
  rw [List.length_map]
  exact Nat.le_trans (List.length_filter_le _ _) (by simp)
theorem dict_keys_nodup {m : Nat} (hm : m ≤ labels.length) : ((dictTo labels m).map (·.1)).Nodup := by
  unfold dictTo
  rw [List.map_map]
  unfold List.Nodup
  rw [List.pairwise_map]
  have nd : (firstsTo labels m).Nodup := List.nodup_range.sublist List.filter_sublist
  refine nd.imp_of_mem ?_
  intro a b ha hb hab z
  have z : labels.getD a 0 = labels.getD b 0 := z
  have a2 := (List.mem_filter.mp ha).2
  have b2 := (List.mem_filter.mp hb).2
  have a3 : labels.idxOf (labels.getD a 0) = a := by simpa using a2
  have b3 : labels.idxOf (labels.getD b 0) = b := by simpa using b2
  rw [z, b3] at a3
  exact hab a3.symm

/-! blocks -/
theorem block_mem {b : List Nat} : b ∈ blocks labels ↔ ∃ i, i < labels.length ∧ labels.idxOf (labels.getD i 0) = i ∧ b = blkTo labels labels.length i := by
  rw [← dict_end]
  unfold dictTo firstsTo
  rw [List.map_map, List.mem_map]
  constructor
  · rintro ⟨i, hi, e⟩
    rw [List.mem_filter, List.mem_range] at hi
    exact ⟨i, hi.1, by simpa using hi.2, e.symm⟩
  · rintro ⟨i, h1, h2, e⟩
    exact ⟨i, by rw [List.mem_filter, List.mem_range]; exact ⟨h1, by simpa using h2⟩, e.symm⟩
theorem blk_mem {m i j : Nat} : j ∈ blkTo labels m i ↔ j < m ∧ labels.getD j 0 = labels.getD i 0 := by
  unfold blkTo
  rw [List.mem_filter, List.mem_range]
  simp
theorem block_nd {b : List Nat} (h : b ∈ blocks labels) : b.Nodup := by
  obtain ⟨i, _, _, rfl⟩ := block_mem.mp h
  exact List.nodup_range.sublist List.filter_sublist
theorem block_lt {b : List Nat} (h : b ∈ blocks labels) : ∀ x ∈ b, x < labels.length := fun x hx => by
  obtain ⟨i, _, _, rfl⟩ := block_mem.mp h
  exact (blk_mem.mp hx).1
theorem block_ne {b : List Nat} (h : b ∈ blocks labels) : b ≠ [] := fun z => by
  obtain ⟨i, h1, _, rfl⟩ := block_mem.mp h
  have : i ∈ blkTo labels labels.length i := blk_mem.mpr ⟨h1, rfl⟩
  rw [z] at this
  cases this
theorem block_dis {a b : List Nat} (ha : a ∈ blocks labels) (hb : b ∈ blocks labels) (h : a ≠ b) : ∀ x ∈ a, x ∉ b := fun x hx hy => by
  obtain ⟨i, i1, i2, rfl⟩ := block_mem.mp ha
  obtain ⟨j, j1, j2, rfl⟩ := block_mem.mp hb
  have e := (blk_mem.mp hx).2.symm.trans (blk_mem.mp hy).2
  rw [e, j2] at i2
  exact h (by rw [i2])
theorem blocks_len : (blocks labels).length ≤ labels.length := by
  rw [← dict_end, List.length_map]
  exact dict_len _
theorem blocks_pos (h : 0 < labels.length) : 0 < (blocks labels).length := by
  refine List.length_pos_of_mem (a := blkTo labels labels.length 0) (block_mem.mpr ⟨0, h, ?_, rfl⟩)
  have := idx_le (labels := labels) h
  omega
theorem blocks_nodup : (blocks labels).Nodup := by
  rw [← dict_end]
  unfold dictTo
  rw [List.map_map]
  unfold List.Nodup
  rw [List.pairwise_map]
  have nd : (firstsTo labels labels.length).Nodup := List.nodup_range.sublist List.filter_sublist
  refine nd.imp_of_mem ?_
  intro a b ha hb hab z
  have z : blkTo labels labels.length a = blkTo labels labels.length b := z
  have a1 := List.mem_range.mp (List.mem_filter.mp ha).1
  have a2 := (List.mem_filter.mp ha).2
  have b2 := (List.mem_filter.mp hb).2
  have a3 : labels.idxOf (labels.getD a 0) = a := by simpa using a2
  have b3 : labels.idxOf (labels.getD b 0) = b := by simpa using b2
  have m : a ∈ blkTo labels labels.length b := by rw [← z]; exact blk_mem.mpr ⟨a1, rfl⟩
  have e := (blk_mem.mp m).2
  rw [e, b3] at a3
  exact hab a3.symm
theorem block_head {b : List Nat} (h : b ∈ blocks labels) : b[0]? = some (b.headD 0) ∧ b.headD 0 ∈ b := by
  have := block_ne h
  cases b with
  | nil => exact absurd rfl this
  | cons x r => exact ⟨rfl, List.mem_cons_self ..⟩
end

/-! flows -/
section
variable {c : Chain}
def flowF (c : Chain) (i : Nat) (b : List Nat) : Fraction := if c.isContinuous then ⟨(((b.map (weight c i)).sum : Nat) : Int), 1⟩ else chanceF c i b
theorem flow_is (ok : COk c) {i : Nat} {b : List Nat} (hn : b.Nodup) (hl : ∀ x ∈ b, x < size c) (h : i ∉ b) : flowInto c i b = flowF c i b := by
  unfold flowInto flowF
  by_cases hc : c.isContinuous = true
  · rw [if_pos hc]
    have e : b.map (generator c i) = b.map fun j => whole (weight c i j : Int) := by
      apply List.map_congr_left
      intro j hj
      unfold generator
      rw [if_pos hc, if_neg (fun z : i = j => h (z ▸ hj))]
    rw [e]
    obtain ⟨z1, z2⟩ := sum_map (f := fun j => whole (weight c i j : Int)) b fun x _ => red_whole _
    refine red_ext z1 (red_whole _) ?_
    rw [z2]
    show _ = val (whole (((b.map (weight c i)).sum : Nat) : Int))
    rw [val_whole, Rat.intCast_natCast, LR_cast]
    exact LR_congr fun x _ => by rw [val_whole, Rat.intCast_natCast]
  · rw [if_neg hc, chance_is ok hn hl]
    congr 1
    apply List.map_congr_left
    intro j hj
    unfold generator
    rw [if_neg hc, if_neg (fun z : i = j => h (z ▸ hj)), sub_zero (red_jump ok i j)]
/-- the chance, as a part of the sum -/
theorem chance_dvd (c : Chain) (i : Nat) (b : List Nat) : (chanceF c i b).den ∣ (if rowSum c i = 0 then 1 else rowSum c i) := by
  unfold chanceF
  split
  · split <;> exact Nat.dvd_refl _
  · exact den_dvd _ _
theorem chance_nonneg (ok : COk c) (i : Nat) (b : List Nat) : 0 ≤ (chanceF c i b).num := by
  unfold chanceF
  split
  · split <;> decide
  · have h : rowSum c i ≠ 0 := by assumption
    refine num_nonneg (red_reduce _ (by omega)) ?_
    rw [val_reduce _ (by omega), Rat.intCast_natCast, Rat.div_def]
    refine Rat.mul_nonneg ?_ (Rat.le_of_lt (Rat.inv_pos.mpr (cast_pos (by omega))))
    have : ((0 : Nat) : Rat) ≤ (((b.map (weight c i)).sum : Nat) : Rat) := by exact_mod_cast Nat.zero_le _
    simpa using this
theorem frOk_chance (ok : COk c) {i : Nat} {b : List Nat} (hn : b.Nodup) (hl : ∀ x ∈ b, x < size c) : FrOk 24 (chanceF c i b) := by
  unfold chanceF
  have lo := rowSum_low ok i
  have ss := sub_sum ok i hn hl
  split
  · split
    · exact frOk_one (by decide)
    · exact frOk_zero (by decide)
  · exact frOk_reduce (by omega) (by rw [Int.natAbs_natCast]; omega) (by omega)

/-! the lumped rows -/
def contW (c : Chain) (labels : List Nat) (a b : List Nat) : Nat := if a = b then 0 else (b.map (weight c (a.headD 0))).sum
def dens (c : Chain) (labels : List Nat) (a : List Nat) : Nat := ((blocks labels).map fun b => (chanceF c (a.headD 0) b).den).foldl Nat.lcm 1
def discW (c : Chain) (labels : List Nat) (a b : List Nat) : Nat := ((chanceF c (a.headD 0) b).num * ((dens c labels a / (chanceF c (a.headD 0) b).den : Nat) : Int)).toNat
def lumpW (c : Chain) (labels : List Nat) : List (List Nat) := (blocks labels).map fun a => (blocks labels).map fun b => if c.isContinuous then contW c labels a b else discW c labels a b
theorem common_is (row : List Fraction) : commonDenominator row = (row.map (·.den)).foldl Nat.lcm 1 := by
  unfold commonDenominator
  rw [List.foldl_map]
theorem dens_dvd (labels : List Nat) {a b : List Nat} (hb : b ∈ blocks labels) : (chanceF c (a.headD 0) b).den ∣ dens c labels a :=
  (dvd_lcm_fold _ 1).2 _ (List.mem_map.mpr ⟨b, hb, rfl⟩)
theorem dens_low (ok : COk c) (labels : List Nat) (a : List Nat) : dens c labels a < 2 ^ 24 := by
  obtain ⟨j1, j2⟩ := js_low ok (a.headD 0)
  refine Nat.lt_of_le_of_lt (Nat.le_of_dvd j1 (lcm_fold_dvd _ 1 _ (Nat.one_dvd _) fun n hn => ?_)) j2
  obtain ⟨b, _, rfl⟩ := List.mem_map.mp hn
  exact chance_dvd c _ b
theorem lumped_is (ok : COk c) {labels : List Nat} (hl : labels.length = size c) : lumped c labels = { c with weights := lumpW c labels } := by
  unfold lumped lumpW
  dsimp only
  congr 1
  rw [List.map_map]
  apply List.map_congr_left
  intro a ha
  show ((blocks labels).map _).map _ = _
  rw [List.map_map]
  have hd := (block_head ha).2
  by_cases hc : c.isContinuous = true
  · have row : ((blocks labels).map fun b => if c.isContinuous then (if a == b then zero else flowInto c (a.headD 0) b) else sum (b.map fun j => jump c (a.headD 0) j)) = (blocks labels).map fun b => (⟨(contW c labels a b : Int), 1⟩ : Fraction) := by
      apply List.map_congr_left
      intro b hb
      rw [if_pos hc]
      unfold contW
      by_cases e : a = b
      · rw [if_pos e, if_pos (by simpa using e)]; rfl
      · rw [if_neg e, if_neg (by simpa using e), flow_is ok (block_nd hb) (fun x hx => by have := block_lt hb x hx; omega) (block_dis ha hb e _ hd)]
        unfold flowF
        rw [if_pos hc]
    have cd : commonDenominator ((blocks labels).map fun b => (⟨(contW c labels a b : Int), 1⟩ : Fraction)) = 1 := by
      rw [common_is, List.map_map]
      exact Nat.dvd_one.mp (lcm_fold_dvd _ 1 1 (Nat.dvd_refl 1) fun n hn => by
        obtain ⟨b, _, rfl⟩ := List.mem_map.mp hn
        exact Nat.dvd_refl 1)
    apply List.map_congr_left
    intro b hb
    have rb := congrArg (fun l => commonDenominator l) row
    rw [cd] at rb
    show ((if c.isContinuous then (if a == b then zero else flowInto c (a.headD 0) b) else sum (b.map fun j => jump c (a.headD 0) j)).num * (commonDenominator ((blocks labels).map fun b => if c.isContinuous then (if a == b then zero else flowInto c (a.headD 0) b) else sum (b.map fun j => jump c (a.headD 0) j)) : Int) / ((if c.isContinuous then (if a == b then zero else flowInto c (a.headD 0) b) else sum (b.map fun j => jump c (a.headD 0) j)).den : Int)).toNat = _
    rw [rb, if_pos hc, if_pos hc]
    unfold contW
    by_cases e : a = b
    · rw [if_pos e, if_pos (by simpa using e)]; rfl
    · rw [if_neg e, if_neg (by simpa using e), flow_is ok (block_nd hb) (fun x hx => by have := block_lt hb x hx; omega) (block_dis ha hb e _ hd)]
      unfold flowF
      rw [if_pos hc]
      show ((((b.map (weight c (a.headD 0))).sum : Nat) : Int) * 1 / ((1 : Nat) : Int)).toNat = _
      rw [Int.mul_one, show ((1 : Nat) : Int) = 1 from rfl, Int.ediv_one, Int.toNat_natCast]
  · have row : ((blocks labels).map fun b => if c.isContinuous then (if a == b then zero else flowInto c (a.headD 0) b) else sum (b.map fun j => jump c (a.headD 0) j)) = (blocks labels).map fun b => chanceF c (a.headD 0) b := by
      apply List.map_congr_left
      intro b hb
      rw [if_neg hc, chance_is ok (block_nd hb) (fun x hx => by have := block_lt hb x hx; omega)]
    have rb := congrArg (fun l => commonDenominator l) row
    rw [common_is ((blocks labels).map fun b => chanceF c (a.headD 0) b), List.map_map] at rb
    apply List.map_congr_left
    intro b hb
    show ((if c.isContinuous then (if a == b then zero else flowInto c (a.headD 0) b) else sum (b.map fun j => jump c (a.headD 0) j)).num * (commonDenominator ((blocks labels).map fun b => if c.isContinuous then (if a == b then zero else flowInto c (a.headD 0) b) else sum (b.map fun j => jump c (a.headD 0) j)) : Int) / ((if c.isContinuous then (if a == b then zero else flowInto c (a.headD 0) b) else sum (b.map fun j => jump c (a.headD 0) j)).den : Int)).toNat = _
    rw [rb, if_neg hc, if_neg hc, ← chance_is ok (block_nd hb) (fun x hx => by have := block_lt hb x hx; omega)]
    unfold discW
    obtain ⟨q, hq⟩ := dens_dvd (c := c) labels (a := a) hb
    have dp := (frOk_chance ok (i := a.headD 0) (block_nd hb) (fun x hx => by have := block_lt hb x hx; omega)).1.pos
    have e1 : dens c labels a / (chanceF c (a.headD 0) b).den = q := by rw [hq, Nat.mul_div_cancel_left _ dp]
    rw [e1]
    congr 1
    have e2 : ((((blocks labels).map ((·.den) ∘ fun b => chanceF c (a.headD 0) b)).foldl Nat.lcm 1 : Nat) : Int) = ((chanceF c (a.headD 0) b).den : Int) * (q : Int) := by
      rw [← Int.natCast_mul, ← hq]
      rfl
    rw [e2, Int.mul_left_comm, Int.mul_ediv_cancel_left _ (by omega)]
theorem lump_size (c : Chain) (labels : List Nat) : (lumpW c labels).length = (blocks labels).length := by simp [lumpW]
theorem lump_row (c : Chain) {labels : List Nat} {i : Nat} (hi : i < (blocks labels).length) : (lumpW c labels).getD i [] = (blocks labels).map fun b => if c.isContinuous then contW c labels ((blocks labels).getD i []) b else discW c labels ((blocks labels).getD i []) b := by
  unfold lumpW
  rw [List.getD_eq_getElem?_getD, List.getElem?_map, List.getElem?_eq_getElem hi, List.getD_eq_getElem?_getD, List.getElem?_eq_getElem hi]
  rfl
theorem small_low {c : Chain} (h : isSmall c = true) (i j : Nat) : weight c i j ≤ 1000000 := by
  unfold isSmall at h
  rw [List.all_eq_true] at h
  unfold weight
  rw [List.getD_eq_getElem?_getD (l := c.weights)]
  cases e : c.weights[i]? with
  | none => simp
  | some row =>
    have := h row (List.mem_of_getElem? e)
    rw [List.all_eq_true] at this
    rw [Option.getD_some, List.getD_eq_getElem?_getD]
    cases e2 : row[j]? with
    | none => simp
    | some x => exact of_decide_eq_true (this x (List.mem_of_getElem? e2))
theorem cok_lump (ok : COk c) {labels : List Nat} (hl : labels.length = size c) (hs : isSmall (lumped c labels) = true) : COk (lumped c labels) := by
  have e := lumped_is ok hl
  have sz : size (lumped c labels) = (blocks labels).length := by rw [e]; exact lump_size c labels
  have bl := blocks_len (labels := labels)
  have bp := blocks_pos (labels := labels) (by have := ok.pos; omega)
  refine ⟨by rw [sz]; exact bp, by rw [sz]; have := ok.le; omega, fun i hi => ?_, small_low hs, fun hc i => ?_⟩
  · rw [sz] at hi ⊢
    rw [e]
    show ((lumpW c labels).getD i []).length = _
    rw [lump_row c hi, List.length_map]
  · rw [e] at hc ⊢
    have hc : c.isContinuous = true := hc
    show ((lumpW c labels).getD i []).getD i 0 = 0
    by_cases hi : i < (blocks labels).length
    · rw [lump_row c hi, List.getD_eq_getElem?_getD, List.getElem?_map, List.getElem?_eq_getElem hi]
      show (if c.isContinuous then contW c labels ((blocks labels).getD i []) (blocks labels)[i] else _) = 0
      rw [if_pos hc]
      unfold contW
      rw [if_pos]
      rw [List.getD_eq_getElem?_getD, List.getElem?_eq_getElem hi]
      rfl
    · rw [List.getD_eq_getElem?_getD (l := lumpW c labels), List.getElem?_eq_none (by rw [lump_size]; omega)]
      simp
end
end EC
/-! ## ErRules -/
/-! rules that the layer lacks -/
namespace ER
open PySem PySem.Spec PyProof.Rows L2

/-! list.extend of a tuple -/
theorem meets_extT (l : Addr) (its : Array Value) (n : Nat) (b : Addr) (its2 : Array Value) (hz : its.size + its2.size ≤ sizeLine) :
    Meets (Builtin.«list.extend» ⟨[.ref l, .ref b], []⟩) (fun _ R s => s.heap.get? l = some { cls := .type "list", data := .seq its n } ∧ IsTup s.heap b its2 ∧ R (.ok (.ret .none)) { s with heap := s.heap.update l (Obj.mapSeq (· ++ its2)) }) :=
  .of_wp fun prog w A R s hyp => by
    obtain ⟨hl, ⟨ob, hob, hcls, k, hdat⟩, hR⟩ := hyp
    show wpAny _ _ (Builtin.List.listExtendWith (.ref l) (.ref b) .none) _ _ s
    unfold Builtin.List.listExtendWith
    refine wpAny_bind (wpAny_typeOf ⟨ob, hob, hcls⟩ ?_)
    have cond : (Builtin.List.listSameRef (.ref l) (.ref b) || Value.type "tuple" == Value.type "list" || Value.type "tuple" == Value.type "tuple") = true := by simp
    simp only [cond, if_true]
    refine wpAny_bind ?_
    unfold Builtin.List.listItems
    refine wpAny_bind (wpAny_seqItems hob hdat (wpAny_pure ?_))
    refine wpAny_bind ?_
    refine wpAny_bind (wpAny_seqItems hl rfl (wpAny_pure ?_))
    have long : ¬ ((!its.isEmpty && Builtin.List.listTooLong (its.size + its2.size)) = true) := by
      rw [notLongL hz, Bool.and_false]
      exact Bool.false_ne_true
    simp only [long, if_false]
    show wpAny _ _ (updateSeq l (· ++ its2) >>= fun _ => ret .none) _ _ s
    refine wpAny_bind (wpAny_updateSeq hl rfl ?_ (hz := by omega) (_hz' := by rw [Array.size_append]; omega))
    exact wpAny_pure ⟨_, rfl, hR⟩
def rExtT (K : PySem.W.Frag) : V → List V → Hp → VK → Prop := fun x vs H Q => ∃ l b xs zs, x = .ref l ∧ vs = [.ref b] ∧ H l = some (.lst xs) ∧ SqT K H b zs ∧ xs.length + zs.length ≤ sizeLine ∧ Q .non (upd H l (.lst (xs ++ zs)))
section
variable {X : Cx}
theorem mt_extT : MtM X "list.extend" (rExtT X.K) := by
  intro pins s σ H x vs v us Q I rx rv hyp
  obtain ⟨l, b, xs, zs, rfl, rfl, hH, hB, hz, q⟩ := hyp
  cases rx
  obtain ⟨u, rfl, ru⟩ := rv.one
  cases ru
  obtain ⟨_, its, n, r, hl, e⟩ := I.lstM hH
  obtain ⟨its2, r2, pl, _⟩ := I.tuple hB
  have hl2 := r2.length
  have fit : its.toArray.size + its2.toArray.size ≤ sizeLine := by rw [List.size_toArray, List.size_toArray]; omega
  refine call_meets F.slot_list_extend ⟨_, e, rfl⟩ F.entry_list_extend (F.args_list_extend_2 _ _) (meets_extT l its.toArray n b its2.toArray fit) ⟨e, pl, ?_⟩
  refine ⟨.non, _, I.lset (t' := s.toks) (its' := its ++ its2) hH e (by simp) (r.append r2) ?_, rfl, q⟩
  rw [List.length_append]
  omega
/-! x *= e, great numbers -/
def ipM : TIp := fun x y H Q => ∃ i j, x = .int i ∧ y = .int j ∧ CMulW i j ∧ Q (.int (i * j)) H
theorem ip_mulW : PIp X .Mult ipM := by
  intro pins s σ H x y v u Q I r1 r2 hyp
  obtain ⟨i, j, rfl, rfl, c, q⟩ := hyp
  obtain ⟨t, rfl⟩ := r1
  obtain ⟨t2, rfl⟩ := r2
  exact imul_int ⟨.int _, H, I.tok _, ⟨_, rfl⟩, q⟩ c.ok
/-! the item of a list, for o[i] op= e -/
def rGetN (K : PySem.W.Frag) : V → V → Hp → VK → Prop := fun x y H Q => ∃ (p : Addr) (xs : List V) (j : Nat) (z : V), x = .ref p ∧ y = .int j ∧ SqL K H p xs ∧ xs[j]? = some z ∧ Q z H
theorem get_list : PGet X (rGetN X.K) := by
  intro pins s σ H o i ov iv Q I ro ri hyp
  obtain ⟨p, xs, j, z, rfl, rfl, hq, hz, q⟩ := hyp
  cases ro
  obtain ⟨t, rfl⟩ := ri
  obtain ⟨its, r, pl, le⟩ := I.list hq
  obtain ⟨u, hu, ru⟩ := r.get hz
  have hj : j < xs.length := (List.getElem?_eq_some_iff.mp hz).1
  have big := line63
  exact wpAny_getItem_list pl.isList (by omega) (by omega) (by simpa using hu) ⟨z, H, I, ru, q⟩
/-! len(set(xs)) of whole numbers, some of them alike -/
def met (ns : List Int) : Nat := (PyProof.Rows.firstMet (fun i => ns.getD i 0) ns.length).length
def tLenSetA (K : PySem.W.Frag) (ta : TE) : TE := fun σ H Q => ta σ H fun x H1 => ∃ (l : Addr) (ns : List Int), x = .ref l ∧ SqL K H1 l (ns.map V.int) ∧ ns.length ≤ 4000 ∧ Q (.int (met ns : Nat)) H1
theorem met_le (ns : List Int) : met ns ≤ ns.length := PyProof.Rows.firstMet_length_le _ _
theorem pe_lenSetA {a : Expr} {ta : TE} {p p2 q pos : Pos} (hg : Gl X "len") (hm : X.mg "len" = none) (hg2 : Gl X "set") (hm2 : X.mg "set" = none) (ha : PE X a ta) (hc : X.calm = true := by rfl)
    (na : starEach [a] X.env = (false, eval a X.env) :: starEach [] X.env := by rfl) : PE X (.Call (.Name "len" p) [.Call (.Name "set" p2) [a] [] q] [] pos) (tLenSetA X.K ta) := by
  refine ⟨fun pins s σ H Q I hyp => ?_⟩
  refine Call_ (ld_blt I hg hm boot_len ?_)
  refine PyProof.Rows.callWith_builtin1 (PyProof.Rows.args_cons ?_ rfl) rfl rfl
  refine Call_ (ld_blt I hg2 hm2 boot_set ?_)
  refine PyProof.Rows.callWith_type1 (PyProof.Rows.args_cons (thn (ha.run pins s σ H _ I hyp) fun v s1 ⟨x, H1, I1, r1, q1⟩ => PyProof.Rows.args_nil ?_) na) na rfl
  obtain ⟨l, ns, rfl, hq, hl, q1⟩ := q1
  cases r1
  obtain ⟨its, r, pl, _⟩ := I1.list hq
  have size : its.toArray.size = ns.length := by rw [List.size_toArray, ← r.length, List.length_map]
  refine call_set_list (I1.ok.hd hc) pl.isList (by simpa using RZ.intsAre_vals r) (by rw [size]; unfold scanBound; omega) fun h' tk hS hk => ?_
  refine PyProof.Rows.args_nil ?_
  rw [size] at hS
  obtain ⟨o, es, ep, t, ho, hex, hd, _, _, _, hf, hn⟩ := hS
  have I2 : Inv X pins σ H1 { s1 with heap := h', toks := tk } := I1.kept fun b o e => hk b o (Heap.lt_size e) e
  have le := met_le ns
  have hn' : es.size = met ns := hn
  exact call_len_set ho hex hd hf (by omega) ⟨.int (met ns : Nat), H1, I2.tok _, ⟨_, by rw [hn']⟩, q1⟩
/-! list(d.values()) -/
def tListValues (te : TE) : TE := fun σ H Q => te σ H fun x H1 => ∃ (d : Addr) (kvs : List (Key × V)), x = .ref d ∧ H1 d = some (.dK kvs) ∧ ∀ p, H1 p = none → Q (.ref p) (upd H1 p (.lst (kvs.map (·.2))))
theorem vals_view {vs : List (Key × Value)} {kvs : List (Key × V)} (kv : KV kvs vs) : Vals (kvs.map (·.2)) (vs.map (·.2)) := by
  induction kv with
  | nil => exact .nil
  | cons r _ ih => exact .cons r.2 ih
theorem view_items {vs : List (Key × Value)} {acc : Array Value} (h : ItemsOf (fun i v => ∃ k, vs[i]? = some (k, v)) acc vs.length) : acc.toList = vs.map (·.2) := by
  apply List.ext_getElem?
  intro i
  rw [List.getElem?_map]
  by_cases hi : i < vs.length
  · have hi2 : i < acc.size := by rw [h.1]; exact hi
    obtain ⟨k, e⟩ := h.2 i acc[i] (by simp [hi2])
    rw [e]
    simp [hi2]
  · have hi2 : ¬ i < acc.size := by rw [h.1]; exact hi
    simp [hi, hi2]
theorem pe_listValues {e : Expr} {te : TE} {p apos cpos pos : Pos} (hc : X.calm = true) (he : PE X e te) (hg : Gl X "list") (hm : X.mg "list" = none) (hv : bootBuiltins "list" = some (.type "list")) (hbase : attributeBase e "values" X.env (eval e X.env) = eval e X.env := by rfl) (hline : (apos.endLine == cpos.line) = true := by rfl)
    (hs : starEach [.Call (.Attribute e "values" apos) [] [] cpos] X.env = (false, eval (.Call (.Attribute e "values" apos) [] [] cpos) X.env) :: starEach [] X.env := by rfl) :
    PE X (.Call (.Name "list" p) [.Call (.Attribute e "values" apos) [] [] cpos] [] pos) (tListValues te) := by
  refine ⟨fun pins s σ H Q I hyp => ?_⟩
  refine wpAny_Call_Name_kw (ld_blt I hg hm hv ?_)
  refine PyProof.Rows.callWith_type1 ?_ hs rfl
  rw [hs]
  show wpAny _ _ (spliced ((false, eval (.Call (.Attribute e "values" apos) [] [] cpos) X.env) :: backTo pos (starEach [] X.env))) _ _ s
  refine Calls.spliced_cons ?_
  refine wpAny_Call_method (T := "dict") (id := "dict.values") hbase rfl hline F.plainAttrs_dict F.slot_dict_values F.type_dict_values (thn (he.run pins s σ H _ I hyp) fun u s1 ⟨x, H1, I1, rx, d, kvs, ex, hd, q⟩ => ?_)
  subst ex
  obtain rfl : u = Value.ref d := rx
  obtain ⟨hz, hs0, vs, kv, hdo⟩ := I1.hok d _ hd
  obtain ⟨ep, hat⟩ := hdo.dictAt
  have lk : kvs.length = vs.length := Paired.length kv
  have I2 : Inv X pins σ H1 { s1 with heap := s1.heap.push { cls := .type "dict_values", data := .fields #[.ref d] } } := I1.kept (t' := s1.toks) fun b ob q => Heap.get?_push_of_some _ q
  refine ⟨hdo.typeIs, hdo.mapOf.noDict, ?_⟩
  show wpAny _ _ (callWith cpos (.builtin "dict.values") [.ref d] [] []) _ X.xe s1
  refine method_meetsIn F.slot_dict_values F.entry_dict_values rfl (PySem.evalArgs_none ⟨rfl, hdo.typeIs, F.args_dict_values_1 _, _, meets_dict_values (mixKind X.prog X.w) d hs0, ⟨vs, hdo⟩, ?_⟩)
  refine Calls.spliced_nil ?_
  refine PySem.W.kdl_call (PySem.W.kdl_values (knd := mixKind X.prog X.w) (kvs := vs) (ep := ep)) (I1.ok.hd hc) ⟨⟨_, Heap.get?_push_size _ rfl, rfl, rfl⟩, hat.push _⟩ (by omega) fun h' tk acc c hk hS hacc => ?_
  have r : Vals (kvs.map (·.2)) acc.toList := by
    rw [view_items hacc]
    exact vals_view kv
  have new : ObjOk X.prog X.w (upd H1 (s1.heap.push { cls := .type "dict_values", data := .fields #[.ref d] }).objs.size (.lst (kvs.map (·.2)))) h' (s1.heap.push { cls := .type "dict_values", data := .fields #[.ref d] }).objs.size (.lst (kvs.map (·.2))) :=
    ⟨by rw [List.length_map]; exact hz, acc.toList, c, r, by rw [Array.toArray_toList]; exact hS⟩
  exact ⟨.ref _, _, I2.laid (t' := tk) hk (Nat.le_refl _) new, rfl, q _ (I2.hok.fresh (Nat.le_refl _))⟩
end
end ER
/-! ## ErGhost -/
/-! what stands still (G) within what is tracked (H) -/
namespace ER
open PySem L2

structure Ext (G H G' H' : Hp) : Prop where
  g : Same G G'
  h : Same H H'
  sub : Same G' H'
  old : ∀ b, H b ≠ none → G' b ≠ none → G b ≠ none
theorem Ext.refl {G H : Hp} (s : Same G H) : Ext G H G H := ⟨.refl G, .refl H, s, fun _ _ q => q⟩
theorem Ext.trans {G H G1 H1 G2 H2 : Hp} (a : Ext G H G1 H1) (b : Ext G1 H1 G2 H2) : Ext G H G2 H2 :=
  ⟨a.g.trans b.g, a.h.trans b.h, b.sub, fun x hx gx => a.old x hx (b.old x (fun z => by
    cases q : H x with
    | none => exact hx q
    | some o => rw [a.h x o q] at z; cases z) gx)⟩
theorem none_of {H H' : Hp} (s : Same H H') {p : Addr} (h : H' p = none) : H p = none := s.free h
theorem ne_none {H : Hp} {p : Addr} {o : HO} (h : H p = some o) : H p ≠ none := fun z => by rw [h] at z; cases z
/-- what is local stays out of what stands still -/
theorem Ext.out {G H G' H' : Hp} (e : Ext G H G' H') {p : Addr} {o : HO} (h : H p = some o) (g : G p = none) : G' p = none := by
  cases q : G' p with
  | none => rfl
  | some u => exact absurd g (e.old p (ne_none h) (ne_none q))
theorem same_upd {G : Hp} {p : Addr} {o : HO} (h : G p = none) : Same G (upd G p o) := fun b u q => by rw [upd_ne (ne_of_none q h)]; exact q
theorem same_upd2 {G H : Hp} {p : Addr} {o : HO} (s : Same G H) (h : G p = none) : Same G (upd H p o) := fun b u q => by rw [upd_ne (ne_of_none q h)]; exact s b u q
theorem same_both {G H : Hp} {p : Addr} {o : HO} (s : Same G H) : Same (upd G p o) (upd H p o) := fun b u q => by
  by_cases e : b = p
  · subst e; rw [upd_same] at q ⊢; exact q
  · rw [upd_ne e] at q ⊢; exact s b u q
/-- a new object, tracked alone -/
theorem Ext.loc {G H G' H' : Hp} (e : Ext G H G' H') {p : Addr} {o : HO} (h : H p = none) (g : G' p = none) : Ext G H G' (upd H' p o) :=
  ⟨e.g, same_upd2 e.h h, same_upd2 e.sub g, e.old⟩
/-- a new object that stands still -/
theorem Ext.new {G H G' H' : Hp} (e : Ext G H G' H') {p : Addr} {o : HO} (h : H' p = none) : Ext G H (upd G' p o) (upd H' p o) := by
  have g := none_of e.sub h
  refine ⟨e.g.trans (same_upd g), e.h.trans (same_upd h), same_both e.sub, fun b hb gb => ?_⟩
  by_cases q : b = p
  · subst q; exact absurd (none_of e.h h) hb
  · rw [upd_ne q] at gb; exact e.old b hb gb
/-- a local object is left as it is from here on -/
theorem Ext.frz {G H G' H' : Hp} (e : Ext G H G' H') {p : Addr} {o : HO} (h : H p = none) (g : G' p = none) (q : H' p = some o) : Ext G H (upd G' p o) H' := by
  refine ⟨e.g.trans (same_upd g), e.h, fun b u z => ?_, fun b hb gb => ?_⟩
  · by_cases c : b = p
    · subst c; rw [upd_same] at z; rw [q]; exact z
    · rw [upd_ne c] at z; exact e.sub b u z
  · by_cases c : b = p
    · subst c; exact absurd h hb
    · rw [upd_ne c] at gb; exact e.old b hb gb

/-! relations of values and data -/
abbrev Rel (α : Type) := Hp → V → α → Prop
class Mo {α : Type} (R : Rel α) : Prop where
  mo : ∀ {G G' : Hp} {v : V} {a : α}, Same G G' → R G v a → R G' v a
def qI : Rel Int := fun _ v i => v = .int i
def qN : Rel Nat := fun _ v n => v = .int (n : Int)
def qB : Rel Bool := fun _ v b => v = .bl b
instance : Mo qI := ⟨fun _ h => h⟩
instance : Mo qN := ⟨fun _ h => h⟩
instance : Mo qB := ⟨fun _ h => h⟩
theorem paired_mono {α β : Type} {F F' : α → β → Prop} (m : ∀ a b, F a b → F' a b) {xs : List α} {ys : List β} (h : Paired F xs ys) : Paired F' xs ys := by
  induction h with
  | nil => exact .nil
  | cons r _ ih => exact .cons (m _ _ r) ih
theorem paired_append {α β : Type} {F : α → β → Prop} {xs xs2 : List α} {ys ys2 : List β} (h : Paired F xs ys) (h2 : Paired F xs2 ys2) : Paired F (xs ++ xs2) (ys ++ ys2) := by
  induction h with
  | nil => exact h2
  | cons r _ ih => exact .cons r ih
theorem paired_at {α β : Type} {F : α → β → Prop} {xs : List α} {ys : List β} (h : Paired F xs ys) : ∀ {i : Nat} {y : β}, ys[i]? = some y → ∃ x, xs[i]? = some x ∧ F x y := by
  induction h with
  | nil => intro i y q; simp at q
  | cons r _ ih =>
    intro i y q
    cases i with
    | zero => simp at q; subst q; exact ⟨_, rfl, r⟩
    | succ i => exact ih (by simpa using q)
theorem paired_at' {α β : Type} {F : α → β → Prop} {xs : List α} {ys : List β} (h : Paired F xs ys) : ∀ {i : Nat} {x : α}, xs[i]? = some x → ∃ y, ys[i]? = some y ∧ F x y := by
  induction h with
  | nil => intro i y q; simp at q
  | cons r _ ih =>
    intro i y q
    cases i with
    | zero => simp at q; subst q; exact ⟨_, rfl, r⟩
    | succ i => exact ih (by simpa using q)
theorem paired_len {α β : Type} {F : α → β → Prop} {xs : List α} {ys : List β} (h : Paired F xs ys) : xs.length = ys.length := by
  induction h with
  | nil => rfl
  | cons _ _ ih => simp [ih]
theorem paired_set {α β : Type} {F : α → β → Prop} {xs : List α} {ys : List β} (h : Paired F xs ys) {x : α} {y : β} (r : F x y) : ∀ i, Paired F (xs.set i x) (ys.set i y) := by
  induction h with
  | nil => intro i; exact .nil
  | cons q t ih =>
    intro i
    cases i with
    | zero => exact .cons r t
    | succ i => exact .cons q (ih i)
def qL {α : Type} (R : Rel α) : Rel (List α) := fun G v xs => ∃ p vs, v = .ref p ∧ G p = some (.lst vs) ∧ Paired (R G) vs xs
instance {α : Type} (R : Rel α) [Mo R] : Mo (qL R) := ⟨fun s ⟨p, vs, e, h, r⟩ => ⟨p, vs, e, s _ _ h, paired_mono (fun _ _ => Mo.mo s) r⟩⟩
def qO {α : Type} (R : Rel α) : Rel (Option α) := fun G v x => match x with
  | none => v = .non
  | some a => R G v a
instance {α : Type} (R : Rel α) [Mo R] : Mo (qO R) := ⟨fun {G G' v x} s h => by
  cases x with
  | none => exact h
  | some a => exact Mo.mo (R := R) s h⟩
theorem qN_list {G : Hp} {vs : List V} {ns : List Nat} (h : Paired (qN G) vs ns) : vs = ns.map fun (n : Nat) => V.int (n : Int) := by
  induction h with
  | nil => rfl
  | cons r _ ih => rw [List.map_cons, ← ih, r]
theorem qI_list {G : Hp} {vs : List V} {ns : List Int} (h : Paired (qI G) vs ns) : vs = ns.map V.int := by
  induction h with
  | nil => rfl
  | cons r _ ih => rw [List.map_cons, ← ih, r]
theorem list_qI {G : Hp} : ∀ ns : List Int, Paired (qI G) (ns.map V.int) ns
  | [] => .nil
  | n :: r => .cons rfl (list_qI r)
theorem list_qN {G : Hp} : ∀ ns : List Nat, Paired (qN G) (ns.map fun (n : Nat) => V.int (n : Int)) ns
  | [] => .nil
  | n :: r => .cons rfl (list_qN r)
theorem qB_list {G : Hp} {vs : List V} {bs : List Bool} (h : Paired (qB G) vs bs) : vs = bs.map V.bl := by
  induction h with
  | nil => rfl
  | cons r _ ih => rw [List.map_cons, ← ih, r]

/-! what an expression evaluates to: P of the heap ahead of it, the value, what stands still and what is tracked then -/
abbrev PVal := Hp → V → Hp → Hp → Prop
class An (P : PVal) : Prop where
  an : ∀ {H0 H1 : Hp} {v : V} {G H : Hp}, Same H0 H1 → P H1 v G H → P H0 v G H
def isR {α : Type} (R : Rel α) (a : α) : PVal := fun _ v G _ => R G v a
def isV (v : V) : PVal := fun _ u _ _ => u = v
/-- a new list -/
def isN {α : Type} (R : Rel α) (xs : List α) : PVal := fun H1 v G H => ∃ p vs, v = .ref p ∧ H1 p = none ∧ G p = none ∧ H p = some (.lst vs) ∧ Paired (R G) vs xs
instance {α : Type} (R : Rel α) (a : α) : An (isR R a) := ⟨fun _ h => h⟩
instance (v : V) : An (isV v) := ⟨fun _ h => h⟩
instance {α : Type} (R : Rel α) (xs : List α) : An (isN R xs) := ⟨fun s ⟨p, vs, a, b, c⟩ => ⟨p, vs, a, none_of s b, c⟩⟩
def Ev (te : TE) (σ : St) (G H : Hp) (P : PVal) : Prop := ∀ G1 H1, Ext G H G1 H1 → ∀ Q : VK, (∀ v G2 H2, Ext G1 H1 G2 H2 → P H1 v G2 H2 → Q v H2) → te σ H1 Q
def EvT (tt : TT) (σ : St) (G H : Hp) (b : Bool) : Prop := ∀ G1 H1, Ext G H G1 H1 → ∀ Q : Bool → Hp → Prop, (∀ G2 H2, Ext G1 H1 G2 H2 → Q b H2) → tt σ H1 Q
abbrev Arg := Hp → V → Prop
def aR {α : Type} (R : Rel α) (a : α) : Arg := fun G v => R G v a
def aV (u : V) : Arg := fun _ v => v = u
class MoA (A : Arg) : Prop where
  mo : ∀ {G G' : Hp} {v : V}, Same G G' → A G v → A G' v
instance {α : Type} (R : Rel α) [Mo R] (a : α) : MoA (aR R a) := ⟨fun s h => Mo.mo (R := R) s h⟩
instance (u : V) : MoA (aV u) := ⟨fun _ h => h⟩
def Args : List Arg → Hp → List V → Prop
  | [], _, vs => vs = []
  | A :: As, G, vs => ∃ v r, vs = v :: r ∧ A G v ∧ Args As G r
def EvA (ta : TA) (σ : St) (G H : Hp) (As : List Arg) : Prop := ∀ G1 H1, Ext G H G1 H1 → ∀ Q : List V → Hp → Prop, (∀ vs G2 H2, Ext G1 H1 G2 H2 → Args As G2 vs → Q vs H2) → ta σ H1 Q

section
variable {σ : St} {G H G' H' : Hp} {te ta tb tc : TE} {t u : TT} {P : PVal} {x y v w : V} {K : PySem.W.Frag} {r : R2}
theorem Ev.mono (e : Ext G H G' H') (h : Ev te σ G H P) : Ev te σ G' H' P := fun G1 H1 x => h G1 H1 (e.trans x)
theorem EvT.mono {b : Bool} (e : Ext G H G' H') (h : EvT t σ G H b) : EvT t σ G' H' b := fun G1 H1 x => h G1 H1 (e.trans x)
theorem EvA.mono {ta : TA} {As : List Arg} (e : Ext G H G' H') (h : EvA ta σ G H As) : EvA ta σ G' H' As := fun G1 H1 x => h G1 H1 (e.trans x)
theorem ev_var {i : Nat} (h : σ[i]? = some (some v)) : Ev (tVar i) σ G H (isV v) := fun G1 H1 x Q q => ⟨v, h, q v G1 H1 (.refl x.sub) rfl⟩
theorem ev_c : Ev (tC v) σ G H (isV v) := fun G1 H1 x Q q => q v G1 H1 (.refl x.sub) rfl
theorem ev_R {α : Type} {R : Rel α} [Mo R] {a : α} (h : Ev te σ G H (isV v)) (r : R G v a) : Ev te σ G H (isR R a) := fun G1 H1 x Q q => h G1 H1 x Q fun v' G2 H2 y e => by
  have e' : v' = v := e
  subst e'
  exact q v' G2 H2 y (Mo.mo (x.trans y).g r)
theorem ev_vR {α : Type} {R : Rel α} [Mo R] {a : α} {i : Nat} (h : σ[i]? = some (some v)) (r : R G v a) : Ev (tVar i) σ G H (isR R a) := ev_R (ev_var h) r
theorem ev_V (h : Ev te σ G H (isV v)) (e : v = w) : Ev te σ G H (isV w) := e ▸ h
theorem ev_a {α : Type} {R : Rel α} {a b : α} (h : Ev te σ G H (isR R a)) (e : a = b) : Ev te σ G H (isR R b) := e ▸ h
theorem ev_NL {α : Type} {R : Rel α} [Mo R] {xs : List α} (h : Ev te σ G H (isN R xs)) : Ev te σ G H (isR (qL R) xs) := fun G1 H1 x Q q => h G1 H1 x Q fun v G2 H2 y ⟨p, vs, e, h1, h2, h3, h4⟩ => by
  have z := y.frz h1 h2 h3
  exact q v _ H2 z ⟨p, vs, e, upd_same, paired_mono (fun _ _ => Mo.mo (same_upd h2)) h4⟩
/-- two parts, one behind the other -/
theorem ev_op2 [An P] {P1 P2 : Arg} [MoA P1] (ha : Ev ta σ G H fun _ v G _ => P1 G v) (hb : Ev tb σ G H fun _ v G _ => P2 G v)
    (hr : ∀ x y G1 H1, Ext G H G1 H1 → P1 G1 x → P2 G1 y → ∀ Q : VK, (∀ v G2 H2, Ext G1 H1 G2 H2 → P H1 v G2 H2 → Q v H2) → r x y H1 Q) : Ev (tOp r ta tb) σ G H P := fun G1 H1 e Q q =>
  ha G1 H1 e _ fun x G2 H2 e2 p1 => hb G2 H2 (e.trans e2) _ fun y G3 H3 e3 p2 => hr x y G3 H3 ((e.trans e2).trans e3) (MoA.mo e3.g p1) p2 Q fun v G4 H4 e4 p => q v G4 H4 ((e2.trans e3).trans e4) (An.an (e2.trans e3).h p)
theorem ev_I0 {g : Int → Int → V} {i j : Int} (ha : Ev ta σ G H (isV (.int i))) (hb : Ev tb σ G H (isV (.int j))) : Ev (tOp (rI0 g) ta tb) σ G H (isV (g i j)) :=
  ev_op2 (P1 := aV (.int i)) (P2 := aV (.int j)) ha hb fun x y G1 H1 e h1 h2 Q q => ⟨i, j, h1, h2, q _ G1 H1 (.refl e.sub) rfl⟩
theorem ev_I {C : Int → Int → Prop} {g : Int → Int → V} {i j : Int} (ha : Ev ta σ G H (isV (.int i))) (hb : Ev tb σ G H (isV (.int j))) (c : C i j) : Ev (tOp (L2.rI C g) ta tb) σ G H (isV (g i j)) :=
  ev_op2 (P1 := aV (.int i)) (P2 := aV (.int j)) ha hb fun x y G1 H1 e h1 h2 Q q => ⟨i, j, h1, h2, c, q _ G1 H1 (.refl e.sub) rfl⟩
theorem ev_neg {i : Int} (ha : Ev ta σ G H (isV (.int i))) : Ev (tUn (rU fun i => .int (-i)) ta) σ G H (isV (.int (-i))) := fun G1 H1 e Q q =>
  ha G1 H1 e _ fun x G2 H2 e2 p1 => ⟨i, p1, q _ G2 H2 e2 rfl⟩
theorem ev_eq (ha : Ev ta σ G H (isV x)) (hb : Ev tb σ G H (isV y)) (h : scal x y = true) : Ev (tOp rEq ta tb) σ G H (isV (.bl (decide (x = y)))) :=
  ev_op2 (P1 := aV x) (P2 := aV y) ha hb fun x' y' G1 H1 e h1 h2 Q q => by
    have e1 : x' = x := h1
    have e2 : y' = y := h2
    subst e1 e2
    exact ⟨h, q _ G1 H1 (.refl e.sub) rfl⟩
theorem ev_ne (ha : Ev ta σ G H (isV x)) (hb : Ev tb σ G H (isV y)) (h : scal x y = true) : Ev (tOp rNe ta tb) σ G H (isV (.bl (!decide (x = y)))) :=
  ev_op2 (P1 := aV x) (P2 := aV y) ha hb fun x' y' G1 H1 e h1 h2 Q q => by
    have e1 : x' = x := h1
    have e2 : y' = y := h2
    subst e1 e2
    exact ⟨h, q _ G1 H1 (.refl e.sub) rfl⟩
/-- an item of a list that stands still -/
theorem ev_ixL {α : Type} {R : Rel α} [Mo R] {xs : List α} {i : Nat} {a : α} (ha : Ev ta σ G H (isR (qL R) xs)) (hb : Ev tb σ G H (isV (.int (i : Int)))) (h : xs[i]? = some a) : Ev (tOp (rIxL K) ta tb) σ G H (isR R a) :=
  ev_op2 (P1 := aR (qL R) xs) (P2 := aV (.int (i : Int))) ha hb fun x y G1 H1 e h1 h2 Q q => by
    obtain ⟨p, vs, rfl, hp, pr⟩ := h1
    obtain ⟨v, hv, rv⟩ := paired_at pr h
    exact ⟨p, vs, i, v, rfl, h2, SqL.of (e.sub _ _ hp), atI_nat hv, q v G1 H1 (.refl e.sub) rv⟩
/-- the last one -/
theorem ev_last {α : Type} {R : Rel α} [Mo R] {xs : List α} {a : α} (ha : Ev ta σ G H (isR (qL R) (xs ++ [a]))) (hb : Ev tb σ G H (isV (.int (-1)))) : Ev (tOp (rIxL K) ta tb) σ G H (isR R a) :=
  ev_op2 (P1 := aR (qL R) (xs ++ [a])) (P2 := aV (.int (-1))) ha hb fun x y G1 H1 e h1 h2 Q q => by
    obtain ⟨p, vs, rfl, hp, pr⟩ := h1
    obtain ⟨v, hv, rv⟩ := paired_at pr (i := xs.length) (y := a) (by simp)
    have hl := paired_len pr
    have ev : vs = vs.dropLast ++ [v] := by
      apply List.ext_getElem?
      intro i
      rw [List.length_append, List.length_singleton] at hl
      by_cases c : i < vs.length - 1
      · rw [List.getElem?_append_left (by simp; omega), List.getElem?_dropLast, if_pos c]
      · by_cases c2 : i = xs.length
        · subst c2
          rw [hv, List.getElem?_append_right (by simp; omega)]
          simp [hl]
        · rw [List.getElem?_eq_none (by omega), List.getElem?_eq_none (by simp; omega)]
    refine ⟨p, vs, -1, v, rfl, h2, SqL.of (e.sub _ _ hp), ?_, q v G1 H1 (.refl e.sub) rv⟩
    rw [ev]
    exact atI_last _ v
/-- an item of a local list -/
theorem ev_ixV {p : Addr} {vs : List V} {i : Nat} (ha : Ev ta σ G H (isV (.ref p))) (hp : H p = some (.lst vs)) (hb : Ev tb σ G H (isV (.int (i : Int)))) (h : vs[i]? = some v) : Ev (tOp (rIxL K) ta tb) σ G H (isV v) :=
  ev_op2 (P1 := aV (.ref p)) (P2 := aV (.int (i : Int))) ha hb fun x y G1 H1 e h1 h2 Q q => ⟨p, vs, i, v, h1, h2, SqL.of (e.h _ _ hp), atI_nat h, q v G1 H1 (.refl e.sub) rfl⟩
/-- len -/
theorem ev_lenL {α : Type} {R : Rel α} {xs : List α} (ha : Ev ta σ G H (isR (qL R) xs)) : Ev (tCB (fun vs H Q => ∃ p ys, vs = [.ref p] ∧ (SqL K H p ys ∨ SqT K H p ys) ∧ Q (.int ys.length) H) (tCons ta tNil)) σ G H (isV (.int (xs.length : Int))) := fun G1 H1 e Q q =>
  ha G1 H1 e _ fun x G2 H2 e2 ⟨p, vs, hx, hp, pr⟩ => ⟨p, vs, by rw [hx], .inl (SqL.of (e2.sub _ _ hp)), q _ G2 H2 e2 (by rw [← paired_len pr]; rfl)⟩
theorem ev_lenV {p : Addr} {vs : List V} (ha : Ev ta σ G H (isV (.ref p))) (hp : H p = some (.lst vs)) : Ev (tCB (fun vs H Q => ∃ p ys, vs = [.ref p] ∧ (SqL K H p ys ∨ SqT K H p ys) ∧ Q (.int ys.length) H) (tCons ta tNil)) σ G H (isV (.int (vs.length : Int))) := fun G1 H1 e Q q =>
  ha G1 H1 e _ fun x G2 H2 e2 hx => ⟨p, vs, by rw [show x = _ from hx], .inl (SqL.of (e2.h _ _ (e.h _ _ hp))), q _ G2 H2 e2 rfl⟩
/-- sum, max of whole numbers -/
theorem ev_sum {ns : List Int} (ha : Ev ta σ G H (isR (qL qI) ns)) : Ev (tCB (rSum K) (tCons ta tNil)) σ G H (isV (.int ns.sum)) := fun G1 H1 e Q q =>
  ha G1 H1 e _ fun x G2 H2 e2 ⟨p, vs, hx, hp, pr⟩ => ⟨p, ns, by rw [hx], SqL.of (e2.sub _ _ (by rw [hp, qI_list pr])), q _ G2 H2 e2 rfl⟩
theorem sum_casts : ∀ ns : List Nat, (ns.map fun (n : Nat) => (n : Int)).sum = ((ns.sum : Nat) : Int)
  | [] => rfl
  | n :: r => by rw [List.map_cons, List.sum_cons, List.sum_cons, sum_casts r]; omega
theorem ev_sumN {ns : List Nat} (ha : Ev ta σ G H (isR (qL qN) ns)) : Ev (tCB (rSum K) (tCons ta tNil)) σ G H (isV (.int ((ns.sum : Nat) : Int))) := fun G1 H1 e Q q =>
  ha G1 H1 e _ fun x G2 H2 e2 ⟨p, vs, hx, hp, pr⟩ => ⟨p, ns.map fun (n : Nat) => (n : Int), by rw [hx], SqL.of (e2.sub _ _ (by rw [hp, qN_list pr, List.map_map]; rfl)), q _ G2 H2 e2 (by rw [sum_casts]; rfl)⟩
theorem ev_maxN {ns : List Nat} {m : Nat} (ha : Ev ta σ G H (isR (qL qN) ns)) (hm : m ∈ ns) (hg : ∀ x ∈ ns, x ≤ m) : Ev (tCB (rMax K) (tCons ta tNil)) σ G H (isV (.int (m : Int))) := fun G1 H1 e Q q =>
  ha G1 H1 e _ fun x G2 H2 e2 ⟨p, vs, hx, hp, pr⟩ => ⟨p, ns.map fun (n : Nat) => (n : Int), by rw [hx], SqL.of (e2.sub _ _ (by rw [hp, qN_list pr, List.map_map]; rfl)), by rw [List.length_map]; exact List.length_pos_of_mem hm, fun k hk hle => q _ G2 H2 e2 (by
    obtain ⟨z, hz, rfl⟩ := List.mem_map.mp hk
    have h1 := hg z hz
    have h2 := hle (m : Int) (List.mem_map.mpr ⟨m, hm, rfl⟩)
    have : z = m := by omega
    rw [this]; rfl)⟩
theorem ev_all {bs : List Bool} (ha : Ev ta σ G H (isR (qL qB) bs)) : Ev (tCB (fun vs H Q => ∃ (a : Addr) (ys : List Bool), vs = [V.ref a] ∧ SqL K H a (ys.map V.bl) ∧ Q (.bl (ys.all id)) H) (tCons ta tNil)) σ G H (isV (.bl (bs.all id))) := fun G1 H1 e Q q =>
  ha G1 H1 e _ fun x G2 H2 e2 ⟨p, vs, hx, hp, pr⟩ => ⟨p, bs, by rw [hx], SqL.of (e2.sub _ _ (by rw [hp, qB_list pr])), q _ G2 H2 e2 rfl⟩
theorem ev_any {bs : List Bool} (ha : Ev ta σ G H (isR (qL qB) bs)) : Ev (tCB (fun vs H Q => ∃ (a : Addr) (ys : List Bool), vs = [V.ref a] ∧ SqL K H a (ys.map V.bl) ∧ Q (.bl (ys.any id)) H) (tCons ta tNil)) σ G H (isV (.bl (bs.any id))) := fun G1 H1 e Q q =>
  ha G1 H1 e _ fun x G2 H2 e2 ⟨p, vs, hx, hp, pr⟩ => ⟨p, bs, by rw [hx], SqL.of (e2.sub _ _ (by rw [hp, qB_list pr])), q _ G2 H2 e2 rfl⟩
theorem ev_abs {i : Int} (ha : Ev ta σ G H (isV (.int i))) : Ev (tCB (fun xs H Q => ∃ i, xs = [.int i] ∧ Q (.int (if i < 0 then -i else i)) H) (tCons ta tNil)) σ G H (isV (.int (if i < 0 then -i else i))) := fun G1 H1 e Q q =>
  ha G1 H1 e _ fun x G2 H2 e2 hx => ⟨i, by rw [show x = _ from hx], q _ G2 H2 e2 rfl⟩
/-- list(xs) -/
theorem ev_listL {α : Type} {R : Rel α} [Mo R] {xs : List α} (ha : Ev ta σ G H (isR (qL R) xs)) : Ev (tCB (fun vs H Q => ∃ p ys, vs = [.ref p] ∧ (SqL K H p ys ∨ SqT K H p ys) ∧ ∀ l, H l = none → Q (.ref l) (upd H l (.lst ys))) (tCons ta tNil)) σ G H (isN R xs) := fun G1 H1 e Q q =>
  ha G1 H1 e _ fun x G2 H2 e2 ⟨p, vs, hx, hp, pr⟩ => ⟨p, vs, by rw [hx], .inl (SqL.of (e2.sub _ _ hp)), fun l hl => by
    have g := none_of e2.sub hl
    exact q _ G2 _ (e2.loc (none_of e2.h hl) g) ⟨l, vs, rfl, none_of e2.h hl, g, upd_same, pr⟩⟩
/-- a conditional expression -/
theorem ev_if {b : Bool} (h : EvT t σ G H b) (h1 : b = true → Ev ta σ G H P) (h2 : b = false → Ev tb σ G H P) [An P] : Ev (tIf t ta tb) σ G H P := fun G1 H1 e Q q => h G1 H1 e _ fun G2 H2 e2 => by
  cases b with
  | true =>
    rw [if_pos rfl]
    exact h1 rfl G2 H2 (e.trans e2) Q fun v G3 H3 e3 p => q v G3 H3 (e2.trans e3) (An.an e2.h p)
  | false =>
    rw [if_neg Bool.false_ne_true]
    exact h2 rfl G2 H2 (e.trans e2) Q fun v G3 H3 e3 p => q v G3 H3 (e2.trans e3) (An.an e2.h p)
theorem et_test {b : Bool} (h : Ev te σ G H (isV (.bl b))) : EvT (tTest te) σ G H b := fun G1 H1 e Q q => h G1 H1 e _ fun v G2 H2 e2 p => ⟨b, p, q G2 H2 e2⟩
theorem et_B {b : Bool} (h : Ev te σ G H (isV (.bl b))) : EvT (tB te) σ G H b := fun G1 H1 e Q q => h G1 H1 e _ fun v G2 H2 e2 p => ⟨b, p, q G2 H2 e2⟩
theorem et_not {b : Bool} (h : EvT t σ G H b) : EvT (tNot t) σ G H (!b) := fun G1 H1 e Q q => h G1 H1 e _ fun G2 H2 e2 => q G2 H2 e2
theorem et_and {a b : Bool} (h1 : EvT t σ G H a) (h2 : a = true → EvT u σ G H b) : EvT (tAnd t u) σ G H (a && b) := fun G1 H1 e Q q => h1 G1 H1 e _ fun G2 H2 e2 => by
  cases a with
  | true =>
    rw [if_pos rfl]
    exact h2 rfl G2 H2 (e.trans e2) Q fun G3 H3 e3 => q G3 H3 (e2.trans e3)
  | false =>
    rw [if_neg Bool.false_ne_true]
    exact q G2 H2 e2
theorem et_or {a b : Bool} (h1 : EvT t σ G H a) (h2 : a = false → EvT u σ G H b) : EvT (tOr t u) σ G H (a || b) := fun G1 H1 e Q q => h1 G1 H1 e _ fun G2 H2 e2 => by
  cases a with
  | true =>
    rw [if_pos rfl]
    exact q G2 H2 e2
  | false =>
    rw [if_neg Bool.false_ne_true]
    exact h2 rfl G2 H2 (e.trans e2) Q fun G3 H3 e3 => q G3 H3 (e2.trans e3)
theorem et_is {a b : Bool} (h : EvT t σ G H a) (e : a = b) : EvT t σ G H b := e ▸ h
theorem ea_nil : EvA tNil σ G H [] := fun G1 H1 e Q q => q [] G1 H1 (.refl e.sub) rfl
theorem ea_cons {A : Arg} [MoA A] {As : List Arg} {tr : TA} (h : Ev te σ G H fun _ v G _ => A G v) (hr : EvA tr σ G H As) : EvA (tCons te tr) σ G H (A :: As) := fun G1 H1 e Q q =>
  h G1 H1 e _ fun v G2 H2 e2 p => hr G2 H2 (e.trans e2) _ fun vs G3 H3 e3 ps => q (v :: vs) G3 H3 (e2.trans e3) ⟨v, vs, rfl, MoA.mo e3.g p, ps⟩
theorem ea_R {α : Type} {R : Rel α} [Mo R] {a : α} {As : List Arg} {tr : TA} (h : Ev te σ G H (isR R a)) (hr : EvA tr σ G H As) : EvA (tCons te tr) σ G H (aR R a :: As) := ea_cons (A := aR R a) h hr
theorem ea_V {As : List Arg} {tr : TA} (h : Ev te σ G H (isV v)) (hr : EvA tr σ G H As) : EvA (tCons te tr) σ G H (aV v :: As) := ea_cons (A := aV v) h hr
end

/-! displays -/
section
variable {σ : St} {G H : Hp} {ta : TA} {As : List Arg}
/-- a list of values that are known -/
def Vs : List V → List Arg := List.map aV
theorem args_Vs : ∀ {vs us : List V} {G : Hp}, Args (Vs vs) G us → us = vs
  | [], us, G, h => h
  | v :: r, us, G, ⟨w, q, e, h1, h2⟩ => by rw [e, show w = v from h1, args_Vs h2]
theorem ev_lstV {vs : List V} (h : EvA ta σ G H (Vs vs)) (hl : vs.length ≤ 1000) {α : Type} {R : Rel α} {xs : List α} (hr : ∀ G, Paired (R G) vs xs) : Ev (tLst ta) σ G H (isN R xs) := fun G1 H1 e Q q =>
  h G1 H1 e _ fun us G2 H2 e2 a => by
    have eu := args_Vs a
    subst eu
    exact ⟨Nat.le_of_lt (small1000 hl), fun p hp => q _ G2 _ (e2.loc (none_of e2.h hp) (none_of e2.sub hp)) ⟨p, us, rfl, none_of e2.h hp, none_of e2.sub hp, upd_same, hr G2⟩⟩
theorem ev_tupV {vs : List V} (h : EvA ta σ G H (Vs vs)) (hl : vs.length ≤ 1000) : Ev (tTup ta) σ G H (fun _ v G _ => ∃ p, v = .ref p ∧ G p = some (.tup vs)) := fun G1 H1 e Q q =>
  h G1 H1 e _ fun us G2 H2 e2 a => by
    have eu := args_Vs a
    subst eu
    exact ⟨Nat.le_of_lt (small1000 hl), fun p hp => q _ _ _ (e2.new hp) ⟨p, rfl, upd_same⟩⟩
end

/-! statements -/
section
variable {σ : St} {G H : Hp} {te : TE} {P : PVal} {D : Ends} {i : Nat} {t u w : TS} {c : TT}
theorem st_set (s : Same G H) (h : Ev te σ G H P) (k : ∀ v G' H', Ext G H G' H' → P H v G' H' → D.nx (σ.set i (some v)) H') : tAsg te (gName i) D σ H := h G H (.refl s) _ fun v G' H' e p => k v G' H' e p
theorem sq_set (s : Same G H) (h : Ev te σ G H P) (k : ∀ v G' H', Ext G H G' H' → P H v G' H' → w D (σ.set i (some v)) H') : tSeq (tAsg te (gName i)) w D σ H := h G H (.refl s) _ fun v G' H' e p => k v G' H' e p
theorem st_ret (s : Same G H) (h : Ev te σ G H P) (k : ∀ v G' H', Ext G H G' H' → P H v G' H' → D.rt v H') : tRet te D σ H := h G H (.refl s) _ fun v G' H' e p => k v G' H' e p
theorem st_if {b : Bool} (s : Same G H) (h : EvT c σ G H b) (k1 : b = true → ∀ G' H', Ext G H G' H' → t D σ H') (k2 : b = false → ∀ G' H', Ext G H G' H' → u D σ H') : tIfS c t u D σ H := h G H (.refl s) _ fun G' H' e => by
  cases b with
  | true => rw [if_pos rfl]; exact k1 rfl G' H' e
  | false => rw [if_neg Bool.false_ne_true]; exact k2 rfl G' H' e
theorem sq_if {b : Bool} (s : Same G H) (h : EvT c σ G H b) (k1 : b = true → ∀ G' H', Ext G H G' H' → t { D with nx := w D } σ H') (k2 : b = false → ∀ G' H', Ext G H G' H' → u { D with nx := w D } σ H') : tSeq (tIfS c t u) w D σ H := st_if (D := { D with nx := w D }) s h k1 k2
end
end ER
/-! ## ErProm -/
/-! promises, loops, comprehensions over what stands still -/
namespace ER
open PySem L2

/-! a step of an iterator may leave a new tuple -/
def Jk (H H2 : Hp) : Prop := H2 = H ∨ ∃ T o, H T = none ∧ H2 = upd H T o
theorem Jk.same {H H2 : Hp} (j : Jk H H2) : Same H H2 := by
  rcases j with rfl | ⟨T, o, h, rfl⟩
  · exact .refl _
  · exact same_upd h
theorem Jk.at {H H2 : Hp} (j : Jk H H2) {p : Addr} {o : HO} (h : H p = some o) : H2 p = some o := j.same _ _ h
theorem Ext.jk {G H G' H' H2 : Hp} (e : Ext G H G' H') (j : Jk H' H2) : Ext G H G' H2 := ⟨e.g, e.h.trans j.same, e.sub.trans j.same, e.old⟩
/-- a source of items -/
structure Src {ι : Type} (J : It) (g : TG) (G0 : Hp) (its : List ι) (B : Hp → ι → St → St → Prop) : Prop where
  go : ∀ i H, i < its.length → Same G0 H → J.go i H
  stop : ∀ H, Same G0 H → J.stop its.length H
  item : ∀ i it H x H' σ (K : St → Hp → Prop), its[i]? = some it → Same G0 H → J.yld i H x H' → (∀ σ' H2, B G0 it σ σ' → Jk H H2 → K σ' H2) → g x σ H' K
section
variable {K : PySem.W.Frag} {G0 : Hp} {s t : Nat}
def bL {α : Type} (S : Rel α) (s : Nat) : Hp → α → St → St → Prop := fun G x σ σ' => ∃ v, S G v x ∧ σ' = σ.set s (some v)
def bR (s : Nat) : Hp → Nat → St → St → Prop := fun _ i σ σ' => σ' = σ.set s (some (.int (i : Int)))
def bE {α : Type} (S : Rel α) (s t : Nat) : Hp → α × Nat → St → St → Prop := fun G x σ σ' => ∃ v, S G v x.1 ∧ σ' = (σ.set s (some (.int (x.2 : Int)))).set t (some v)
def bZ {α β : Type} (S : Rel α) (S' : Rel β) (s t : Nat) : Hp → α × β → St → St → Prop := fun G x σ σ' => ∃ v w, S G v x.1 ∧ S' G w x.2 ∧ σ' = (σ.set s (some v)).set t (some w)
theorem src_list {α : Type} {S : Rel α} {a : Addr} {vs : List V} {xs : List α} (h : G0 a = some (.lst vs)) (r : Paired (S G0) vs xs) : Src (Itl K a) (gName s) G0 xs (bL S s) where
  go := fun i H hi sm => by
    have hl := paired_len r
    exact ⟨vs, vs[i], SqL.of (sm _ _ h), List.getElem?_eq_getElem (by omega)⟩
  stop := fun H sm => ⟨vs, SqL.of (sm _ _ h), Nat.le_of_eq (paired_len r)⟩
  item := fun i it H x H' σ K hit sm y k => by
    obtain ⟨rfl, f⟩ := y
    obtain ⟨v, hv, rv⟩ := paired_at r hit
    have e : v = x := Option.some.inj (hv.symm.trans (f vs (SqL.of (sm _ _ h))))
    subst e
    exact k _ _ ⟨v, rv, rfl⟩ (.inl rfl)
theorem src_range {n : Nat} : Src (Itr 0 n) (gName s) G0 (List.range n) (bR s) where
  go := fun i H hi _ => by
    rw [List.length_range] at hi
    exact hi
  stop := fun H _ => by show n ≤ _; simp
  item := fun i it H x H' σ K hit sm y k => by
    obtain ⟨rfl, rfl⟩ := y
    have e : it = i := by
      rw [List.getElem?_range (by
        have := (List.getElem?_eq_some_iff.mp hit).1
        simpa using this)] at hit
      exact (Option.some.inj hit).symm
    subst e
    refine k _ _ ?_ (.inl rfl)
    show _ = _
    rw [Int.zero_add]
theorem src_enum {α : Type} {S : Rel α} {a : Addr} {vs : List V} {xs : List α} (h : G0 a = some (.lst vs)) (r : Paired (S G0) vs xs) : Src (Ite K a) (gTup K 2 (gCons (gName s) (gCons (gName t) gNil))) G0 xs.zipIdx (bE S s t) where
  go := fun i H hi sm => by
    have hl := paired_len r
    rw [List.length_zipIdx] at hi
    exact ⟨vs, vs[i], SqL.of (sm _ _ h), List.getElem?_eq_getElem (by omega)⟩
  stop := fun H sm => ⟨vs, SqL.of (sm _ _ h), by rw [List.length_zipIdx]; exact Nat.le_of_eq (paired_len r)⟩
  item := fun i it H x H' σ K hit sm y k => by
    obtain ⟨T, z, rfl, hT, rfl, f⟩ := y
    rw [List.getElem?_zipIdx] at hit
    cases q : xs[i]? with
    | none => rw [q] at hit; simp at hit
    | some b =>
      rw [q] at hit
      have e : (b, 0 + i) = it := Option.some.inj hit
      rw [Nat.zero_add] at e
      subst e
      obtain ⟨v, hv, rv⟩ := paired_at r q
      have e : v = z := Option.some.inj (hv.symm.trans (f vs (SqL.of (sm _ _ h))))
      subst e
      refine ⟨T, [.int (i : Nat), v], rfl, SqT.of upd_same, rfl, _, _, rfl, _, _, rfl, rfl, ?_⟩
      exact k _ _ ⟨v, rv, rfl⟩ (.inr ⟨T, _, hT, rfl⟩)
theorem src_zip {α β : Type} {S : Rel α} {S' : Rel β} {a b : Addr} {vs ws : List V} {xs : List α} {ys : List β} (h : G0 a = some (.lst vs)) (r : Paired (S G0) vs xs) (h' : G0 b = some (.lst ws)) (r' : Paired (S' G0) ws ys) :
    Src (Itz K a b) (gTup K 2 (gCons (gName s) (gCons (gName t) gNil))) G0 (xs.zip ys) (bZ S S' s t) where
  go := fun i H hi sm => by
    have hl := paired_len r
    have hl' := paired_len r'
    rw [List.length_zip] at hi
    exact ⟨vs, ws, vs[i], ws[i], SqL.of (sm _ _ h), SqL.of (sm _ _ h'), List.getElem?_eq_getElem (by omega), List.getElem?_eq_getElem (by omega)⟩
  stop := fun H sm => ⟨vs, ws, SqL.of (sm _ _ h), SqL.of (sm _ _ h'), by
    have hl := paired_len r
    have hl' := paired_len r'
    rw [List.length_zip]
    omega⟩
  item := fun i it H x H' σ K hit sm y k => by
    obtain ⟨T, z, z', rfl, hT, rfl, f, f'⟩ := y
    have z1 : xs[i]? = some it.1 ∧ ys[i]? = some it.2 := List.getElem?_zip_eq_some.mp hit
    obtain ⟨v, hv, rv⟩ := paired_at r z1.1
    obtain ⟨w, hw, rw'⟩ := paired_at r' z1.2
    have e : v = z := Option.some.inj (hv.symm.trans (f vs (SqL.of (sm _ _ h))))
    have e' : w = z' := Option.some.inj (hw.symm.trans (f' ws (SqL.of (sm _ _ h'))))
    subst e e'
    refine ⟨T, [v, w], rfl, SqT.of upd_same, rfl, _, _, rfl, _, _, rfl, rfl, ?_⟩
    exact k _ _ ⟨v, w, rv, rw', rfl⟩ (.inr ⟨T, _, hT, rfl⟩)
end

/-! comprehensions -/
section
variable {ι β : Type} {σ : St} {G H : Hp} {K : PySem.W.Frag} {J : It} {g : TG} {tt : TT} {te : TE} {vs : List Nat} {its : List ι} {B : Hp → ι → St → St → Prop} {R : Rel β} [Mo R] {f : ι → β} {p : ι → Bool}
theorem et_yes : EvT tYes σ G H true := fun G1 H1 e Q q => q G1 H1 (.refl e.sub)
theorem filter_take {α : Type} (p : α → Bool) {l : List α} {i : Nat} {x : α} (h : l[i]? = some x) : (l.take (i + 1)).filter p = (l.take i).filter p ++ (if p x = true then [x] else []) := by
  have e : l.take (i + 1) = l.take i ++ [x] := by rw [List.take_add_one, h]; rfl
  rw [e, List.filter_append]
  congr 1
  by_cases c : p x = true
  · rw [List.filter_cons_of_pos c, if_pos c]; rfl
  · rw [List.filter_cons_of_neg c, if_neg c]; rfl
theorem lc_src (S : Src J g G its B) (sm : Same G H) (hn : its.length ≤ 1000)
    (hw : ∀ it ∈ its, ∀ σ', B G it (wipe σ vs) σ' → wipe σ' vs = wipe σ vs)
    (hit : ∀ it ∈ its, ∀ σ' G' H', Ext G H G' H' → B G it (wipe σ vs) σ' → EvT tt σ' G' H' (p it) ∧ (p it = true → Ev te σ' G' H' (isR R (f it))))
    {Q : VK} (q : ∀ v G2 H2, Ext G H G2 H2 → isN R ((its.filter p).map f) H v G2 H2 → Q v H2) :
    ∀ D, H D = none → ∃ W : Nat → Nat → Hp → Prop, (∃ m, W 0 m (upd H D (.lst []))) ∧ ∀ i m H, W i m H →
      (J.stop i H ∧ Q (.ref D) H) ∨ (J.go i H ∧ ∃ Nx : Hp → Prop, (∀ H', Nx H' → ∃ m', m' < m ∧ W (i + 1) m' H') ∧ ∀ x H', J.yld i H x H' → g x (wipe σ vs) H' fun σ2 H2 => wipe σ2 vs = wipe σ vs ∧ tt σ2 H2 fun b H3 =>
        if b = true then te σ2 H3 fun y H4 => ∃ acc, H4 D = some (.lst acc) ∧ acc.length < sizeLine ∧ Nx (upd H4 D (.lst (acc ++ [y]))) else Nx H3) := fun D hD => by
  have gD := none_of sm hD
  let St : Nat → Hp → Prop := fun i H' => ∃ G' acc, Ext G H G' H' ∧ G' D = none ∧ H' D = some (.lst acc) ∧ Paired (R G') acc (((its.take i).filter p).map f) ∧ acc.length ≤ i
  refine ⟨fun i m H' => m = its.length - i ∧ i ≤ its.length ∧ St i H', ⟨its.length, by simp, Nat.zero_le _, G, [], (Ext.refl sm).loc hD gD, gD, upd_same, .nil, Nat.zero_le _⟩, ?_⟩
  rintro i m H' ⟨rfl, hi, G', acc, e, g', h', pr, al⟩
  have s0 : Same G H' := e.g.trans e.sub
  by_cases hlt : i < its.length
  · refine .inr ⟨S.go i H' hlt s0, St (i + 1), fun H2 st => ⟨its.length - (i + 1), by omega, rfl, hlt, st⟩, fun x H2 y => ?_⟩
    have hx : its[i]? = some its[i] := List.getElem?_eq_getElem hlt
    have hm : its[i] ∈ its := List.getElem_mem hlt
    refine S.item i its[i] H' x H2 _ _ hx s0 y fun σ' H3 b j => ⟨hw _ hm σ' b, ?_⟩
    have e3 := e.jk j
    have h3 := j.at h'
    obtain ⟨t1, t2⟩ := hit _ hm σ' G' H3 e3 b
    refine t1 G' H3 (.refl e3.sub) _ fun G4 H4 e4 => ?_
    have ft := filter_take p hx
    cases c : p its[i] with
    | false =>
      rw [if_neg Bool.false_ne_true]
      rw [c] at ft
      simp only [Bool.false_eq_true, if_false, List.append_nil] at ft
      exact ⟨G4, acc, e3.trans e4, e4.out h3 g', e4.h _ _ h3, by rw [ft]; exact paired_mono (fun _ _ => Mo.mo e4.g) pr, by omega⟩
    | true =>
      rw [if_pos rfl]
      rw [c] at ft
      simp only [if_true] at ft
      refine t2 c G4 H4 e4 _ fun v G5 H5 e5 rv => ?_
      have e45 := e4.trans e5
      refine ⟨acc, e45.h _ _ h3, small1000 (by omega), G5, acc ++ [v], ?_, e45.out h3 g', upd_same, ?_, by simp; omega⟩
      · exact (e3.trans e45).loc hD (e45.out h3 g')
      · rw [ft, List.map_append]
        exact paired_append (paired_mono (fun _ _ => Mo.mo e45.g) pr) (.cons rv .nil)
  · have ei : i = its.length := by omega
    subst ei
    rw [List.take_length] at pr
    exact .inl ⟨S.stop H' s0, q _ G' H' e ⟨D, acc, rfl, hD, g', h', pr⟩⟩
theorem ev_lcL {α : Type} {S : Rel α} [Mo S] {tl : TE} {s : Nat} {xs : List α} {f : α → β} {p : α → Bool} (h : Ev tl σ G H (isR (qL S) xs)) (hn : xs.length ≤ 1000) (hw : ∀ v, wipe ((wipe σ vs).set s (some v)) vs = wipe σ vs)
    (hit : ∀ x ∈ xs, ∀ v G' H', Ext G H G' H' → S G' v x → EvT tt ((wipe σ vs).set s (some v)) G' H' (p x) ∧ (p x = true → Ev te ((wipe σ vs).set s (some v)) G' H' (isR R (f x)))) :
    Ev (tLc (iList K tl) (gName s) tt te vs) σ G H (isN R ((xs.filter p).map f)) := fun G1 H1 e Q q =>
  h G1 H1 e _ fun v G2 H2 e2 ⟨a, us, hv, ha, pr⟩ => ⟨a, hv, ⟨us, SqL.of (e2.sub _ _ ha)⟩, lc_src (src_list (s := s) ha pr) e2.sub hn (fun x _ σ' ⟨v, _, e⟩ => by rw [e]; exact hw v)
    (fun x hx σ' G' H' e' ⟨v, rv, es⟩ => by rw [es]; exact hit x hx v G' H' ((e.trans e2).trans e') (Mo.mo e'.g rv)) fun v G3 H3 e3 n => q v G3 H3 (e2.trans e3) (An.an e2.h n)⟩
theorem ev_lcR {tn : TA} {s n : Nat} {f : Nat → β} {p : Nat → Bool} (h : EvA tn σ G H [aV (.int (n : Int))]) (hn : n ≤ 1000) (hw : ∀ v, wipe ((wipe σ vs).set s (some v)) vs = wipe σ vs)
    (hit : ∀ i, i < n → ∀ G' H', Ext G H G' H' → EvT tt ((wipe σ vs).set s (some (.int (i : Int)))) G' H' (p i) ∧ (p i = true → Ev te ((wipe σ vs).set s (some (.int (i : Int)))) G' H' (isR R (f i)))) :
    Ev (tLc (iRng1 tn) (gName s) tt te vs) σ G H (isN R (((List.range n).filter p).map f)) := fun G1 H1 e Q q =>
  h G1 H1 e _ fun us G2 H2 e2 ⟨v, r, hu, hv, hr⟩ => by
    have ev : v = .int (n : Int) := hv
    have er : r = [] := hr
    subst ev er
    refine ⟨(n : Int), hu, by omega, by omega, ?_⟩
    rw [show ((n : Int)).toNat = n by omega]
    exact lc_src src_range e2.sub (by rw [List.length_range]; exact hn) (fun x _ σ' es => by rw [show σ' = _ from es]; exact hw _)
      (fun x hx σ' G' H' e' es => by rw [show σ' = _ from es]; exact hit x (List.mem_range.mp hx) G' H' ((e.trans e2).trans e')) fun v G3 H3 e3 n => q v G3 H3 (e2.trans e3) (An.an e2.h n)
theorem ev_lcE {α : Type} {S : Rel α} [Mo S] {tl : TA} {s t : Nat} {xs : List α} {f : α × Nat → β} {p : α × Nat → Bool} (h : EvA tl σ G H [aR (qL S) xs]) (hn : xs.length ≤ 1000) (hw : ∀ v w, wipe (((wipe σ vs).set s (some v)).set t (some w)) vs = wipe σ vs)
    (hit : ∀ (x : α) (i : Nat), xs[i]? = some x → ∀ v G' H', Ext G H G' H' → S G' v x → EvT tt (((wipe σ vs).set s (some (.int (i : Int)))).set t (some v)) G' H' (p (x, i)) ∧ (p (x, i) = true → Ev te (((wipe σ vs).set s (some (.int (i : Int)))).set t (some v)) G' H' (isR R (f (x, i))))) :
    Ev (tLc (iEnum K tl) (gTup K 2 (gCons (gName s) (gCons (gName t) gNil))) tt te vs) σ G H (isN R ((xs.zipIdx.filter p).map f)) := fun G1 H1 e Q q =>
  h G1 H1 e _ fun us G2 H2 e2 ⟨v, r, hu, ⟨a, ws, hv, ha, pr⟩, hr⟩ => by
    have er : r = [] := hr
    subst hv er
    refine ⟨a, ws, hu, SqL.of (e2.sub _ _ ha), ?_⟩
    exact lc_src (src_enum (s := s) (t := t) ha pr) e2.sub (by rw [List.length_zipIdx]; exact hn) (fun x _ σ' ⟨v, _, es⟩ => by rw [es]; exact hw _ _)
      (fun x hx σ' G' H' e' ⟨v, rv, es⟩ => by
        rw [es]
        obtain ⟨i, hi⟩ := List.mem_iff_getElem?.mp hx
        rw [List.getElem?_zipIdx] at hi
        cases c : xs[i]? with
        | none => rw [c] at hi; simp at hi
        | some y =>
          rw [c] at hi
          have ex : (y, 0 + i) = x := Option.some.inj hi
          rw [Nat.zero_add] at ex
          subst ex
          exact hit y i c v G' H' ((e.trans e2).trans e') (Mo.mo e'.g rv)) fun v G3 H3 e3 n => q v G3 H3 (e2.trans e3) (An.an e2.h n)
theorem ev_lcZ {α γ : Type} {S : Rel α} [Mo S] {S' : Rel γ} [Mo S'] {tl : TA} {s t : Nat} {xs : List α} {ys : List γ} {f : α × γ → β} {p : α × γ → Bool} (h : EvA tl σ G H [aR (qL S) xs, aR (qL S') ys]) (hn : xs.length ≤ 1000) (hw : ∀ v w, wipe (((wipe σ vs).set s (some v)).set t (some w)) vs = wipe σ vs)
    (hit : ∀ (i : Nat) (x : α) (y : γ), xs[i]? = some x → ys[i]? = some y → ∀ v w G' H', Ext G H G' H' → S G' v x → S' G' w y → EvT tt (((wipe σ vs).set s (some v)).set t (some w)) G' H' (p (x, y)) ∧ (p (x, y) = true → Ev te (((wipe σ vs).set s (some v)).set t (some w)) G' H' (isR R (f (x, y))))) :
    Ev (tLc (iZip K tl) (gTup K 2 (gCons (gName s) (gCons (gName t) gNil))) tt te vs) σ G H (isN R (((xs.zip ys).filter p).map f)) := fun G1 H1 e Q q =>
  h G1 H1 e _ fun us G2 H2 e2 ⟨v, r, hu, ⟨a, ws, hv, ha, pr⟩, v', r', hr, ⟨a', ws', hv', ha', pr'⟩, hr'⟩ => by
    have er : r' = [] := hr'
    subst hv hv' er
    subst hr
    refine ⟨a, a', ws, ws', hu, SqL.of (e2.sub _ _ ha), SqL.of (e2.sub _ _ ha'), ?_⟩
    exact lc_src (src_zip (s := s) (t := t) ha pr ha' pr') e2.sub (by rw [List.length_zip]; omega) (fun x _ σ' ⟨v, w, _, _, es⟩ => by rw [es]; exact hw _ _)
      (fun x hx σ' G' H' e' ⟨v, w, rv, rw', es⟩ => by
        rw [es]
        obtain ⟨i, hi⟩ := List.mem_iff_getElem?.mp hx
        have z := List.getElem?_zip_eq_some.mp hi
        exact hit i x.1 x.2 z.1 z.2 v w G' H' ((e.trans e2).trans e') (Mo.mo e'.g rv) (Mo.mo e'.g rw')) fun v G3 H3 e3 n => q v G3 H3 (e2.trans e3) (An.an e2.h n)
end

/-! loops -/
section
variable {ι : Type} {σ : St} {G H : Hp} {K : PySem.W.Frag} {J : It} {g : TG} {tb : TS} {D : Ends} {its : List ι} {B : Hp → ι → St → St → Prop}
abbrev Nx (Inv : Nat → St → Hp → Hp → Prop) (i : Nat) (G : Hp) : St → Hp → Prop := fun σ' H' => ∃ G', Same G G' ∧ Same G' H' ∧ Inv i σ' G' H'
theorem fo_src (S : Src J g G its B) (sm : Same G H) (Inv : Nat → St → Hp → Hp → Prop) (h0 : Inv 0 σ G H)
    (turn : ∀ i it σ1 σ2 G1 H1 H2, its[i]? = some it → Same G G1 → Same G1 H1 → Inv i σ1 G1 H1 → B G it σ1 σ2 → Jk H1 H2 → tb { D with nx := Nx Inv (i + 1) G1, ct := Nx Inv (i + 1) G1, bk := D.nx } σ2 H2)
    (fin : ∀ σ1 G1 H1, Same G G1 → Same G1 H1 → Inv its.length σ1 G1 H1 → D.nx σ1 H1) :
    ∃ W : Nat → Nat → St → Hp → Prop, (∃ m, W 0 m σ H) ∧ ∀ i m σ H, W i m σ H →
      (J.stop i H ∧ D.nx σ H) ∨ (J.go i H ∧ ∃ N : St → Hp → Prop, (∀ σ' H', N σ' H' → ∃ m', m' < m ∧ W (i + 1) m' σ' H') ∧ ∀ x H', J.yld i H x H' → g x σ H' fun σ2 H2 => tb { D with nx := N, ct := N, bk := D.nx } σ2 H2) := by
  refine ⟨fun i m σ1 H1 => m = its.length - i ∧ i ≤ its.length ∧ Nx Inv i G σ1 H1, ⟨its.length, by simp, Nat.zero_le _, G, .refl G, sm, h0⟩, ?_⟩
  rintro i m σ1 H1 ⟨rfl, hi, G1, s1, s2, inv⟩
  have s0 := s1.trans s2
  by_cases hlt : i < its.length
  · refine .inr ⟨S.go i H1 hlt s0, Nx Inv (i + 1) G1, fun σ2 H2 ⟨G', a, b, c⟩ => ⟨its.length - (i + 1), by omega, rfl, hlt, G', s1.trans a, b, c⟩, fun x H2 y => ?_⟩
    have hx : its[i]? = some its[i] := List.getElem?_eq_getElem hlt
    refine S.item i its[i] H1 x H2 _ _ hx s0 y fun σ' H3 b j => ?_
    exact turn i its[i] σ1 σ' G1 H1 H3 hx s1 s2 inv b j
  · have ei : i = its.length := by omega
    subst ei
    exact .inl ⟨S.stop H1 s0, fin σ1 G1 H1 s1 s2 inv⟩
end
end ER
/-! ## ErCall -/
/-! loops as statements; promises -/
namespace ER
open PySem L2

section
variable {σ : St} {G H : Hp} {K : PySem.W.Frag} {tb : TS} {D : Ends}
theorem fo_list {α : Type} {S : Rel α} [Mo S] {tl : TE} {s : Nat} {xs : List α} (sm : Same G H) (h : Ev tl σ G H (isR (qL S) xs)) (Inv : Nat → St → Hp → Hp → Prop) (h0 : ∀ G1 H1, Ext G H G1 H1 → Inv 0 σ G1 H1)
    (turn : ∀ (i : Nat) (x : α) v σ1 G1 H1, xs[i]? = some x → Same G G1 → Same G1 H1 → S G1 v x → Inv i σ1 G1 H1 → tb { D with nx := Nx Inv (i + 1) G1, ct := Nx Inv (i + 1) G1, bk := D.nx } (σ1.set s (some v)) H1)
    (fin : ∀ σ1 G1 H1, Same G G1 → Same G1 H1 → Inv xs.length σ1 G1 H1 → D.nx σ1 H1) : tFor (iList K tl) (gName s) tb D σ H :=
  h G H (.refl sm) _ fun v G2 H2 e2 ⟨a, us, hv, ha, pr⟩ => ⟨a, hv, ⟨us, SqL.of (e2.sub _ _ ha)⟩, by
    let F : Nat → St → Hp → Prop := fun i σ' H' => ∃ G', Same G2 G' ∧ Same G' H' ∧ Inv i σ' G' H'
    refine ⟨fun i m σ1 H1 => m = xs.length - i ∧ i ≤ xs.length ∧ F i σ1 H1, ⟨xs.length, by simp, Nat.zero_le _, G2, .refl G2, e2.sub, h0 G2 H2 e2⟩, ?_⟩
    rintro i m σ1 H1 ⟨rfl, hi, G1, s1, s2, inv⟩
    have hs : SqL K H1 a us := SqL.of (s2 _ _ (s1 _ _ ha))
    have hl := paired_len pr
    by_cases hlt : i < xs.length
    · refine .inr ⟨⟨us, us[i], hs, List.getElem?_eq_getElem (by omega)⟩, Nx Inv (i + 1) G1, fun σ2 H2 ⟨G', a, b, c⟩ => ⟨xs.length - (i + 1), by omega, rfl, hlt, G', s1.trans a, b, c⟩, fun x H2 y => ?_⟩
      obtain ⟨rfl, f⟩ := y
      have hx : xs[i]? = some xs[i] := List.getElem?_eq_getElem hlt
      obtain ⟨u, hu, ru⟩ := paired_at pr hx
      have e : u = x := Option.some.inj (hu.symm.trans (f us hs))
      subst e
      exact turn i xs[i] u σ1 G1 _ hx (e2.g.trans s1) s2 (Mo.mo s1 ru) inv
    · have ei : i = xs.length := by omega
      subst ei
      exact .inl ⟨⟨us, hs, Nat.le_of_eq hl⟩, fin σ1 G1 H1 (e2.g.trans s1) s2 inv⟩⟩
theorem fo_range {tn : TA} {s n : Nat} (sm : Same G H) (h : EvA tn σ G H [aV (.int (n : Int))]) (hn : n ≤ 1000000) (Inv : Nat → St → Hp → Hp → Prop) (h0 : ∀ G1 H1, Ext G H G1 H1 → Inv 0 σ G1 H1)
    (turn : ∀ (i : Nat) σ1 G1 H1, i < n → Same G G1 → Same G1 H1 → Inv i σ1 G1 H1 → tb { D with nx := Nx Inv (i + 1) G1, ct := Nx Inv (i + 1) G1, bk := D.nx } (σ1.set s (some (.int (i : Int)))) H1)
    (fin : ∀ σ1 G1 H1, Same G G1 → Same G1 H1 → Inv n σ1 G1 H1 → D.nx σ1 H1) : tFor (iRng1 tn) (gName s) tb D σ H :=
  h G H (.refl sm) _ fun us G2 H2 e2 ⟨v, r, hu, hv, hr⟩ => by
    have ev : v = .int (n : Int) := hv
    have er : r = [] := hr
    subst ev er
    refine ⟨(n : Int), hu, by omega, by omega, ?_⟩
    rw [show ((n : Int)).toNat = n by omega]
    refine ⟨fun i m σ1 H1 => m = n - i ∧ i ≤ n ∧ ∃ G', Same G2 G' ∧ Same G' H1 ∧ Inv i σ1 G' H1, ⟨n, by simp, Nat.zero_le _, G2, .refl G2, e2.sub, h0 G2 H2 e2⟩, ?_⟩
    rintro i m σ1 H1 ⟨rfl, hi, G1, s1, s2, inv⟩
    by_cases hlt : i < n
    · refine .inr ⟨hlt, Nx Inv (i + 1) G1, fun σ2 H2 ⟨G', a, b, c⟩ => ⟨n - (i + 1), by omega, rfl, hlt, G', s1.trans a, b, c⟩, fun x H2 y => ?_⟩
      obtain ⟨rfl, rfl⟩ := y
      show tb _ (σ1.set s (some (.int (0 + (i : Int))))) _
      rw [Int.zero_add]
      exact turn i σ1 G1 _ hlt (e2.g.trans s1) s2 inv
    · have ei : i = n := by omega
      subst ei
      exact .inl ⟨Nat.le_refl _, fin σ1 G1 H1 (e2.g.trans s1) s2 inv⟩
theorem fo_enum {α : Type} {S : Rel α} [Mo S] {tl : TA} {s t : Nat} {xs : List α} (sm : Same G H) (h : EvA tl σ G H [aR (qL S) xs]) (Inv : Nat → St → Hp → Hp → Prop) (h0 : ∀ G1 H1, Ext G H G1 H1 → Inv 0 σ G1 H1)
    (turn : ∀ (i : Nat) (x : α) v σ1 G1 H1 H2, xs[i]? = some x → Same G G1 → Same G1 H1 → S G1 v x → Inv i σ1 G1 H1 → Jk H1 H2 → tb { D with nx := Nx Inv (i + 1) G1, ct := Nx Inv (i + 1) G1, bk := D.nx } ((σ1.set s (some (.int (i : Int)))).set t (some v)) H2)
    (fin : ∀ σ1 G1 H1, Same G G1 → Same G1 H1 → Inv xs.length σ1 G1 H1 → D.nx σ1 H1) : tFor (iEnum K tl) (gTup K 2 (gCons (gName s) (gCons (gName t) gNil))) tb D σ H :=
  h G H (.refl sm) _ fun us G2 H2 e2 ⟨v, r, hu, ⟨a, ws, hv, ha, pr⟩, hr⟩ => by
    have er : r = [] := hr
    subst hv er
    refine ⟨a, ws, hu, SqL.of (e2.sub _ _ ha), ?_⟩
    refine fo_src (src_enum (s := s) (t := t) ha pr) e2.sub Inv (h0 G2 H2 e2) (fun i it σ1 σ2 G1 H1 H3 hit s1 s2 inv b j => ?_) (fun σ1 G1 H1 s1 s2 inv => fin σ1 G1 H1 (e2.g.trans s1) s2 (by rw [List.length_zipIdx] at inv; exact inv))
    obtain ⟨v, rv, es⟩ := b
    rw [List.getElem?_zipIdx] at hit
    cases c : xs[i]? with
    | none => rw [c] at hit; simp at hit
    | some y =>
      rw [c] at hit
      have ex : (y, 0 + i) = it := Option.some.inj hit
      rw [Nat.zero_add] at ex
      subst ex
      rw [es]
      exact turn i y v σ1 G1 H1 H3 c (e2.g.trans s1) s2 (Mo.mo s1 rv) inv j
theorem fo_zip {α β : Type} {S : Rel α} [Mo S] {S' : Rel β} [Mo S'] {tl : TA} {s t : Nat} {xs : List α} {ys : List β} (sm : Same G H) (h : EvA tl σ G H [aR (qL S) xs, aR (qL S') ys]) (Inv : Nat → St → Hp → Hp → Prop) (h0 : ∀ G1 H1, Ext G H G1 H1 → Inv 0 σ G1 H1)
    (turn : ∀ (i : Nat) (x : α) (y : β) v w σ1 G1 H1 H2, xs[i]? = some x → ys[i]? = some y → Same G G1 → Same G1 H1 → S G1 v x → S' G1 w y → Inv i σ1 G1 H1 → Jk H1 H2 → tb { D with nx := Nx Inv (i + 1) G1, ct := Nx Inv (i + 1) G1, bk := D.nx } ((σ1.set s (some v)).set t (some w)) H2)
    (fin : ∀ σ1 G1 H1, Same G G1 → Same G1 H1 → Inv (min xs.length ys.length) σ1 G1 H1 → D.nx σ1 H1) : tFor (iZip K tl) (gTup K 2 (gCons (gName s) (gCons (gName t) gNil))) tb D σ H :=
  h G H (.refl sm) _ fun us G2 H2 e2 ⟨v, r, hu, ⟨a, ws, hv, ha, pr⟩, v', r', hr, ⟨a', ws', hv', ha', pr'⟩, hr'⟩ => by
    have er : r' = [] := hr'
    subst hv hv' er
    subst hr
    refine ⟨a, a', ws, ws', hu, SqL.of (e2.sub _ _ ha), SqL.of (e2.sub _ _ ha'), ?_⟩
    refine fo_src (src_zip (s := s) (t := t) ha pr ha' pr') e2.sub Inv (h0 G2 H2 e2) (fun i it σ1 σ2 G1 H1 H3 hit s1 s2 inv b j => ?_) (fun σ1 G1 H1 s1 s2 inv => fin σ1 G1 H1 (e2.g.trans s1) s2 (by rw [List.length_zip] at inv; exact inv))
    obtain ⟨v, w, rv, rw', es⟩ := b
    have z := List.getElem?_zip_eq_some.mp hit
    rw [es]
    exact turn i it.1 it.2 v w σ1 G1 H1 H3 z.1 z.2 (e2.g.trans s1) s2 (Mo.mo s1 rv) (Mo.mo s1 rw') inv j
/-- a while -/
theorem wh_by {c : TT} (sm : Same G H) (Inv : Nat → St → Hp → Hp → Prop) {m : Nat} (h0 : Inv m σ G H)
    (turn : ∀ m σ1 G1 H1, Same G1 H1 → Inv m σ1 G1 H1 → ∃ b, EvT c σ1 G1 H1 b ∧ (b = true → ∀ G2 H2, Ext G1 H1 G2 H2 → tb { D with nx := fun σ' H' => ∃ m' G', m' < m ∧ Same G' H' ∧ Inv m' σ' G' H', ct := fun σ' H' => ∃ m' G', m' < m ∧ Same G' H' ∧ Inv m' σ' G' H', bk := D.nx } σ1 H2) ∧ (b = false → ∀ G2 H2, Ext G1 H1 G2 H2 → D.nx σ1 H2)) : tWhile c tb D σ H := by
  refine ⟨fun m σ1 H1 => ∃ G1, Same G1 H1 ∧ Inv m σ1 G1 H1, ⟨m, G, sm, h0⟩, fun m σ1 H1 ⟨G1, s1, inv⟩ => ?_⟩
  obtain ⟨b, t, k1, k2⟩ := turn m σ1 G1 H1 s1 inv
  refine t G1 H1 (.refl s1) _ fun G2 H2 e => ?_
  cases b with
  | true =>
    rw [if_pos rfl]
    exact ⟨_, fun σ' H' ⟨m', G', a, b, c⟩ => ⟨m', a, G', b, c⟩, k1 rfl G2 H2 e⟩
  | false =>
    rw [if_neg Bool.false_ne_true]
    exact k2 rfl G2 H2 e
end

/-! promises -/
/-- a promise: arguments A a of data a with ok a, the answer as P a says -/
def spG {α : Type} (A : α → List Arg) (ok : α → Prop) (P : α → PVal) : Sp := fun vs H Q _ => ∃ G a, Same G H ∧ Args (A a) G vs ∧ ok a ∧ ∀ v G' H', Ext G H G' H' → P a H v G' H' → Q v H'
theorem args_len : ∀ {As : List Arg} {G : Hp} {vs : List V}, Args As G vs → vs.length = As.length
  | [], _, _, h => by rw [show _ = _ from h]; rfl
  | A :: As, _, _, ⟨v, r, e, _, h⟩ => by rw [e, List.length_cons, List.length_cons, args_len h]
structure Has (P : Program) (w : World) (K : PySem.W.Frag) (mg : Str → Option Value) (base : Heap) (k : Nat) (f : Addr) (ps : List Str) (sp : Sp) : Prop where
  ex : ∃ fd, FnOk P w K mg base CX0 k f fd ps sp ∧ Binds K fd ps []
  kp : PySem.W.keepIn K (.ref f) = true
section
variable {P : Program} {w : World} {K : PySem.W.Frag} {mg : Str → Option Value} {base : Heap}
/-- a def keeps its promise: t its reading, the derivation, what the reading asks -/
theorem has_mk {α : Type} {x qual : Str} {params : Arguments} {body : List Stmt} {scope : Scope} {f : Addr} {N ps : List Str} {k : Nat} {A : α → List Arg} {ok : α → Prop} {Pv : α → PVal}
    (F : ∃ fd, FunD K x qual params body scope [] [] f fd) (S : FnScope N ps scope) (hl : ∀ a, (A a).length = ps.length)
    (hb : ∀ (kV doc pm : Value) (an : Option Addr) (cdv ct : Value) (us : List Value), us.length = ps.length → bindArgs (PySem.W.fnOf x qual params body scope .none kV doc pm an cdv ct) ⟨us, []⟩ = pure (ps.zip us))
    (hd : ∀ (cdv : Value) (E : Around) (outer : List Env) (s : Shared) (H : Hp) (X : XK), Room k (E.deeper (PyProof.Rows.envOfC qual scope s.heap.objs.size f cdv)) →
      ∀ a G vs (Q : VK), Same G H → Args (A a) G vs → ok a → (∀ v G' H', Ext G H G' H' → Pv a H v G' H' → Q v H') →
        ∃ t, PSs (cxOf CX0 P w K mg base N qual scope f cdv E outer s H X).nox body t ∧ t { nx := fun _ H' => Q .non H', rt := Q } (start N vs) H) :
    Has P w K mg base (k + 1) f ps (spG A ok Pv) := by
  obtain ⟨fd, F⟩ := F
  refine ⟨⟨fd, ?_, ?_⟩, F.kp⟩
  · refine F.ok S (fun vs H Q X h => ?_) (fun cdv E outer s H vs Q X hroom h => ?_)
    · obtain ⟨G, a, _, h1, _⟩ := h
      rw [args_len h1, hl]
    · obtain ⟨G, a, h0, h1, h2, h3⟩ := h
      obtain ⟨t, d, r⟩ := hd cdv E outer s H X hroom a G vs Q h0 h1 h2 h3
      exact ⟨t, PSs.nox d, r⟩
  · obtain ⟨oc, od, dV, kV, doc, pm, an, cdv, ct, osl, rfl, _, _, hD, _⟩ := F.ex
    rcases hD with ⟨_, rfl⟩ | ⟨n, _⟩
    · exact Binds.all (hb kV doc pm an cdv ct)
    · exact absurd rfl n
end
end ER
/-! ## ErKx -/
/-! the rules that name the written part, with it said -/
namespace ER
open PySem PySem.Spec PyProof.Rows L2
section
variable {X : Cx}
abbrev rLenQ (K : PySem.W.Frag) : List V → Hp → VK → Prop := fun xs H Q => ∃ p ys, xs = [.ref p] ∧ (SqL K H p ys ∨ SqT K H p ys) ∧ Q (.int ys.length) H
abbrev rListQ (K : PySem.W.Frag) : List V → Hp → VK → Prop := fun xs H Q => ∃ p ys, xs = [.ref p] ∧ (SqL K H p ys ∨ SqT K H p ys) ∧ ∀ l, H l = none → Q (.ref l) (upd H l (.lst ys))
abbrev rAllQ (K : PySem.W.Frag) : List V → Hp → VK → Prop := fun vs H Q => ∃ (a : Addr) (ys : List Bool), vs = [V.ref a] ∧ SqL K H a (ys.map V.bl) ∧ Q (.bl (ys.all id)) H
abbrev rAnyQ (K : PySem.W.Frag) : List V → Hp → VK → Prop := fun vs H Q => ∃ (a : Addr) (ys : List Bool), vs = [V.ref a] ∧ SqL K H a (ys.map V.bl) ∧ Q (.bl (ys.any id)) H
theorem k_ixl (K : PySem.W.Frag) (h : X.K = K) : IxR X (rIxL K) := h ▸ ix_list
theorem k_ixt (K : PySem.W.Frag) (h : X.K = K) : IxR X (rIxT K) := h ▸ ix_tup
theorem k_len (K : PySem.W.Frag) (h : X.K = K) : CallR X (.builtin "len") (rLenQ K) := h ▸ call_len_seq
theorem k_list (K : PySem.W.Frag) (h : X.K = K) : CallR X (.type "list") (rListQ K) := h ▸ call_list_of
theorem k_sum (K : PySem.W.Frag) (h : X.K = K) (hc : X.calm = true) : CallR X (.builtin "sum") (rSum K) := h ▸ cr_sum hc
theorem k_max (K : PySem.W.Frag) (h : X.K = K) (hc : X.calm = true) : CallR X (.builtin "max") (rMax K) := h ▸ cr_max hc
theorem k_all (K : PySem.W.Frag) (h : X.K = K) (hc : X.calm = true) : CallR X (.builtin "all") (rAllQ K) := by
  subst h
  exact cr_all hc
theorem k_any (K : PySem.W.Frag) (h : X.K = K) (hc : X.calm = true) : CallR X (.builtin "any") (rAnyQ K) := by
  subst h
  exact cr_any hc
theorem k_in (K : PySem.W.Frag) (h : X.K = K) : OpR X (compareOp .In) (rIn K false) := h ▸ op_in_seq
theorem k_notIn (K : PySem.W.Frag) (h : X.K = K) : OpR X (compareOp .NotIn) (rIn K true) := h ▸ op_notIn_seq
theorem k_sl (K : PySem.W.Frag) (h : X.K = K) : SlR X (rSlL K) := h ▸ sl_list
theorem k_get (K : PySem.W.Frag) (h : X.K = K) : PGet X (rGetN K) := h ▸ get_list
theorem k_extT (K : PySem.W.Frag) (h : X.K = K) : MtM X "list.extend" (rExtT K) := h ▸ mt_extT
theorem k_fld {e : Expr} {f : Str} {pos : Pos} {ta : TE} (K : PySem.W.Frag) (h : X.K = K) (he : PE X e ta) (hb : attributeBase e f X.env (eval e X.env) = eval e X.env := by rfl) : PE X (.Attribute e f pos) (tFld K ta f) := h ▸ pe_fld he hb
theorem k_pil {tg l : Expr} {tl : TE} (K : PySem.W.Frag) (h : X.K = K) (hl : PE X l tl) : PI X tg l (iList K tl) := h ▸ pi_list hl
theorem k_pie {e : Expr} {ta : TA} {p pos tpos : Pos} {elts : List Expr} {kk : Nat} (K : PySem.W.Frag) (h : X.K = K) (hg : Gl X "enumerate") (hm : X.mg "enumerate" = none) (ha : PA X [e] ta) (hs : starEach [e] X.env = [(false, eval e X.env)] := by rfl) :
    PI X (.Tuple elts kk tpos) (.Call (.Name "enumerate" p) [e] [] pos) (iEnum K ta) := h ▸ pi_enum hg hm ha hs
theorem k_piz {e e2 : Expr} {ta : TA} {p pos tpos : Pos} {elts : List Expr} {kk : Nat} (K : PySem.W.Frag) (h : X.K = K) (hg : Gl X "zip") (hm : X.mg "zip" = none) (ha : PA X [e, e2] ta)
    (hs : starEach [e, e2] X.env = (false, eval e X.env) :: starEach [e2] X.env := by rfl) (hpl : (backTo pos (starEach [e2] X.env)).any (·.1) = false := by rfl) :
    PI X (.Tuple elts kk tpos) (.Call (.Name "zip" p) [e, e2] [] pos) (iZip K ta) := h ▸ pi_zip hg hm ha hs hpl
theorem k_pgt {es : List Expr} {k : Nat} {t : TGs} {n : Nat} {pos : Pos} (K : PySem.W.Frag) (h : X.K = K) (hc : X.calm = true) (hp : PGs X es t)
    (hn : (assignEach es X.env).length = n := by rfl) (hst : (assignEach es X.env).findIdx? (·.1) = none := by rfl) : PG X (.Tuple es k pos) (gTup K n t) := h ▸ pg_tup hc hp hn hst
theorem k_eqD (K : PySem.W.Frag) (h : X.K = K) (hu : X.A.units + 64 < cLine) : OpR X (compareOp .Eq) (rEqD K) := h ▸ op_eqD hu
theorem k_neD (K : PySem.W.Frag) (h : X.K = K) (hu : X.A.units + 64 < cLine) : OpR X (compareOp .NotEq) (rNeD K) := h ▸ op_neD hu
theorem k_bm {o e : Expr} {es : List Expr} {T : String} {name : Str} {id : String} {r : V → List V → Hp → VK → Prop} {to : TE} {t : TA} {apos cpos : Pos} (K : PySem.W.Frag) (h : X.K = K) (pa : PlainAttrs T) (slot : Slot T name id) (hty : typeOf (.builtin id) = pure (.type "method_descriptor")) (hm : MtR X id r) (ho : PE X o to) (ha : PA X (e :: es) t)
    (hbase : attributeBase o name X.env (eval o X.env) = eval o X.env := by rfl)
    (hfew : ((backTo cpos (starEach (e :: es) X.env)).all (fun x => !x.1) && (backToKw cpos (keywordEach [] X.env)).all (fun x => x.1.isSome)
      && decide ((e :: es).length + ([] : List Keyword).length + (if ([] : List Keyword).isEmpty then 0 else 1) < 30)) = true := by rfl)
    (hline : (apos.endLine == cpos.line) = true := by rfl) (hs : starEach (e :: es) X.env = (false, eval e X.env) :: starEach es X.env := by rfl) (hplain : (backTo cpos (starEach es X.env)).any (·.1) = false := by rfl) :
    PE X (.Call (.Attribute o name apos) (e :: es) [] cpos) (tBM K T r to t) := h ▸ pe_bm pa slot hty hm ho ha hbase hfew hline hs hplain
end
end ER
/-! ## ErTx -/
namespace ER
open PySem L2


/-! the facts of the top -/
structure Tx (K : PySem.W.Frag) (mg : Str → Option Value) : Prop where
  hx : ∃ h : Heap, K.In h ∧ h.Ns mainGlobals mg
  c : He.SaysD fa fn K
  x : ex K = true
section
variable {K : PySem.W.Frag} {mg : Str → Option Value}
theorem Tx.glo (T : Tx K mg) (i : Nat) {x : Str} (h : fa[i]? = some (.glo x)) : mg x = some (.ref (He.ga K x)) := by
  obtain ⟨hp, a, b⟩ := T.hx
  exact He.glo_ok a b (T.c.fact i h)
theorem Tx.free (T : Tx K mg) (i : Nat) {x : Str} (h : fa[i]? = some (.free x)) : mg x = none := by
  obtain ⟨hp, a, b⟩ := T.hx
  exact He.free_ok a b (T.c.fact i h)
theorem Tx.int (T : Tx K mg) (i : Nat) {x : Str} {z : Int} (h : fa[i]? = some (.int x z)) : ∃ t, mg x = some (.int z t) := by
  obtain ⟨hp, a, b⟩ := T.hx
  exact He.int_ok a b (T.c.fact i h)
theorem Tx.g_greatest_divisor (T : Tx K mg) : mg "greatest_divisor" = some (.ref (He.ga K "greatest_divisor")) := T.glo 0 rfl
theorem Tx.g_common_multiple (T : Tx K mg) : mg "common_multiple" = some (.ref (He.ga K "common_multiple")) := T.glo 1 rfl
theorem Tx.g_ratio (T : Tx K mg) : mg "ratio" = some (.ref (He.ga K "ratio")) := T.glo 2 rfl
theorem Tx.g_added (T : Tx K mg) : mg "added" = some (.ref (He.ga K "added")) := T.glo 3 rfl
theorem Tx.g_product (T : Tx K mg) : mg "product" = some (.ref (He.ga K "product")) := T.glo 4 rfl
theorem Tx.g_quotient (T : Tx K mg) : mg "quotient" = some (.ref (He.ga K "quotient")) := T.glo 5 rfl
theorem Tx.g_rest_to_one (T : Tx K mg) : mg "rest_to_one" = some (.ref (He.ga K "rest_to_one")) := T.glo 6 rfl
theorem Tx.g_blocks_of (T : Tx K mg) : mg "blocks_of" = some (.ref (He.ga K "blocks_of")) := T.glo 7 rfl
theorem Tx.g_flow_into (T : Tx K mg) : mg "flow_into" = some (.ref (He.ga K "flow_into")) := T.glo 8 rfl
theorem Tx.g_flows_agree (T : Tx K mg) : mg "flows_agree" = some (.ref (He.ga K "flows_agree")) := T.glo 9 rfl
theorem Tx.g_is_lumpable_into (T : Tx K mg) : mg "is_lumpable_into" = some (.ref (He.ga K "is_lumpable_into")) := T.glo 10 rfl
theorem Tx.g_continuous_row (T : Tx K mg) : mg "continuous_row" = some (.ref (He.ga K "continuous_row")) := T.glo 11 rfl
theorem Tx.g_discrete_row (T : Tx K mg) : mg "discrete_row" = some (.ref (He.ga K "discrete_row")) := T.glo 12 rfl
theorem Tx.g_lumped_rows (T : Tx K mg) : mg "lumped_rows" = some (.ref (He.ga K "lumped_rows")) := T.glo 13 rfl
theorem Tx.g_no_instance (T : Tx K mg) : mg "no_instance" = some (.ref (He.ga K "no_instance")) := T.glo 14 rfl
theorem Tx.g_no_such_state (T : Tx K mg) : mg "no_such_state" = some (.ref (He.ga K "no_such_state")) := T.glo 15 rfl
theorem Tx.g_out_of_range (T : Tx K mg) : mg "out_of_range" = some (.ref (He.ga K "out_of_range")) := T.glo 16 rfl
theorem Tx.g_no_result (T : Tx K mg) : mg "no_result" = some (.ref (He.ga K "no_result")) := T.glo 17 rfl
theorem Tx.g_weight_too_large (T : Tx K mg) : mg "weight_too_large" = some (.ref (He.ga K "weight_too_large")) := T.glo 18 rfl
theorem Tx.g_create (T : Tx K mg) : mg "create" = some (.ref (He.ga K "create")) := T.glo 19 rfl
theorem Tx.g_is_weight (T : Tx K mg) : mg "is_weight" = some (.ref (He.ga K "is_weight")) := T.glo 20 rfl
theorem Tx.g_set_weight (T : Tx K mg) : mg "set_weight" = some (.ref (He.ga K "set_weight")) := T.glo 21 rfl
theorem Tx.g_is_row (T : Tx K mg) : mg "is_row" = some (.ref (He.ga K "is_row")) := T.glo 22 rfl
theorem Tx.g_set_row (T : Tx K mg) : mg "set_row" = some (.ref (He.ga K "set_row")) := T.glo 23 rfl
theorem Tx.g_remove_state (T : Tx K mg) : mg "remove_state" = some (.ref (He.ga K "remove_state")) := T.glo 24 rfl
theorem Tx.g_uniformize (T : Tx K mg) : mg "uniformize" = some (.ref (He.ga K "uniformize")) := T.glo 25 rfl
theorem Tx.g_embed (T : Tx K mg) : mg "embed" = some (.ref (He.ga K "embed")) := T.glo 26 rfl
theorem Tx.g_lump (T : Tx K mg) : mg "lump" = some (.ref (He.ga K "lump")) := T.glo 27 rfl
theorem Tx.g_distances_from (T : Tx K mg) : mg "distances_from" = some (.ref (He.ga K "distances_from")) := T.glo 28 rfl
theorem Tx.g_reaches (T : Tx K mg) : mg "reaches" = some (.ref (He.ga K "reaches")) := T.glo 29 rfl
theorem Tx.g_class_of (T : Tx K mg) : mg "class_of" = some (.ref (He.ga K "class_of")) := T.glo 30 rfl
theorem Tx.g_class_names (T : Tx K mg) : mg "class_names" = some (.ref (He.ga K "class_names")) := T.glo 31 rfl
theorem Tx.g_is_closed (T : Tx K mg) : mg "is_closed" = some (.ref (He.ga K "is_closed")) := T.glo 32 rfl
theorem Tx.g_all_classes (T : Tx K mg) : mg "all_classes" = some (.ref (He.ga K "all_classes")) := T.glo 33 rfl
theorem Tx.g_closed_classes (T : Tx K mg) : mg "closed_classes" = some (.ref (He.ga K "closed_classes")) := T.glo 34 rfl
theorem Tx.g_period_of (T : Tx K mg) : mg "period_of" = some (.ref (He.ga K "period_of")) := T.glo 35 rfl
theorem Tx.g_get_weight (T : Tx K mg) : mg "get_weight" = some (.ref (He.ga K "get_weight")) := T.glo 36 rfl
theorem Tx.g_probability (T : Tx K mg) : mg "probability" = some (.ref (He.ga K "probability")) := T.glo 37 rfl
theorem Tx.g_generator (T : Tx K mg) : mg "generator" = some (.ref (He.ga K "generator")) := T.glo 38 rfl
theorem Tx.g_classes (T : Tx K mg) : mg "classes" = some (.ref (He.ga K "classes")) := T.glo 39 rfl
theorem Tx.g_class_info (T : Tx K mg) : mg "class_info" = some (.ref (He.ga K "class_info")) := T.glo 40 rfl
theorem Tx.g_distance (T : Tx K mg) : mg "distance" = some (.ref (He.ga K "distance")) := T.glo 41 rfl
theorem Tx.g_is_lumpable (T : Tx K mg) : mg "is_lumpable" = some (.ref (He.ga K "is_lumpable")) := T.glo 42 rfl
theorem Tx.g_summary (T : Tx K mg) : mg "summary" = some (.ref (He.ga K "summary")) := T.glo 43 rfl
theorem Tx.g_eliminated (T : Tx K mg) : mg "eliminated" = some (.ref (He.ga K "eliminated")) := T.glo 44 rfl
theorem Tx.g_solve (T : Tx K mg) : mg "solve" = some (.ref (He.ga K "solve")) := T.glo 45 rfl
theorem Tx.g_leading_states (T : Tx K mg) : mg "leading_states" = some (.ref (He.ga K "leading_states")) := T.glo 46 rfl
theorem Tx.g_values_from_gains (T : Tx K mg) : mg "values_from_gains" = some (.ref (He.ga K "values_from_gains")) := T.glo 47 rfl
theorem Tx.g_hitting_probabilities (T : Tx K mg) : mg "hitting_probabilities" = some (.ref (He.ga K "hitting_probabilities")) := T.glo 48 rfl
theorem Tx.g_hitting_times (T : Tx K mg) : mg "hitting_times" = some (.ref (He.ga K "hitting_times")) := T.glo 49 rfl
theorem Tx.g_first_entries (T : Tx K mg) : mg "first_entries" = some (.ref (He.ga K "first_entries")) := T.glo 50 rfl
theorem Tx.g_is_set (T : Tx K mg) : mg "is_set" = some (.ref (He.ga K "is_set")) := T.glo 51 rfl
theorem Tx.g_hitting_probability (T : Tx K mg) : mg "hitting_probability" = some (.ref (He.ga K "hitting_probability")) := T.glo 52 rfl
theorem Tx.g_hitting_time (T : Tx K mg) : mg "hitting_time" = some (.ref (He.ga K "hitting_time")) := T.glo 53 rfl
theorem Tx.g_absorption (T : Tx K mg) : mg "absorption" = some (.ref (He.ga K "absorption")) := T.glo 54 rfl
theorem Tx.g_visits (T : Tx K mg) : mg "visits" = some (.ref (He.ga K "visits")) := T.glo 55 rfl
theorem Tx.g_watched (T : Tx K mg) : mg "watched" = some (.ref (He.ga K "watched")) := T.glo 56 rfl
theorem Tx.g_balanced_numbers (T : Tx K mg) : mg "balanced_numbers" = some (.ref (He.ga K "balanced_numbers")) := T.glo 57 rfl
theorem Tx.g_stationary_numbers (T : Tx K mg) : mg "stationary_numbers" = some (.ref (He.ga K "stationary_numbers")) := T.glo 58 rfl
theorem Tx.g_stationary_distribution (T : Tx K mg) : mg "stationary_distribution" = some (.ref (He.ga K "stationary_distribution")) := T.glo 59 rfl
theorem Tx.g_stationary_around (T : Tx K mg) : mg "stationary_around" = some (.ref (He.ga K "stationary_around")) := T.glo 60 rfl
theorem Tx.g_long_run_shares (T : Tx K mg) : mg "long_run_shares" = some (.ref (He.ga K "long_run_shares")) := T.glo 61 rfl
theorem Tx.g_common_sum (T : Tx K mg) : mg "common_sum" = some (.ref (He.ga K "common_sum")) := T.glo 62 rfl
theorem Tx.g_step_row (T : Tx K mg) : mg "step_row" = some (.ref (He.ga K "step_row")) := T.glo 63 rfl
theorem Tx.g_after_step (T : Tx K mg) : mg "after_step" = some (.ref (He.ga K "after_step")) := T.glo 64 rfl
theorem Tx.g_distribution_after (T : Tx K mg) : mg "distribution_after" = some (.ref (He.ga K "distribution_after")) := T.glo 65 rfl
theorem Tx.g_with_count (T : Tx K mg) : mg "with_count" = some (.ref (He.ga K "with_count")) := T.glo 66 rfl
theorem Tx.g_stationary (T : Tx K mg) : mg "stationary" = some (.ref (He.ga K "stationary")) := T.glo 67 rfl
theorem Tx.g_return_time (T : Tx K mg) : mg "return_time" = some (.ref (He.ga K "return_time")) := T.glo 68 rfl
theorem Tx.g_long_run (T : Tx K mg) : mg "long_run" = some (.ref (He.ga K "long_run")) := T.glo 69 rfl
theorem Tx.g_is_start (T : Tx K mg) : mg "is_start" = some (.ref (He.ga K "is_start")) := T.glo 70 rfl
theorem Tx.g_after_steps (T : Tx K mg) : mg "after_steps" = some (.ref (He.ga K "after_steps")) := T.glo 71 rfl
theorem Tx.g_is_reversible (T : Tx K mg) : mg "is_reversible" = some (.ref (He.ga K "is_reversible")) := T.glo 72 rfl
theorem Tx.g_reversed_generator (T : Tx K mg) : mg "reversed_generator" = some (.ref (He.ga K "reversed_generator")) := T.glo 73 rfl
theorem Tx.g_change (T : Tx K mg) : mg "change" = some (.ref (He.ga K "change")) := T.glo 74 rfl
theorem Tx.g_reach (T : Tx K mg) : mg "reach" = some (.ref (He.ga K "reach")) := T.glo 75 rfl
theorem Tx.g_share (T : Tx K mg) : mg "share" = some (.ref (He.ga K "share")) := T.glo 76 rfl
theorem Tx.g_look_up (T : Tx K mg) : mg "look_up" = some (.ref (He.ga K "look_up")) := T.glo 77 rfl
theorem Tx.g_answer (T : Tx K mg) : mg "answer" = some (.ref (He.ga K "answer")) := T.glo 78 rfl
theorem Tx.g_answers (T : Tx K mg) : mg "answers" = some (.ref (He.ga K "answers")) := T.glo 79 rfl
theorem Tx.g_Chain (T : Tx K mg) : mg "Chain" = some (.ref (He.ga K "Chain")) := T.glo 80 rfl
theorem Tx.g_Instance (T : Tx K mg) : mg "Instance" = some (.ref (He.ga K "Instance")) := T.glo 81 rfl
theorem Tx.g_Call (T : Tx K mg) : mg "Call" = some (.ref (He.ga K "Call")) := T.glo 82 rfl
theorem Tx.g_Reader (T : Tx K mg) : mg "Reader" = some (.ref (He.ga K "Reader")) := T.glo 83 rfl
theorem Tx.g_OPERATIONS (T : Tx K mg) : mg "OPERATIONS" = some (.ref (He.ga K "OPERATIONS")) := T.glo 84 rfl
theorem Tx.g_CHANGING (T : Tx K mg) : mg "CHANGING" = some (.ref (He.ga K "CHANGING")) := T.glo 85 rfl
theorem Tx.g_REACHING (T : Tx K mg) : mg "REACHING" = some (.ref (He.ga K "REACHING")) := T.glo 86 rfl
theorem Tx.g_SHARING (T : Tx K mg) : mg "SHARING" = some (.ref (He.ga K "SHARING")) := T.glo 87 rfl
theorem Tx.z_abs (T : Tx K mg) : mg "abs" = none := T.free 88 rfl
theorem Tx.z_all (T : Tx K mg) : mg "all" = none := T.free 89 rfl
theorem Tx.z_any (T : Tx K mg) : mg "any" = none := T.free 90 rfl
theorem Tx.z_enumerate (T : Tx K mg) : mg "enumerate" = none := T.free 91 rfl
theorem Tx.z_len (T : Tx K mg) : mg "len" = none := T.free 92 rfl
theorem Tx.z_list (T : Tx K mg) : mg "list" = none := T.free 93 rfl
theorem Tx.z_max (T : Tx K mg) : mg "max" = none := T.free 94 rfl
theorem Tx.z_range (T : Tx K mg) : mg "range" = none := T.free 95 rfl
theorem Tx.z_set (T : Tx K mg) : mg "set" = none := T.free 96 rfl
theorem Tx.z_sum (T : Tx K mg) : mg "sum" = none := T.free 97 rfl
theorem Tx.z_zip (T : Tx K mg) : mg "zip" = none := T.free 98 rfl
theorem Tx.i_GREATEST_COUNT (T : Tx K mg) : ∃ t, mg "GREATEST_COUNT" = some (.int 8 t) := T.int 99 rfl
theorem Tx.i_GREATEST_WEIGHT (T : Tx K mg) : ∃ t, mg "GREATEST_WEIGHT" = some (.int 1000000 t) := T.int 100 rfl
theorem Tx.i_GREATEST_START (T : Tx K mg) : ∃ t, mg "GREATEST_START" = some (.int 1000000 t) := T.int 101 rfl
theorem Tx.i_GREATEST_STEPS (T : Tx K mg) : ∃ t, mg "GREATEST_STEPS" = some (.int 24 t) := T.int 102 rfl
theorem Tx.c_Chain (T : Tx K mg) : Cls K (He.ga K "Chain") := He.cls_ok (T.c.fact 103 rfl)
theorem Tx.m_Chain (T : Tx K mg) : Mk K (He.ga K "Chain") (He.ma K (He.ga K "Chain") "__init__") := He.mkr_ok (T.c.fact 104 rfl)
theorem Tx.n_Chain_is_continuous (T : Tx K mg) : NoAttr K (He.ga K "Chain") "is_continuous" := He.noat_ok (T.c.fact 105 rfl)
theorem Tx.n_Chain_rows (T : Tx K mg) : NoAttr K (He.ga K "Chain") "rows" := He.noat_ok (T.c.fact 106 rfl)
theorem Tx.h_Chain_state_count (T : Tx K mg) : Meth K (He.ga K "Chain") "state_count" (He.ma K (He.ga K "Chain") "state_count") := He.meth_ok (T.c.fact 107 rfl)
theorem Tx.h_Chain_has_state (T : Tx K mg) : Meth K (He.ga K "Chain") "has_state" (He.ma K (He.ga K "Chain") "has_state") := He.meth_ok (T.c.fact 108 rfl)
theorem Tx.h_Chain_sum_of (T : Tx K mg) : Meth K (He.ga K "Chain") "sum_of" (He.ma K (He.ga K "Chain") "sum_of") := He.meth_ok (T.c.fact 109 rfl)
theorem Tx.h_Chain_greatest_sum (T : Tx K mg) : Meth K (He.ga K "Chain") "greatest_sum" (He.ma K (He.ga K "Chain") "greatest_sum") := He.meth_ok (T.c.fact 110 rfl)
theorem Tx.h_Chain_copied_rows (T : Tx K mg) : Meth K (He.ga K "Chain") "copied_rows" (He.ma K (He.ga K "Chain") "copied_rows") := He.meth_ok (T.c.fact 111 rfl)
theorem Tx.h_Chain_weight_into (T : Tx K mg) : Meth K (He.ga K "Chain") "weight_into" (He.ma K (He.ga K "Chain") "weight_into") := He.meth_ok (T.c.fact 112 rfl)
theorem Tx.h_Chain_chance_of (T : Tx K mg) : Meth K (He.ga K "Chain") "chance_of" (He.ma K (He.ga K "Chain") "chance_of") := He.meth_ok (T.c.fact 113 rfl)
theorem Tx.h_Chain_stay_in (T : Tx K mg) : Meth K (He.ga K "Chain") "stay_in" (He.ma K (He.ga K "Chain") "stay_in") := He.meth_ok (T.c.fact 114 rfl)
theorem Tx.h_Chain_generator_value (T : Tx K mg) : Meth K (He.ga K "Chain") "generator_value" (He.ma K (He.ga K "Chain") "generator_value") := He.meth_ok (T.c.fact 115 rfl)
theorem Tx.c_Instance (T : Tx K mg) : Cls K (He.ga K "Instance") := He.cls_ok (T.c.fact 116 rfl)
theorem Tx.m_Instance (T : Tx K mg) : Mk K (He.ga K "Instance") (He.ma K (He.ga K "Instance") "__init__") := He.mkr_ok (T.c.fact 117 rfl)
theorem Tx.n_Instance_chain (T : Tx K mg) : NoAttr K (He.ga K "Instance") "chain" := He.noat_ok (T.c.fact 118 rfl)
theorem Tx.c_Call (T : Tx K mg) : Cls K (He.ga K "Call") := He.cls_ok (T.c.fact 119 rfl)
theorem Tx.m_Call (T : Tx K mg) : Mk K (He.ga K "Call") (He.ma K (He.ga K "Call") "__init__") := He.mkr_ok (T.c.fact 120 rfl)
theorem Tx.n_Call_name (T : Tx K mg) : NoAttr K (He.ga K "Call") "name" := He.noat_ok (T.c.fact 121 rfl)
theorem Tx.n_Call_arguments (T : Tx K mg) : NoAttr K (He.ga K "Call") "arguments" := He.noat_ok (T.c.fact 122 rfl)
theorem Tx.c_Reader (T : Tx K mg) : Cls K (He.ga K "Reader") := He.cls_ok (T.c.fact 123 rfl)
theorem Tx.m_Reader (T : Tx K mg) : Mk K (He.ga K "Reader") (He.ma K (He.ga K "Reader") "__init__") := He.mkr_ok (T.c.fact 124 rfl)
theorem Tx.n_Reader_numbers (T : Tx K mg) : NoAttr K (He.ga K "Reader") "numbers" := He.noat_ok (T.c.fact 125 rfl)
theorem Tx.n_Reader_place (T : Tx K mg) : NoAttr K (He.ga K "Reader") "place" := He.noat_ok (T.c.fact 126 rfl)
theorem Tx.h_Reader_at_end (T : Tx K mg) : Meth K (He.ga K "Reader") "at_end" (He.ma K (He.ga K "Reader") "at_end") := He.meth_ok (T.c.fact 127 rfl)
theorem Tx.h_Reader_take_number (T : Tx K mg) : Meth K (He.ga K "Reader") "take_number" (He.ma K (He.ga K "Reader") "take_number") := He.meth_ok (T.c.fact 128 rfl)
theorem Tx.h_Reader_take_row (T : Tx K mg) : Meth K (He.ga K "Reader") "take_row" (He.ma K (He.ga K "Reader") "take_row") := He.meth_ok (T.c.fact 129 rfl)
theorem Tx.h_Reader_take_call (T : Tx K mg) : Meth K (He.ga K "Reader") "take_call" (He.ma K (He.ga K "Reader") "take_call") := He.meth_ok (T.c.fact 130 rfl)
theorem Tx.f_greatest_divisor (T : Tx K mg) : ∃ fd, FunD K "greatest_divisor" "greatest_divisor" (defArgs s_greatest_divisor) (defBody s_greatest_divisor) (defScope s_greatest_divisor) [] [] (He.ga K "greatest_divisor") fd := T.c.def_ 0 (d := d_greatest_divisor) rfl
theorem Tx.f_common_multiple (T : Tx K mg) : ∃ fd, FunD K "common_multiple" "common_multiple" (defArgs s_common_multiple) (defBody s_common_multiple) (defScope s_common_multiple) [] [] (He.ga K "common_multiple") fd := T.c.def_ 1 (d := d_common_multiple) rfl
theorem Tx.f_ratio (T : Tx K mg) : ∃ fd, FunD K "ratio" "ratio" (defArgs s_ratio) (defBody s_ratio) (defScope s_ratio) [] [] (He.ga K "ratio") fd := T.c.def_ 2 (d := d_ratio) rfl
theorem Tx.f_added (T : Tx K mg) : ∃ fd, FunD K "added" "added" (defArgs s_added) (defBody s_added) (defScope s_added) [] [] (He.ga K "added") fd := T.c.def_ 3 (d := d_added) rfl
theorem Tx.f_product (T : Tx K mg) : ∃ fd, FunD K "product" "product" (defArgs s_product) (defBody s_product) (defScope s_product) [] [] (He.ga K "product") fd := T.c.def_ 4 (d := d_product) rfl
theorem Tx.f_quotient (T : Tx K mg) : ∃ fd, FunD K "quotient" "quotient" (defArgs s_quotient) (defBody s_quotient) (defScope s_quotient) [] [] (He.ga K "quotient") fd := T.c.def_ 5 (d := d_quotient) rfl
theorem Tx.f_rest_to_one (T : Tx K mg) : ∃ fd, FunD K "rest_to_one" "rest_to_one" (defArgs s_rest_to_one) (defBody s_rest_to_one) (defScope s_rest_to_one) [] [] (He.ga K "rest_to_one") fd := T.c.def_ 6 (d := d_rest_to_one) rfl
theorem Tx.f_blocks_of (T : Tx K mg) : ∃ fd, FunD K "blocks_of" "blocks_of" (defArgs s_blocks_of) (defBody s_blocks_of) (defScope s_blocks_of) [] [] (He.ga K "blocks_of") fd := T.c.def_ 7 (d := d_blocks_of) rfl
theorem Tx.f_flow_into (T : Tx K mg) : ∃ fd, FunD K "flow_into" "flow_into" (defArgs s_flow_into) (defBody s_flow_into) (defScope s_flow_into) [] [] (He.ga K "flow_into") fd := T.c.def_ 8 (d := d_flow_into) rfl
theorem Tx.f_flows_agree (T : Tx K mg) : ∃ fd, FunD K "flows_agree" "flows_agree" (defArgs s_flows_agree) (defBody s_flows_agree) (defScope s_flows_agree) [] [] (He.ga K "flows_agree") fd := T.c.def_ 9 (d := d_flows_agree) rfl
theorem Tx.f_is_lumpable_into (T : Tx K mg) : ∃ fd, FunD K "is_lumpable_into" "is_lumpable_into" (defArgs s_is_lumpable_into) (defBody s_is_lumpable_into) (defScope s_is_lumpable_into) [] [] (He.ga K "is_lumpable_into") fd := T.c.def_ 10 (d := d_is_lumpable_into) rfl
theorem Tx.f_continuous_row (T : Tx K mg) : ∃ fd, FunD K "continuous_row" "continuous_row" (defArgs s_continuous_row) (defBody s_continuous_row) (defScope s_continuous_row) [] [] (He.ga K "continuous_row") fd := T.c.def_ 11 (d := d_continuous_row) rfl
theorem Tx.f_discrete_row (T : Tx K mg) : ∃ fd, FunD K "discrete_row" "discrete_row" (defArgs s_discrete_row) (defBody s_discrete_row) (defScope s_discrete_row) [] [] (He.ga K "discrete_row") fd := T.c.def_ 12 (d := d_discrete_row) rfl
theorem Tx.f_lumped_rows (T : Tx K mg) : ∃ fd, FunD K "lumped_rows" "lumped_rows" (defArgs s_lumped_rows) (defBody s_lumped_rows) (defScope s_lumped_rows) [] [] (He.ga K "lumped_rows") fd := T.c.def_ 13 (d := d_lumped_rows) rfl
theorem Tx.f_Chain_init (T : Tx K mg) : ∃ fd, FunD K "__init__" "Chain.__init__" (defArgs s_Chain_init) (defBody s_Chain_init) (defScope s_Chain_init) [] [] (He.ma K (He.ga K "Chain") "__init__") fd := T.c.def_ 14 (d := d_Chain_init) rfl
theorem Tx.f_Chain_state_count (T : Tx K mg) : ∃ fd, FunD K "state_count" "Chain.state_count" (defArgs s_Chain_state_count) (defBody s_Chain_state_count) (defScope s_Chain_state_count) [] [] (He.ma K (He.ga K "Chain") "state_count") fd := T.c.def_ 15 (d := d_Chain_state_count) rfl
theorem Tx.f_Chain_has_state (T : Tx K mg) : ∃ fd, FunD K "has_state" "Chain.has_state" (defArgs s_Chain_has_state) (defBody s_Chain_has_state) (defScope s_Chain_has_state) [] [] (He.ma K (He.ga K "Chain") "has_state") fd := T.c.def_ 16 (d := d_Chain_has_state) rfl
theorem Tx.f_Chain_sum_of (T : Tx K mg) : ∃ fd, FunD K "sum_of" "Chain.sum_of" (defArgs s_Chain_sum_of) (defBody s_Chain_sum_of) (defScope s_Chain_sum_of) [] [] (He.ma K (He.ga K "Chain") "sum_of") fd := T.c.def_ 17 (d := d_Chain_sum_of) rfl
theorem Tx.f_Chain_greatest_sum (T : Tx K mg) : ∃ fd, FunD K "greatest_sum" "Chain.greatest_sum" (defArgs s_Chain_greatest_sum) (defBody s_Chain_greatest_sum) (defScope s_Chain_greatest_sum) [] [] (He.ma K (He.ga K "Chain") "greatest_sum") fd := T.c.def_ 18 (d := d_Chain_greatest_sum) rfl
theorem Tx.f_Chain_copied_rows (T : Tx K mg) : ∃ fd, FunD K "copied_rows" "Chain.copied_rows" (defArgs s_Chain_copied_rows) (defBody s_Chain_copied_rows) (defScope s_Chain_copied_rows) [] [] (He.ma K (He.ga K "Chain") "copied_rows") fd := T.c.def_ 19 (d := d_Chain_copied_rows) rfl
theorem Tx.f_Chain_weight_into (T : Tx K mg) : ∃ fd, FunD K "weight_into" "Chain.weight_into" (defArgs s_Chain_weight_into) (defBody s_Chain_weight_into) (defScope s_Chain_weight_into) [] [] (He.ma K (He.ga K "Chain") "weight_into") fd := T.c.def_ 20 (d := d_Chain_weight_into) rfl
theorem Tx.f_Chain_chance_of (T : Tx K mg) : ∃ fd, FunD K "chance_of" "Chain.chance_of" (defArgs s_Chain_chance_of) (defBody s_Chain_chance_of) (defScope s_Chain_chance_of) [] [] (He.ma K (He.ga K "Chain") "chance_of") fd := T.c.def_ 21 (d := d_Chain_chance_of) rfl
theorem Tx.f_Chain_stay_in (T : Tx K mg) : ∃ fd, FunD K "stay_in" "Chain.stay_in" (defArgs s_Chain_stay_in) (defBody s_Chain_stay_in) (defScope s_Chain_stay_in) [] [] (He.ma K (He.ga K "Chain") "stay_in") fd := T.c.def_ 22 (d := d_Chain_stay_in) rfl
theorem Tx.f_Chain_generator_value (T : Tx K mg) : ∃ fd, FunD K "generator_value" "Chain.generator_value" (defArgs s_Chain_generator_value) (defBody s_Chain_generator_value) (defScope s_Chain_generator_value) [] [] (He.ma K (He.ga K "Chain") "generator_value") fd := T.c.def_ 23 (d := d_Chain_generator_value) rfl
theorem Tx.f_Instance_init (T : Tx K mg) : ∃ fd, FunD K "__init__" "Instance.__init__" (defArgs s_Instance_init) (defBody s_Instance_init) (defScope s_Instance_init) [] [] (He.ma K (He.ga K "Instance") "__init__") fd := T.c.def_ 24 (d := d_Instance_init) rfl
theorem Tx.f_no_instance (T : Tx K mg) : ∃ fd, FunD K "no_instance" "no_instance" (defArgs s_no_instance) (defBody s_no_instance) (defScope s_no_instance) [] [] (He.ga K "no_instance") fd := T.c.def_ 25 (d := d_no_instance) rfl
theorem Tx.f_no_such_state (T : Tx K mg) : ∃ fd, FunD K "no_such_state" "no_such_state" (defArgs s_no_such_state) (defBody s_no_such_state) (defScope s_no_such_state) [] [] (He.ga K "no_such_state") fd := T.c.def_ 26 (d := d_no_such_state) rfl
theorem Tx.f_out_of_range (T : Tx K mg) : ∃ fd, FunD K "out_of_range" "out_of_range" (defArgs s_out_of_range) (defBody s_out_of_range) (defScope s_out_of_range) [] [] (He.ga K "out_of_range") fd := T.c.def_ 27 (d := d_out_of_range) rfl
theorem Tx.f_no_result (T : Tx K mg) : ∃ fd, FunD K "no_result" "no_result" (defArgs s_no_result) (defBody s_no_result) (defScope s_no_result) [] [] (He.ga K "no_result") fd := T.c.def_ 28 (d := d_no_result) rfl
theorem Tx.f_weight_too_large (T : Tx K mg) : ∃ fd, FunD K "weight_too_large" "weight_too_large" (defArgs s_weight_too_large) (defBody s_weight_too_large) (defScope s_weight_too_large) [] [] (He.ga K "weight_too_large") fd := T.c.def_ 29 (d := d_weight_too_large) rfl
theorem Tx.f_create (T : Tx K mg) : ∃ fd, FunD K "create" "create" (defArgs s_create) (defBody s_create) (defScope s_create) [] [] (He.ga K "create") fd := T.c.def_ 30 (d := d_create) rfl
theorem Tx.f_is_weight (T : Tx K mg) : ∃ fd, FunD K "is_weight" "is_weight" (defArgs s_is_weight) (defBody s_is_weight) (defScope s_is_weight) [] [] (He.ga K "is_weight") fd := T.c.def_ 31 (d := d_is_weight) rfl
theorem Tx.f_set_weight (T : Tx K mg) : ∃ fd, FunD K "set_weight" "set_weight" (defArgs s_set_weight) (defBody s_set_weight) (defScope s_set_weight) [] [] (He.ga K "set_weight") fd := T.c.def_ 32 (d := d_set_weight) rfl
theorem Tx.f_is_row (T : Tx K mg) : ∃ fd, FunD K "is_row" "is_row" (defArgs s_is_row) (defBody s_is_row) (defScope s_is_row) [] [] (He.ga K "is_row") fd := T.c.def_ 33 (d := d_is_row) rfl
theorem Tx.f_set_row (T : Tx K mg) : ∃ fd, FunD K "set_row" "set_row" (defArgs s_set_row) (defBody s_set_row) (defScope s_set_row) [] [] (He.ga K "set_row") fd := T.c.def_ 34 (d := d_set_row) rfl
theorem Tx.f_remove_state (T : Tx K mg) : ∃ fd, FunD K "remove_state" "remove_state" (defArgs s_remove_state) (defBody s_remove_state) (defScope s_remove_state) [] [] (He.ga K "remove_state") fd := T.c.def_ 35 (d := d_remove_state) rfl
theorem Tx.f_uniformize (T : Tx K mg) : ∃ fd, FunD K "uniformize" "uniformize" (defArgs s_uniformize) (defBody s_uniformize) (defScope s_uniformize) [] [] (He.ga K "uniformize") fd := T.c.def_ 36 (d := d_uniformize) rfl
theorem Tx.f_embed (T : Tx K mg) : ∃ fd, FunD K "embed" "embed" (defArgs s_embed) (defBody s_embed) (defScope s_embed) [] [] (He.ga K "embed") fd := T.c.def_ 37 (d := d_embed) rfl
theorem Tx.f_lump (T : Tx K mg) : ∃ fd, FunD K "lump" "lump" (defArgs s_lump) (defBody s_lump) (defScope s_lump) [] [] (He.ga K "lump") fd := T.c.def_ 38 (d := d_lump) rfl
theorem Tx.f_distances_from (T : Tx K mg) : ∃ fd, FunD K "distances_from" "distances_from" (defArgs s_distances_from) (defBody s_distances_from) (defScope s_distances_from) [] [] (He.ga K "distances_from") fd := T.c.def_ 39 (d := d_distances_from) rfl
theorem Tx.f_reaches (T : Tx K mg) : ∃ fd, FunD K "reaches" "reaches" (defArgs s_reaches) (defBody s_reaches) (defScope s_reaches) [] [] (He.ga K "reaches") fd := T.c.def_ 40 (d := d_reaches) rfl
theorem Tx.f_class_of (T : Tx K mg) : ∃ fd, FunD K "class_of" "class_of" (defArgs s_class_of) (defBody s_class_of) (defScope s_class_of) [] [] (He.ga K "class_of") fd := T.c.def_ 41 (d := d_class_of) rfl
theorem Tx.f_class_names (T : Tx K mg) : ∃ fd, FunD K "class_names" "class_names" (defArgs s_class_names) (defBody s_class_names) (defScope s_class_names) [] [] (He.ga K "class_names") fd := T.c.def_ 42 (d := d_class_names) rfl
theorem Tx.f_is_closed (T : Tx K mg) : ∃ fd, FunD K "is_closed" "is_closed" (defArgs s_is_closed) (defBody s_is_closed) (defScope s_is_closed) [] [] (He.ga K "is_closed") fd := T.c.def_ 43 (d := d_is_closed) rfl
theorem Tx.f_all_classes (T : Tx K mg) : ∃ fd, FunD K "all_classes" "all_classes" (defArgs s_all_classes) (defBody s_all_classes) (defScope s_all_classes) [] [] (He.ga K "all_classes") fd := T.c.def_ 44 (d := d_all_classes) rfl
theorem Tx.f_closed_classes (T : Tx K mg) : ∃ fd, FunD K "closed_classes" "closed_classes" (defArgs s_closed_classes) (defBody s_closed_classes) (defScope s_closed_classes) [] [] (He.ga K "closed_classes") fd := T.c.def_ 45 (d := d_closed_classes) rfl
theorem Tx.f_period_of (T : Tx K mg) : ∃ fd, FunD K "period_of" "period_of" (defArgs s_period_of) (defBody s_period_of) (defScope s_period_of) [] [] (He.ga K "period_of") fd := T.c.def_ 46 (d := d_period_of) rfl
theorem Tx.f_get_weight (T : Tx K mg) : ∃ fd, FunD K "get_weight" "get_weight" (defArgs s_get_weight) (defBody s_get_weight) (defScope s_get_weight) [] [] (He.ga K "get_weight") fd := T.c.def_ 47 (d := d_get_weight) rfl
theorem Tx.f_probability (T : Tx K mg) : ∃ fd, FunD K "probability" "probability" (defArgs s_probability) (defBody s_probability) (defScope s_probability) [] [] (He.ga K "probability") fd := T.c.def_ 48 (d := d_probability) rfl
theorem Tx.f_generator (T : Tx K mg) : ∃ fd, FunD K "generator" "generator" (defArgs s_generator) (defBody s_generator) (defScope s_generator) [] [] (He.ga K "generator") fd := T.c.def_ 49 (d := d_generator) rfl
theorem Tx.f_classes (T : Tx K mg) : ∃ fd, FunD K "classes" "classes" (defArgs s_classes) (defBody s_classes) (defScope s_classes) [] [] (He.ga K "classes") fd := T.c.def_ 50 (d := d_classes) rfl
theorem Tx.f_class_info (T : Tx K mg) : ∃ fd, FunD K "class_info" "class_info" (defArgs s_class_info) (defBody s_class_info) (defScope s_class_info) [] [] (He.ga K "class_info") fd := T.c.def_ 51 (d := d_class_info) rfl
theorem Tx.f_distance (T : Tx K mg) : ∃ fd, FunD K "distance" "distance" (defArgs s_distance) (defBody s_distance) (defScope s_distance) [] [] (He.ga K "distance") fd := T.c.def_ 52 (d := d_distance) rfl
theorem Tx.f_is_lumpable (T : Tx K mg) : ∃ fd, FunD K "is_lumpable" "is_lumpable" (defArgs s_is_lumpable) (defBody s_is_lumpable) (defScope s_is_lumpable) [] [] (He.ga K "is_lumpable") fd := T.c.def_ 53 (d := d_is_lumpable) rfl
theorem Tx.f_summary (T : Tx K mg) : ∃ fd, FunD K "summary" "summary" (defArgs s_summary) (defBody s_summary) (defScope s_summary) [] [] (He.ga K "summary") fd := T.c.def_ 54 (d := d_summary) rfl
theorem Tx.f_eliminated (T : Tx K mg) : ∃ fd, FunD K "eliminated" "eliminated" (defArgs s_eliminated) (defBody s_eliminated) (defScope s_eliminated) [] [] (He.ga K "eliminated") fd := T.c.def_ 55 (d := d_eliminated) rfl
theorem Tx.f_solve (T : Tx K mg) : ∃ fd, FunD K "solve" "solve" (defArgs s_solve) (defBody s_solve) (defScope s_solve) [] [] (He.ga K "solve") fd := T.c.def_ 56 (d := d_solve) rfl
theorem Tx.f_leading_states (T : Tx K mg) : ∃ fd, FunD K "leading_states" "leading_states" (defArgs s_leading_states) (defBody s_leading_states) (defScope s_leading_states) [] [] (He.ga K "leading_states") fd := T.c.def_ 57 (d := d_leading_states) rfl
theorem Tx.f_values_from_gains (T : Tx K mg) : ∃ fd, FunD K "values_from_gains" "values_from_gains" (defArgs s_values_from_gains) (defBody s_values_from_gains) (defScope s_values_from_gains) [] [] (He.ga K "values_from_gains") fd := T.c.def_ 58 (d := d_values_from_gains) rfl
theorem Tx.f_hitting_probabilities (T : Tx K mg) : ∃ fd, FunD K "hitting_probabilities" "hitting_probabilities" (defArgs s_hitting_probabilities) (defBody s_hitting_probabilities) (defScope s_hitting_probabilities) [] [] (He.ga K "hitting_probabilities") fd := T.c.def_ 59 (d := d_hitting_probabilities) rfl
theorem Tx.f_hitting_times (T : Tx K mg) : ∃ fd, FunD K "hitting_times" "hitting_times" (defArgs s_hitting_times) (defBody s_hitting_times) (defScope s_hitting_times) [] [] (He.ga K "hitting_times") fd := T.c.def_ 60 (d := d_hitting_times) rfl
theorem Tx.f_first_entries (T : Tx K mg) : ∃ fd, FunD K "first_entries" "first_entries" (defArgs s_first_entries) (defBody s_first_entries) (defScope s_first_entries) [] [] (He.ga K "first_entries") fd := T.c.def_ 61 (d := d_first_entries) rfl
theorem Tx.f_is_set (T : Tx K mg) : ∃ fd, FunD K "is_set" "is_set" (defArgs s_is_set) (defBody s_is_set) (defScope s_is_set) [] [] (He.ga K "is_set") fd := T.c.def_ 62 (d := d_is_set) rfl
theorem Tx.f_hitting_probability (T : Tx K mg) : ∃ fd, FunD K "hitting_probability" "hitting_probability" (defArgs s_hitting_probability) (defBody s_hitting_probability) (defScope s_hitting_probability) [] [] (He.ga K "hitting_probability") fd := T.c.def_ 63 (d := d_hitting_probability) rfl
theorem Tx.f_hitting_time (T : Tx K mg) : ∃ fd, FunD K "hitting_time" "hitting_time" (defArgs s_hitting_time) (defBody s_hitting_time) (defScope s_hitting_time) [] [] (He.ga K "hitting_time") fd := T.c.def_ 64 (d := d_hitting_time) rfl
theorem Tx.f_absorption (T : Tx K mg) : ∃ fd, FunD K "absorption" "absorption" (defArgs s_absorption) (defBody s_absorption) (defScope s_absorption) [] [] (He.ga K "absorption") fd := T.c.def_ 65 (d := d_absorption) rfl
theorem Tx.f_visits (T : Tx K mg) : ∃ fd, FunD K "visits" "visits" (defArgs s_visits) (defBody s_visits) (defScope s_visits) [] [] (He.ga K "visits") fd := T.c.def_ 66 (d := d_visits) rfl
theorem Tx.f_watched (T : Tx K mg) : ∃ fd, FunD K "watched" "watched" (defArgs s_watched) (defBody s_watched) (defScope s_watched) [] [] (He.ga K "watched") fd := T.c.def_ 67 (d := d_watched) rfl
theorem Tx.f_Call_init (T : Tx K mg) : ∃ fd, FunD K "__init__" "Call.__init__" (defArgs s_Call_init) (defBody s_Call_init) (defScope s_Call_init) [] [] (He.ma K (He.ga K "Call") "__init__") fd := T.c.def_ 68 (d := d_Call_init) rfl
theorem Tx.f_Reader_init (T : Tx K mg) : ∃ fd, FunD K "__init__" "Reader.__init__" (defArgs s_Reader_init) (defBody s_Reader_init) (defScope s_Reader_init) [] [] (He.ma K (He.ga K "Reader") "__init__") fd := T.c.def_ 69 (d := d_Reader_init) rfl
theorem Tx.f_Reader_at_end (T : Tx K mg) : ∃ fd, FunD K "at_end" "Reader.at_end" (defArgs s_Reader_at_end) (defBody s_Reader_at_end) (defScope s_Reader_at_end) [] [] (He.ma K (He.ga K "Reader") "at_end") fd := T.c.def_ 70 (d := d_Reader_at_end) rfl
theorem Tx.f_Reader_take_number (T : Tx K mg) : ∃ fd, FunD K "take_number" "Reader.take_number" (defArgs s_Reader_take_number) (defBody s_Reader_take_number) (defScope s_Reader_take_number) [] [] (He.ma K (He.ga K "Reader") "take_number") fd := T.c.def_ 71 (d := d_Reader_take_number) rfl
theorem Tx.f_Reader_take_row (T : Tx K mg) : ∃ fd, FunD K "take_row" "Reader.take_row" (defArgs s_Reader_take_row) (defBody s_Reader_take_row) (defScope s_Reader_take_row) [] [] (He.ma K (He.ga K "Reader") "take_row") fd := T.c.def_ 72 (d := d_Reader_take_row) rfl
theorem Tx.f_Reader_take_call (T : Tx K mg) : ∃ fd, FunD K "take_call" "Reader.take_call" (defArgs s_Reader_take_call) (defBody s_Reader_take_call) (defScope s_Reader_take_call) [] [] (He.ma K (He.ga K "Reader") "take_call") fd := T.c.def_ 73 (d := d_Reader_take_call) rfl
theorem Tx.f_balanced_numbers (T : Tx K mg) : ∃ fd, FunD K "balanced_numbers" "balanced_numbers" (defArgs s_balanced_numbers) (defBody s_balanced_numbers) (defScope s_balanced_numbers) [] [] (He.ga K "balanced_numbers") fd := T.c.def_ 74 (d := d_balanced_numbers) rfl
theorem Tx.f_stationary_numbers (T : Tx K mg) : ∃ fd, FunD K "stationary_numbers" "stationary_numbers" (defArgs s_stationary_numbers) (defBody s_stationary_numbers) (defScope s_stationary_numbers) [] [] (He.ga K "stationary_numbers") fd := T.c.def_ 75 (d := d_stationary_numbers) rfl
theorem Tx.f_stationary_distribution (T : Tx K mg) : ∃ fd, FunD K "stationary_distribution" "stationary_distribution" (defArgs s_stationary_distribution) (defBody s_stationary_distribution) (defScope s_stationary_distribution) [] [] (He.ga K "stationary_distribution") fd := T.c.def_ 76 (d := d_stationary_distribution) rfl
theorem Tx.f_stationary_around (T : Tx K mg) : ∃ fd, FunD K "stationary_around" "stationary_around" (defArgs s_stationary_around) (defBody s_stationary_around) (defScope s_stationary_around) [] [] (He.ga K "stationary_around") fd := T.c.def_ 77 (d := d_stationary_around) rfl
theorem Tx.f_long_run_shares (T : Tx K mg) : ∃ fd, FunD K "long_run_shares" "long_run_shares" (defArgs s_long_run_shares) (defBody s_long_run_shares) (defScope s_long_run_shares) [] [] (He.ga K "long_run_shares") fd := T.c.def_ 78 (d := d_long_run_shares) rfl
theorem Tx.f_common_sum (T : Tx K mg) : ∃ fd, FunD K "common_sum" "common_sum" (defArgs s_common_sum) (defBody s_common_sum) (defScope s_common_sum) [] [] (He.ga K "common_sum") fd := T.c.def_ 79 (d := d_common_sum) rfl
theorem Tx.f_step_row (T : Tx K mg) : ∃ fd, FunD K "step_row" "step_row" (defArgs s_step_row) (defBody s_step_row) (defScope s_step_row) [] [] (He.ga K "step_row") fd := T.c.def_ 80 (d := d_step_row) rfl
theorem Tx.f_after_step (T : Tx K mg) : ∃ fd, FunD K "after_step" "after_step" (defArgs s_after_step) (defBody s_after_step) (defScope s_after_step) [] [] (He.ga K "after_step") fd := T.c.def_ 81 (d := d_after_step) rfl
theorem Tx.f_distribution_after (T : Tx K mg) : ∃ fd, FunD K "distribution_after" "distribution_after" (defArgs s_distribution_after) (defBody s_distribution_after) (defScope s_distribution_after) [] [] (He.ga K "distribution_after") fd := T.c.def_ 82 (d := d_distribution_after) rfl
theorem Tx.f_with_count (T : Tx K mg) : ∃ fd, FunD K "with_count" "with_count" (defArgs s_with_count) (defBody s_with_count) (defScope s_with_count) [] [] (He.ga K "with_count") fd := T.c.def_ 83 (d := d_with_count) rfl
theorem Tx.f_stationary (T : Tx K mg) : ∃ fd, FunD K "stationary" "stationary" (defArgs s_stationary) (defBody s_stationary) (defScope s_stationary) [] [] (He.ga K "stationary") fd := T.c.def_ 84 (d := d_stationary) rfl
theorem Tx.f_return_time (T : Tx K mg) : ∃ fd, FunD K "return_time" "return_time" (defArgs s_return_time) (defBody s_return_time) (defScope s_return_time) [] [] (He.ga K "return_time") fd := T.c.def_ 85 (d := d_return_time) rfl
theorem Tx.f_long_run (T : Tx K mg) : ∃ fd, FunD K "long_run" "long_run" (defArgs s_long_run) (defBody s_long_run) (defScope s_long_run) [] [] (He.ga K "long_run") fd := T.c.def_ 86 (d := d_long_run) rfl
theorem Tx.f_is_start (T : Tx K mg) : ∃ fd, FunD K "is_start" "is_start" (defArgs s_is_start) (defBody s_is_start) (defScope s_is_start) [] [] (He.ga K "is_start") fd := T.c.def_ 87 (d := d_is_start) rfl
theorem Tx.f_after_steps (T : Tx K mg) : ∃ fd, FunD K "after_steps" "after_steps" (defArgs s_after_steps) (defBody s_after_steps) (defScope s_after_steps) [] [] (He.ga K "after_steps") fd := T.c.def_ 88 (d := d_after_steps) rfl
theorem Tx.f_is_reversible (T : Tx K mg) : ∃ fd, FunD K "is_reversible" "is_reversible" (defArgs s_is_reversible) (defBody s_is_reversible) (defScope s_is_reversible) [] [] (He.ga K "is_reversible") fd := T.c.def_ 89 (d := d_is_reversible) rfl
theorem Tx.f_reversed_generator (T : Tx K mg) : ∃ fd, FunD K "reversed_generator" "reversed_generator" (defArgs s_reversed_generator) (defBody s_reversed_generator) (defScope s_reversed_generator) [] [] (He.ga K "reversed_generator") fd := T.c.def_ 90 (d := d_reversed_generator) rfl
theorem Tx.f_change (T : Tx K mg) : ∃ fd, FunD K "change" "change" (defArgs s_change) (defBody s_change) (defScope s_change) [] [] (He.ga K "change") fd := T.c.def_ 91 (d := d_change) rfl
theorem Tx.f_reach (T : Tx K mg) : ∃ fd, FunD K "reach" "reach" (defArgs s_reach) (defBody s_reach) (defScope s_reach) [] [] (He.ga K "reach") fd := T.c.def_ 92 (d := d_reach) rfl
theorem Tx.f_share (T : Tx K mg) : ∃ fd, FunD K "share" "share" (defArgs s_share) (defBody s_share) (defScope s_share) [] [] (He.ga K "share") fd := T.c.def_ 93 (d := d_share) rfl
theorem Tx.f_look_up (T : Tx K mg) : ∃ fd, FunD K "look_up" "look_up" (defArgs s_look_up) (defBody s_look_up) (defScope s_look_up) [] [] (He.ga K "look_up") fd := T.c.def_ 94 (d := d_look_up) rfl
theorem Tx.f_answer (T : Tx K mg) : ∃ fd, FunD K "answer" "answer" (defArgs s_answer) (defBody s_answer) (defScope s_answer) [] [] (He.ga K "answer") fd := T.c.def_ 95 (d := d_answer) rfl
theorem Tx.f_answers (T : Tx K mg) : ∃ fd, FunD K "answers" "answers" (defArgs s_answers) (defBody s_answers) (defScope s_answers) [] [] (He.ga K "answers") fd := T.c.def_ 96 (d := d_answers) rfl
end
end ER
/-! ## ErSem -/
/-! fractions and chains as values; calls that keep a promise -/
namespace ER
open PySem L2
open Lrx1 (Fraction Chain)
def qF : Rel Fraction := fun G v f => ∃ p, v = .ref p ∧ G p = some (.tup [.int f.num, .int (f.den : Int)])
instance : Mo qF := ⟨fun s ⟨p, e, h⟩ => ⟨p, e, s _ _ h⟩⟩
abbrev qW : Rel (List (List Nat)) := qL (qL qN)
def kc (c : Chain) : Int := if c.isContinuous = true then 1 else 0
def qC (K : PySem.W.Frag) : Rel Chain := fun G v c => ∃ p dx r, v = .ref p ∧ G p = some (.ins (He.ga K "Chain") dx [("is_continuous", .int (kc c)), ("rows", r)]) ∧ qW G r c.weights
instance (K : PySem.W.Frag) : Mo (qC K) := ⟨fun s ⟨p, dx, r, e, h, w⟩ => ⟨p, dx, r, e, s _ _ h, Mo.mo s w⟩⟩
section
variable {σ : L2.St} {G H : Hp} {K : PySem.W.Frag} {mg : Str → Option Value} {ta tb to : TE} {t : TA}
theorem ev_num {f : Fraction} (ha : Ev ta σ G H (isR qF f)) (hb : Ev tb σ G H (isV (.int 0))) : Ev (tOp (rIxT K) ta tb) σ G H (isV (.int f.num)) :=
  ev_op2 (P1 := aR qF f) (P2 := aV (.int 0)) ha hb fun x y G1 H1 e ⟨p, h1, h2⟩ h3 Q q => ⟨p, _, 0, _, h1, h3, SqT.of (e.sub _ _ h2), rfl, q _ G1 H1 (.refl e.sub) rfl⟩
theorem ev_den {f : Fraction} (ha : Ev ta σ G H (isR qF f)) (hb : Ev tb σ G H (isV (.int 1))) : Ev (tOp (rIxT K) ta tb) σ G H (isV (.int (f.den : Int))) :=
  ev_op2 (P1 := aR qF f) (P2 := aV (.int 1)) ha hb fun x y G1 H1 e ⟨p, h1, h2⟩ h3 Q q => ⟨p, _, 1, _, h1, h3, SqT.of (e.sub _ _ h2), rfl, q _ G1 H1 (.refl e.sub) rfl⟩
theorem ev_frac {f : Fraction} {a b : Int} (ha : Ev ta σ G H (isV (.int a))) (hb : Ev tb σ G H (isV (.int b))) (e1 : f.num = a) (e2 : (f.den : Int) = b) : Ev (tTup (tCons ta (tCons tb tNil))) σ G H (isR qF f) := fun G1 H1 e Q q =>
  ev_tupV (vs := [.int a, .int b]) (ea_V ha (ea_V hb ea_nil)) (by show 2 ≤ 1000; decide) G1 H1 e Q fun v G2 H2 e' ⟨p, h1, h2⟩ => q v G2 H2 e' ⟨p, h1, by rw [e1, e2]; exact h2⟩
theorem ev_rows {c : Chain} (T : Tx K mg) (h : Ev ta σ G H (isR (qC K) c)) : Ev (tFld K ta "rows") σ G H (isR qW c.weights) := fun G1 H1 e Q q =>
  h G1 H1 e _ fun v G2 H2 e2 ⟨p, dx, r, h1, h2, h3⟩ => ⟨p, _, dx, _, r, h1, e2.sub _ _ h2, T.c_Chain, T.n_Chain_rows, rfl, q _ G2 H2 e2 h3⟩
theorem ev_kind {c : Chain} (T : Tx K mg) (h : Ev ta σ G H (isR (qC K) c)) : Ev (tFld K ta "is_continuous") σ G H (isV (.int (kc c))) := fun G1 H1 e Q q =>
  h G1 H1 e _ fun v G2 H2 e2 ⟨p, dx, r, h1, h2, h3⟩ => ⟨p, _, dx, _, _, h1, e2.sub _ _ h2, T.c_Chain, T.n_Chain_is_continuous, rfl, q _ G2 H2 e2 rfl⟩
theorem ev_call {α : Type} {A : α → List Arg} {ok : α → Prop} {Pv : α → PVal} {E : XK} (a : α) [An (Pv a)] (h : EvA t σ G H (A a)) (hok : ok a) : Ev (tCall (spG A ok Pv) [] E t) σ G H (Pv a) := fun G1 H1 e Q q =>
  h G1 H1 e _ fun vs G2 H2 e2 as => ⟨G2, a, e2.sub, by rw [List.append_nil]; exact as, hok, fun v G' H' e' p => q v G' H' (e2.trans e') (An.an e2.h p)⟩
theorem ev_meth {α : Type} {A : α → List Arg} {ok : α → Prop} {Pv : α → PVal} {E : XK} {m : Str} {c : Chain} {As : List Arg} (a : α) [An (Pv a)] (ho : Ev to σ G H (isR (qC K) c)) (h : EvA t σ G H As) (hA : A a = aR (qC K) c :: As) (hok : ok a)
    (hm : (m == "is_continuous") = false ∧ (m == "rows") = false := by decide) : Ev (tMeth (He.ga K "Chain") m (spG A ok Pv) [] E to t) σ G H (Pv a) := fun G1 H1 e Q q =>
  ho G1 H1 e _ fun v G2 H2 e2 r => by
    have r' := r
    obtain ⟨p, dx, rr, h1, h2, h3⟩ := r'
    refine ⟨p, dx, _, h1, e2.sub _ _ h2, ?_, h G2 H2 (e.trans e2) _ fun vs G3 H3 e3 as => ⟨G3, a, e3.sub, ?_, hok, fun v G' H' e' p => q v G' H' ((e2.trans e3).trans e') (An.an (e2.trans e3).h p)⟩⟩
    · show (match m == "is_continuous" with | true => _ | false => match m == "rows" with | true => _ | false => none) = none
      rw [hm.1, hm.2]
    · rw [hA, List.append_nil]
      exact ⟨v, vs, rfl, MoA.mo (A := aR (qC K) c) e3.g r, as⟩
theorem ev_cat {α : Type} {R : Rel α} [Mo R] {xs ys : List α} (ha : Ev ta σ G H (isR (qL R) xs)) (hb : Ev tb σ G H (isR (qL R) ys)) (hn : xs.length + ys.length ≤ 1000) : Ev (tOp rCat ta tb) σ G H (isN R (xs ++ ys)) :=
  ev_op2 (P1 := aR (qL R) xs) (P2 := aR (qL R) ys) ha hb fun x y G1 H1 e ⟨p, vs, h1, h2, h3⟩ ⟨p', vs', h1', h2', h3'⟩ Q q => by
    refine ⟨p, p', vs, vs', h1, h1', e.sub _ _ h2, e.sub _ _ h2', ?_, fun l hl => ?_⟩
    · rw [paired_len h3, paired_len h3']
      exact Nat.le_of_lt (small1000 hn)
    · have g := none_of e.sub hl
      exact q _ G1 _ ((Ext.refl e.sub).loc hl g) ⟨l, _, rfl, hl, g, upd_same, paired_append h3 h3'⟩
theorem sq {tS u : TS} {D : Ends} (h : tS { D with nx := u D } σ H) : tSeq tS u D σ H := h
end
theorem take_step {α : Type} {l : List α} {i : Nat} {x : α} (h : l[i]? = some x) : l.take (i + 1) = l.take i ++ [x] := by
  rw [List.take_add_one, h]
  rfl
end ER
/-! ## ErLc -/
/-! comprehensions without a condition -/
namespace ER
open PySem L2
section
variable {β : Type} {σ : St} {G H : Hp} {K : PySem.W.Frag} {te : TE} {vs : List Nat} {R : Rel β} [Mo R]
theorem all_in {α : Type} (l : List α) : l.filter (fun _ => true) = l := List.filter_eq_self.mpr fun _ _ => rfl
theorem ev_mapL {α : Type} {S : Rel α} [Mo S] {tl : TE} {s : Nat} {xs : List α} {f : α → β} (h : Ev tl σ G H (isR (qL S) xs)) (hn : xs.length ≤ 1000) (hw : ∀ v, wipe ((wipe σ vs).set s (some v)) vs = wipe σ vs)
    (hit : ∀ x ∈ xs, ∀ v G' H', Ext G H G' H' → S G' v x → Ev te ((wipe σ vs).set s (some v)) G' H' (isR R (f x))) :
    Ev (tLc (iList K tl) (gName s) tYes te vs) σ G H (isN R (xs.map f)) := by
  have z := ev_lcL (K := K) (p := fun _ => true) h hn hw fun x hx v G' H' e sv => ⟨et_yes, fun _ => hit x hx v G' H' e sv⟩
  rw [all_in] at z
  exact z
theorem ev_mapR {tn : TA} {s n : Nat} {f : Nat → β} (h : EvA tn σ G H [aV (.int (n : Int))]) (hn : n ≤ 1000) (hw : ∀ v, wipe ((wipe σ vs).set s (some v)) vs = wipe σ vs)
    (hit : ∀ i, i < n → ∀ G' H', Ext G H G' H' → Ev te ((wipe σ vs).set s (some (.int (i : Int)))) G' H' (isR R (f i))) :
    Ev (tLc (iRng1 tn) (gName s) tYes te vs) σ G H (isN R ((List.range n).map f)) := by
  have z := ev_lcR (p := fun _ => true) h hn hw fun i hi G' H' e => ⟨et_yes, fun _ => hit i hi G' H' e⟩
  rw [all_in] at z
  exact z
theorem ev_mapE {α : Type} {S : Rel α} [Mo S] {tl : TA} {s t : Nat} {xs : List α} {f : α × Nat → β} (h : EvA tl σ G H [aR (qL S) xs]) (hn : xs.length ≤ 1000) (hw : ∀ v w, wipe (((wipe σ vs).set s (some v)).set t (some w)) vs = wipe σ vs)
    (hit : ∀ (x : α) (i : Nat), xs[i]? = some x → ∀ v G' H', Ext G H G' H' → S G' v x → Ev te (((wipe σ vs).set s (some (.int (i : Int)))).set t (some v)) G' H' (isR R (f (x, i)))) :
    Ev (tLc (iEnum K tl) (gTup K 2 (gCons (gName s) (gCons (gName t) gNil))) tYes te vs) σ G H (isN R (xs.zipIdx.map f)) := by
  have z := ev_lcE (K := K) (p := fun _ => true) h hn hw fun x i hx v G' H' e sv => ⟨et_yes, fun _ => hit x i hx v G' H' e sv⟩
  rw [all_in] at z
  exact z
theorem ev_mapZ {α γ : Type} {S : Rel α} [Mo S] {S' : Rel γ} [Mo S'] {tl : TA} {s t : Nat} {xs : List α} {ys : List γ} {f : α × γ → β} (h : EvA tl σ G H [aR (qL S) xs, aR (qL S') ys]) (hn : xs.length ≤ 1000) (hw : ∀ v w, wipe (((wipe σ vs).set s (some v)).set t (some w)) vs = wipe σ vs)
    (hit : ∀ (i : Nat) (x : α) (y : γ), xs[i]? = some x → ys[i]? = some y → ∀ v w G' H', Ext G H G' H' → S G' v x → S' G' w y → Ev te (((wipe σ vs).set s (some v)).set t (some w)) G' H' (isR R (f (x, y)))) :
    Ev (tLc (iZip K tl) (gTup K 2 (gCons (gName s) (gCons (gName t) gNil))) tYes te vs) σ G H (isN R ((xs.zip ys).map f)) := by
  have z := ev_lcZ (K := K) (p := fun _ => true) h hn hw fun i x y hx hy v w G' H' e sv sw => ⟨et_yes, fun _ => hit i x y hx hy v w G' H' e sv sw⟩
  rw [all_in] at z
  exact z
theorem ev_toR {v : V} {b : β} (h : Ev te σ G H (isV v)) (r : ∀ G, R G v b) : Ev te σ G H (isR R b) := fun G1 H1 x Q q => h G1 H1 x Q fun v' G2 H2 y e => by
  have e' : v' = v := e
  subst e'
  exact q v' G2 H2 y (r G2)
theorem ev_N {n : Nat} (h : Ev te σ G H (isV (.int (n : Int)))) : Ev te σ G H (isR qN n) := ev_toR (R := qN) h fun _ => rfl
theorem ev_Z {n : Int} (h : Ev te σ G H (isV (.int n))) : Ev te σ G H (isR qI n) := ev_toR (R := qI) h fun _ => rfl
theorem ev_Y {b : Bool} (h : Ev te σ G H (isV (.bl b))) : Ev te σ G H (isR qB b) := ev_toR (R := qB) h fun _ => rfl
theorem ev_ofN {n : Nat} (h : Ev te σ G H (isR qN n)) : Ev te σ G H (isV (.int (n : Int))) := h
end
end ER
/-! ## ErLo -/
/-! lists of a def's own, that it changes -/
namespace ER
open PySem L2
open Lrx1 (Fraction Chain)

def LocL {α : Type} (R : Rel α) (xs : List α) (H0 : Hp) (p : Addr) (G H : Hp) : Prop := ∃ vs, H0 p = none ∧ G p = none ∧ H p = some (.lst vs) ∧ Paired (R G) vs xs
section
variable {α : Type} {R : Rel α} {xs : List α} {G H G1 H1 G2 H2 : Hp} {p q : Addr} {o : HO} {v : V}
theorem locl_of (n : isN R xs H v G1 H1) : ∃ p, v = .ref p ∧ LocL R xs H p G1 H1 := by
  obtain ⟨p, vs, a, b, c, d, e⟩ := n
  exact ⟨p, a, vs, b, c, d, e⟩
theorem locl_to (l : LocL R xs H p G1 H1) : isN R xs H (.ref p) G1 H1 := by
  obtain ⟨vs, b, c, d, e⟩ := l
  exact ⟨p, vs, rfl, b, c, d, e⟩
theorem LocL.ext [Mo R] (l : LocL R xs H p G1 H1) (e : Ext G1 H1 G2 H2) : LocL R xs H p G2 H2 := by
  obtain ⟨vs, b, c, d, f⟩ := l
  exact ⟨vs, b, e.out d c, e.h _ _ d, paired_mono (fun _ _ => Mo.mo e.g) f⟩
theorem LocL.jk (l : LocL R xs H p G1 H1) (j : Jk H1 H2) : LocL R xs H p G1 H2 := by
  obtain ⟨vs, b, c, d, f⟩ := l
  exact ⟨vs, b, c, j.at d, f⟩
theorem LocL.oth (l : LocL R xs H q G1 H1) (h : q ≠ p) : LocL R xs H q G1 (upd H1 p o) := by
  obtain ⟨vs, b, c, d, f⟩ := l
  exact ⟨vs, b, c, by rw [upd_ne h]; exact d, f⟩
theorem LocL.out (l : LocL R xs H p G1 H1) : H p = none ∧ G1 p = none := by
  obtain ⟨vs, b, c, d, f⟩ := l
  exact ⟨b, c⟩
theorem LocL.neq {α' : Type} {R' : Rel α'} {xs' : List α'} {H' : Hp} (l : LocL R xs H p G1 H') (l' : LocL R' xs' H' q G2 H2) : p ≠ q := fun e => by
  subst e
  obtain ⟨vs, b, c, d, f⟩ := l
  obtain ⟨vs', b', c', d', f'⟩ := l'
  rw [d] at b'
  cases b'
/-- a base further back -/
theorem LocL.back {H' : Hp} (s : Same H H') (l : LocL R xs H' p G1 H1) : LocL R xs H p G1 H1 := by
  obtain ⟨vs, b, c, d, f⟩ := l
  exact ⟨vs, none_of s b, c, d, f⟩
theorem LocL.up (e : Ext G H G2 H2) (l : LocL R xs H p G2 (upd H2 p o)) : Ext G H G2 (upd H2 p o) := e.loc l.out.1 l.out.2
/-- from here on it stands still -/
theorem LocL.frz [Mo R] (l : LocL R xs H p G1 H1) (e : Ext G H G1 H1) : ∃ G2, Same G1 G2 ∧ Ext G H G2 H1 ∧ qL R G2 (.ref p) xs ∧ ∀ b, b ≠ p → G2 b = G1 b := by
  obtain ⟨vs, b, c, d, f⟩ := l
  exact ⟨upd G1 p (.lst vs), same_upd c, e.frz b c d, ⟨p, vs, rfl, upd_same, paired_mono (fun _ _ => Mo.mo (same_upd c)) f⟩, fun b hb => upd_ne hb⟩
theorem LocL.oth2 [Mo R] (l : LocL R xs H q G1 H1) (s : Same G1 G2) (h : G2 q = G1 q) : LocL R xs H q G2 H1 := by
  obtain ⟨vs, b, c, d, f⟩ := l
  exact ⟨vs, b, by rw [h]; exact c, d, paired_mono (fun _ _ => Mo.mo s) f⟩
end
section
variable {α : Type} {R : Rel α} [Mo R] {xs : List α} {a : α} {σ : St} {G H G1 H1 : Hp} {p : Addr} {to ti te tx : TE} {D : Ends} {K : PySem.W.Frag} {v : V}
theorem ev_ixN {i : Nat} (l : LocL R xs H p G1 H1) (ho : Ev to σ G1 H1 (isV (.ref p))) (hi : Ev ti σ G1 H1 (isV (.int (i : Int)))) (h : xs[i]? = some a) : Ev (tOp (rIxL K) to ti) σ G1 H1 (isR R a) := by
  obtain ⟨vs, b, c, d, f⟩ := l
  obtain ⟨v, hv, rv⟩ := paired_at f h
  exact ev_R (ev_ixV ho d hi hv) rv
theorem ev_lenN (l : LocL R xs H p G1 H1) (ho : Ev to σ G1 H1 (isV (.ref p))) : Ev (tCB (fun vs H Q => ∃ p ys, vs = [.ref p] ∧ (SqL K H p ys ∨ SqT K H p ys) ∧ Q (.int ys.length) H) (tCons to tNil)) σ G1 H1 (isV (.int (xs.length : Int))) := by
  obtain ⟨vs, b, c, d, f⟩ := l
  rw [← paired_len f]
  exact ev_lenV ho d
theorem ixN_nat {n i : Nat} (h : i < n) : ixN n (i : Int) = some i := by
  unfold ixN
  rw [if_pos (by omega), if_pos (by omega)]
  rfl
/-- xs[i] = x -/
theorem st_put {i : Nat} (l : LocL R xs H p G1 H1) (e : Same G1 H1) (hx : Ev te σ G1 H1 (isR R a)) (ho : Ev to σ G1 H1 (isV (.ref p))) (hi : Ev ti σ G1 H1 (isV (.int (i : Int)))) (hl : i < xs.length)
    (k : ∀ G2 H2 vs, Ext G1 H1 G2 H2 → LocL R (xs.set i a) H p G2 (upd H2 p (.lst vs)) → D.nx σ (upd H2 p (.lst vs))) : tAsg te (gSub to ti rSetL) D σ H1 :=
  hx G1 H1 (.refl e) _ fun x G2 H2 e2 rx => ho G2 H2 e2 _ fun o G3 H3 e3 eo => hi G3 H3 (e2.trans e3) _ fun y G4 H4 e4 ey => by
    have E := (e2.trans e3).trans e4
    obtain ⟨vs, b, c, d, f⟩ := l.ext E
    have eo' : o = .ref p := eo
    have ey' : y = .int (i : Int) := ey
    subst eo' ey'
    have hl' : i < vs.length := by rw [paired_len f]; exact hl
    exact ⟨p, vs, i, i, rfl, rfl, d, ixN_nat hl', k G4 H4 _ E ⟨_, b, c, upd_same, paired_set f (Mo.mo (e3.trans e4).g rx) i⟩⟩
/-- xs.append(x) -/
theorem st_app (l : LocL R xs H p G1 H1) (e : Same G1 H1) (ho : Ev to σ G1 H1 (isV (.ref p))) (hx : Ev te σ G1 H1 (isR R a)) (hn : xs.length ≤ 1000)
    (k : ∀ G2 H2 vs, Ext G1 H1 G2 H2 → LocL R (xs ++ [a]) H p G2 (upd H2 p (.lst vs)) → D.nx σ (upd H2 p (.lst vs))) : tDrop (tBM K "list" rAppend to (tCons te tNil)) D σ H1 :=
  ho G1 H1 (.refl e) _ fun o G2 H2 e2 eo => by
    have eo' : o = .ref p := eo
    subst eo'
    obtain ⟨vs0, b0, c0, d0, f0⟩ := l.ext e2
    refine ⟨.inl ⟨rfl, vs0, SqL.of d0⟩, ?_⟩
    refine hx G2 H2 e2 _ fun x G3 H3 e3 rx => ?_
    have E := e2.trans e3
    obtain ⟨vs, b, c, d, f⟩ := l.ext E
    exact ⟨p, vs, x, rfl, rfl, d, small1000 (by rw [paired_len f]; exact hn), k G3 H3 _ E ⟨_, b, c, upd_same, paired_append f (.cons rx .nil)⟩⟩
/-- xs.extend(t), t a tuple or a list that stands still -/
theorem st_extT {ys : List α} {f : Hp → V → Prop} (l : LocL R xs H p G1 H1) (e : Same G1 H1) (ho : Ev to σ G1 H1 (isV (.ref p))) (hx : Ev te σ G1 H1 (fun _ v G _ => f G v)) (hf : ∀ G H v, Same G H → f G v → ∃ b ws, v = .ref b ∧ SqT K H b ws ∧ Paired (R G) ws ys) (hn : xs.length + ys.length ≤ 1000)
    (k : ∀ G2 H2 vs, Ext G1 H1 G2 H2 → LocL R (xs ++ ys) H p G2 (upd H2 p (.lst vs)) → D.nx σ (upd H2 p (.lst vs))) : tDrop (tBM K "list" (rExtT K) to (tCons te tNil)) D σ H1 :=
  ho G1 H1 (.refl e) _ fun o G2 H2 e2 eo => by
    have eo' : o = .ref p := eo
    subst eo'
    obtain ⟨vs0, b0, c0, d0, f0⟩ := l.ext e2
    refine ⟨.inl ⟨rfl, vs0, SqL.of d0⟩, ?_⟩
    refine hx G2 H2 e2 _ fun x G3 H3 e3 rx => ?_
    have E := e2.trans e3
    obtain ⟨vs, b, c, d, g⟩ := l.ext E
    obtain ⟨b', ws, rfl, h1, h2⟩ := hf G3 H3 x e3.sub rx
    have l1 := paired_len g
    have l2 := paired_len h2
    exact ⟨p, b', vs, ws, rfl, rfl, d, h1, Nat.le_of_lt (small1000 (by omega)), k G3 H3 _ E ⟨_, b, c, upd_same, paired_append g h2⟩⟩
/-- row[i] += x -/
theorem st_augI {ns : List Int} {i : Nat} {m y : Int} (l : LocL qI ns H p G1 H1) (e : Same G1 H1) (ho : Ev to σ G1 H1 (isV (.ref p))) (hi : Ev ti σ G1 H1 (isV (.int (i : Int)))) (hm : ns[i]? = some m) (hx : Ev te σ G1 H1 (isV (.int y)))
    (k : ∀ G2 H2 vs, Ext G1 H1 G2 H2 → LocL qI (ns.set i (m + y)) H p G2 (upd H2 p (.lst vs)) → D.nx σ (upd H2 p (.lst vs))) : tAugS to ti te (rGetN K) (ipI fun i j => i + j) rSetL D σ H1 :=
  ho G1 H1 (.refl e) _ fun o G2 H2 e2 eo => hi G2 H2 e2 _ fun x G3 H3 e3 ex => by
    have eo' : o = .ref p := eo
    have ex' : x = .int (i : Int) := ex
    subst eo' ex'
    obtain ⟨vs0, b0, c0, d0, f0⟩ := l.ext (e2.trans e3)
    obtain ⟨z, hz, rz⟩ := paired_at f0 hm
    have ez : z = .int m := rz
    subst ez
    refine ⟨p, vs0, i, _, rfl, rfl, SqL.of d0, hz, ?_⟩
    refine hx G3 H3 (e2.trans e3) _ fun w G4 H4 e4 ew => ?_
    have ew' : w = .int y := ew
    subst ew'
    have E := (e2.trans e3).trans e4
    obtain ⟨vs, b, c, d, f⟩ := l.ext E
    have hl : i < vs.length := by rw [paired_len f]; exact (List.getElem?_eq_some_iff.mp hm).1
    exact ⟨m, y, rfl, rfl, p, vs, i, i, rfl, rfl, d, ixN_nat hl, k G4 H4 _ E ⟨_, b, c, upd_same, paired_set f (x := .int (m + y)) (y := m + y) rfl i⟩⟩
/-- [x] * n -/
theorem ev_rep {n : Nat} (ho : Ev to σ G H (isN R xs)) (hi : Ev ti σ G H (isV (.int (n : Int)))) (hn : xs.length * n ≤ 1000) (h1 : n ≤ 1000) : Ev (tOp rRep to ti) σ G H (isN R (List.replicate n xs).flatten) := fun G1 H1 e Q q =>
  ho G1 H1 e _ fun x G2 H2 e2 nx => by
    obtain ⟨p, rfl, l⟩ := locl_of nx
    refine hi G2 H2 (e.trans e2) _ fun y G3 H3 e3 ey => ?_
    have ey' : y = .int (n : Int) := ey
    subst ey'
    obtain ⟨vs, b, c, d, f⟩ := l.ext e3
    refine ⟨p, n, vs, rfl, rfl, d, by omega, by omega, ?_, fun r hr => ?_⟩
    · rw [paired_len f]
      exact Nat.le_of_lt (small1000 hn)
    · have E := (e2.trans e3)
      have g : G3 r = none := none_of E.sub hr
      refine q _ G3 _ (E.loc (none_of E.h hr) g) ⟨r, _, rfl, none_of E.h hr, g, upd_same, ?_⟩
      rw [show (n : Int).toNat = n by omega]
      clear q hi hn h1 ey
      induction n with
      | zero => exact .nil
      | succ n ih => 
        rw [List.replicate_succ, List.replicate_succ, List.flatten_cons, List.flatten_cons]
        exact paired_append f ih
/-! x in xs -/
theorem inV_int (i : Nat) : ∀ ns : List Nat, inV (.int (i : Int)) (ns.map fun (n : Nat) => V.int (n : Int)) = decide (i ∈ ns)
  | [] => by simp [inV]
  | n :: r => by
    have ih := inV_int i r
    unfold inV at ih ⊢
    rw [List.map_cons, List.any_cons, ih]
    show (((n : Int) == (i : Int)) || _) = _
    by_cases h : i = n
    · subst h; simp
    · have h' : ((n : Int) == (i : Int)) = false := by simpa using fun e => h (by omega)
      rw [h']; simp [h]
theorem flat_ints : ∀ ns : List Nat, (ns.map fun (n : Nat) => V.int (n : Int)).all flatV = true
  | [] => rfl
  | n :: r => by rw [List.map_cons, List.all_cons, flat_ints r]; rfl
theorem ev_in {i : Nat} {ns : List Nat} (hx : Ev to σ G H (isV (.int (i : Int)))) (hs : Ev ti σ G H (isR (qL qN) ns)) : Ev (tOp (rIn K false) to ti) σ G H (isV (.bl (decide (i ∈ ns)))) :=
  ev_op2 (P1 := aV (.int (i : Int))) (P2 := aR (qL qN) ns) hx hs fun x y G1 H1 e h1 ⟨p, vs, hy, hp, pr⟩ Q q => by
    have e1 : x = .int (i : Int) := h1
    subst e1
    have ev := qN_list pr
    subst ev
    refine ⟨p, _, hy, .inl (SqL.of (e.sub _ _ hp)), rfl, flat_ints ns, ?_⟩
    rw [if_neg Bool.false_ne_true, inV_int]
    exact q _ G1 H1 (.refl e.sub) rfl
theorem ev_notIn {i : Nat} {ns : List Nat} (hx : Ev to σ G H (isV (.int (i : Int)))) (hs : Ev ti σ G H (isR (qL qN) ns)) : Ev (tOp (rIn K true) to ti) σ G H (isV (.bl (!decide (i ∈ ns)))) :=
  ev_op2 (P1 := aV (.int (i : Int))) (P2 := aR (qL qN) ns) hx hs fun x y G1 H1 e h1 ⟨p, vs, hy, hp, pr⟩ Q q => by
    have e1 : x = .int (i : Int) := h1
    subst e1
    have ev := qN_list pr
    subst ev
    refine ⟨p, _, hy, .inl (SqL.of (e.sub _ _ hp)), rfl, flat_ints ns, ?_⟩
    rw [if_pos rfl, inV_int]
    exact q _ G1 H1 (.refl e.sub) rfl
/-! equality of fractions, and of lists of numbers -/
def dF (f : Fraction) : PyData := .tuple [.int f.num, .int (f.den : Int)]
theorem dp_frac {G H : Hp} (s : Same G H) {v : V} {f : Fraction} (h : qF G v f) : Dp K H v (dF f) := by
  obtain ⟨p, rfl, hp⟩ := h
  exact .tup (SqT.of (s _ _ hp)) (.cons (.int _) (.cons (.int _) .nil))
theorem eqv_dF (f g : Fraction) : PyData.eqv (dF f) (dF g) = decide (f = g) := by
  show ((f.num == g.num) && (((f.den : Int) == (g.den : Int)) && true)) = _
  rw [Bool.and_true]
  by_cases h1 : f.num = g.num <;> by_cases h2 : f.den = g.den
  · obtain ⟨a, b⟩ := f
    obtain ⟨c, d⟩ := g
    have h1' : a = c := h1
    have h2' : b = d := h2
    subst h1' h2'
    simp
  · have : f ≠ g := fun e => h2 (by rw [e])
    simp [this, h1, show ¬ ((f.den : Int) = (g.den : Int)) by omega]
  · have : f ≠ g := fun e => h1 (by rw [e])
    simp [this, h1]
  · have : f ≠ g := fun e => h1 (by rw [e])
    simp [this, h1]
theorem ev_eqF {f g : Fraction} (hx : Ev to σ G H (isR qF f)) (hy : Ev ti σ G H (isR qF g)) : Ev (tOp (rEqD K) to ti) σ G H (isV (.bl (decide (f = g)))) :=
  ev_op2 (P1 := aR qF f) (P2 := aR qF g) hx hy fun x y G1 H1 e h1 h2 Q q => ⟨dF f, dF g, dp_frac e.sub h1, dp_frac e.sub h2, rfl, rfl, by rw [eqv_dF]; exact q _ G1 H1 (.refl e.sub) rfl⟩
theorem ev_neF {f g : Fraction} (hx : Ev to σ G H (isR qF f)) (hy : Ev ti σ G H (isR qF g)) : Ev (tOp (rNeD K) to ti) σ G H (isV (.bl (!decide (f = g)))) :=
  ev_op2 (P1 := aR qF f) (P2 := aR qF g) hx hy fun x y G1 H1 e h1 h2 Q q => ⟨dF f, dF g, dp_frac e.sub h1, dp_frac e.sub h2, rfl, rfl, by rw [eqv_dF]; exact q _ G1 H1 (.refl e.sub) rfl⟩
def dN (ns : List Nat) : PyData := .list (ns.map fun (n : Nat) => PyData.int (n : Int))
theorem dp_ints {H : Hp} : ∀ ns : List Nat, DpAll K H (ns.map fun (n : Nat) => V.int (n : Int)) (ns.map fun (n : Nat) => PyData.int (n : Int))
  | [] => .nil
  | n :: r => .cons (.int _) (dp_ints r)
theorem dp_nats {G H : Hp} (s : Same G H) {v : V} {ns : List Nat} (h : qL qN G v ns) : Dp K H v (dN ns) := by
  obtain ⟨p, vs, rfl, hp, pr⟩ := h
  have ev := qN_list pr
  subst ev
  exact .lst (SqL.of (s _ _ hp)) (dp_ints ns)
theorem eqvAll_ints : ∀ ns ms : List Nat, PyData.eqvAll (ns.map fun (n : Nat) => PyData.int (n : Int)) (ms.map fun (n : Nat) => PyData.int (n : Int)) = decide (ns = ms)
  | [], [] => rfl
  | [], _ :: _ => rfl
  | _ :: _, [] => rfl
  | a :: r, b :: t => by
    show (((a : Int) == (b : Int)) && PyData.eqvAll (r.map fun (n : Nat) => PyData.int (n : Int)) (t.map fun (n : Nat) => PyData.int (n : Int))) = _
    rw [eqvAll_ints r t]
    by_cases h : a = b <;> by_cases h' : r = t <;> simp [h, h']
    · omega
theorem shaped_dN (ns : List Nat) : SeqAt.shaped (dN ns) = true := by
  have h := PySem.W.ke_shaped_ints (ns.map fun (n : Nat) => (n : Int))
  rw [List.map_map] at h
  exact h
theorem ev_neL {ns ms : List Nat} (hx : Ev to σ G H (isR (qL qN) ns)) (hy : Ev ti σ G H (isR (qL qN) ms)) : Ev (tOp (rNeD K) to ti) σ G H (isV (.bl (!decide (ns = ms)))) :=
  ev_op2 (P1 := aR (qL qN) ns) (P2 := aR (qL qN) ms) hx hy fun x y G1 H1 e h1 h2 Q q => ⟨dN ns, dN ms, dp_nats e.sub h1, dp_nats e.sub h2, shaped_dN ns, shaped_dN ms, by rw [show PyData.eqv (dN ns) (dN ms) = _ from eqvAll_ints ns ms]; exact q _ G1 H1 (.refl e.sub) rfl⟩
end
end ER
namespace ER
open PySem L2
section
variable {P : Program} {w : World} {K : PySem.W.Frag} {mg : Str → Option Value} {base : Heap}
/-- as has_mk, any promise -/
theorem has_sp {x qual : Str} {params : Arguments} {body : List Stmt} {scope : Scope} {f : Addr} {N ps : List Str} {k : Nat} {sp : Sp}
    (F : ∃ fd, FunD K x qual params body scope [] [] f fd) (S : FnScope N ps scope) (hl : ∀ vs H Q X, sp vs H Q X → vs.length = ps.length)
    (hb : ∀ (kV doc pm : Value) (an : Option Addr) (cdv ct : Value) (us : List Value), us.length = ps.length → bindArgs (PySem.W.fnOf x qual params body scope .none kV doc pm an cdv ct) ⟨us, []⟩ = pure (ps.zip us))
    (hd : ∀ (cdv : Value) (E : Around) (outer : List Env) (s : Shared) (H : Hp) (X : XK), Room k (E.deeper (PyProof.Rows.envOfC qual scope s.heap.objs.size f cdv)) →
      ∀ vs (Q : VK), sp vs H Q X → ∃ t, PSs (cxOf CX0 P w K mg base N qual scope f cdv E outer s H X).nox body t ∧ t { nx := fun _ H' => Q .non H', rt := Q } (start N vs) H) :
    Has P w K mg base (k + 1) f ps sp := by
  obtain ⟨fd, F⟩ := F
  refine ⟨⟨fd, ?_, ?_⟩, F.kp⟩
  · refine F.ok S (fun vs H Q X h => hl vs H Q X h) (fun cdv E outer s H vs Q X hroom h => ?_)
    obtain ⟨t, d, r⟩ := hd cdv E outer s H X hroom vs Q h
    exact ⟨t, PSs.nox d, r⟩
  · obtain ⟨oc, od, dV, kV, doc, pm, an, cdv, ct, osl, rfl, _, _, hD, _⟩ := F.ex
    rcases hD with ⟨_, rfl⟩ | ⟨n, _⟩
    · exact Binds.all (hb kV doc pm an cdv ct)
    · exact absurd rfl n
end
end ER
namespace ER
open PySem L2
theorem sq_ifN {σ : St} {G H : Hp} {D : Ends} {t w : TS} {c : TT} {b : Bool} (s : Same G H) (h : EvT c σ G H b) (k1 : b = true → ∀ G' H', Ext G H G' H' → t { D with nx := w D } σ H') (k2 : b = false → ∀ G' H', Ext G H G' H' → w D σ H') : tSeq (tIfS c t tNext) w D σ H :=
  sq_if s h k1 k2
end ER
/-! ## ErA -/
/-! greatest divisors, common multiples, ratios -/
namespace ER
open PySem PySem.Spec PyProof.Rows L2
open Lrx1 (Fraction Chain reduce)
section
variable {P : Program} {w : World} {K : PySem.W.Frag} {mg : Str → Option Value} {base : Heap}
theorem fmod_abs (i : Int) {j : Int} (h : j ≠ 0) : (i.fmod j).natAbs < j.natAbs := by
  rcases Int.lt_or_lt_of_ne h with q | q
  · have h1 := Int.fmod_neg_le_zero_of_neg i q
    omega
  · have h1 := Int.fmod_nonneg_of_pos i q
    have h2 := Int.fmod_lt_of_pos i q
    omega
where
  Int.fmod_neg_le_zero_of_neg (i : Int) {j : Int} (q : j < 0) : i.fmod j ≤ 0 ∧ j < i.fmod j := by
    have e : i.fmod j = -((-i).fmod (-j)) := by rw [Int.neg_fmod_neg]; omega
    have h1 := Int.fmod_nonneg_of_pos (-i) (show 0 < -j by omega)
    have h2 := Int.fmod_lt_of_pos (-i) (show 0 < -j by omega)
    omega
theorem gcd_fmod (i j : Int) : Nat.gcd j.natAbs (i.fmod j).natAbs = Nat.gcd i.natAbs j.natAbs := by
  show Int.gcd j (i.fmod j) = Int.gcd i j
  have e : i.fmod j = i + j * (-(i.fdiv j)) := by
    have := Int.fmod_def i j
    rw [this, Int.mul_neg]; omega
  rw [e, Int.gcd_add_mul_left_right, Int.gcd_comm]
abbrev sp_greatest_divisor (K : PySem.W.Frag) : Sp := spG (α := Int × Int) (fun a => [aV (.int a.1), aV (.int a.2)]) (fun _ => True) fun a => isV (.int ((Nat.gcd a.1.natAbs a.2.natAbs : Nat) : Int))
abbrev N_greatest_divisor : List Str := ["first", "second", "rest"]
abbrev P_greatest_divisor : List Str := ["first", "second"]
theorem sc_greatest_divisor : FnScope N_greatest_divisor P_greatest_divisor (defScope s_greatest_divisor) := ⟨rfl, rfl, rfl, by decide +kernel, rfl, by decide +kernel, by decide +kernel⟩
theorem ok_greatest_divisor (T : Tx K mg) : Has P w K mg base 1 (He.ga K "greatest_divisor") P_greatest_divisor (sp_greatest_divisor K) := by
  have nd := sc_greatest_divisor.nd
  refine has_mk T.f_greatest_divisor sc_greatest_divisor (fun _ => rfl) (fun _ _ _ _ _ _ us hl => match us, hl with | [_, _], _ => rfl) (fun cdv E outer s H X hr a G vs Q sm ha hok k => ⟨_, (pss_cons (ps_while PassesOwn.never (pt_cmpR op_ne (pv 1) pe_int (by rfl)) (pss_cons (ps_set (i := 2) nd rfl (.inl rfl) (pe_op op_modN (pv 0) (pv 1)))
      (pss_cons (ps_set (i := 0) nd rfl (.inl rfl) (pv 1))
      (pss_one (ps_set (i := 1) nd rfl (.inl rfl) (pv 2))))))
      (pss_one (ps_ret (pe_callB call_abs (by rfl) T.z_abs (by decide +kernel) (pa_cons (pv 0) pa_nil))))), ?_⟩)
  obtain ⟨_, _, rfl, rfl, _, _, rfl, rfl, rfl⟩ := ha
  obtain ⟨a, b⟩ := a
  dsimp only at k ⊢
  refine sq (wh_by sm (fun m σ G1 H1 => ∃ x y r, σ = [some (.int x), some (.int y), r] ∧ m = y.natAbs ∧ Nat.gcd x.natAbs y.natAbs = Nat.gcd a.natAbs b.natAbs ∧ Ext G H G1 H1) ⟨a, b, none, rfl, rfl, rfl, .refl sm⟩ ?_)
  rintro m σ G1 H1 s1 ⟨x, y, r, rfl, rfl, eg, e1⟩
  refine ⟨_, et_test (ev_ne (ev_var rfl) ev_c rfl), fun c G2 H2 e2 => ?_, fun c G2 H2 e2 => ?_⟩
  · have hy : y ≠ 0 := by
      rw [dec_int] at c
      simpa using c
    refine sq_set e2.sub (ev_I (ev_var rfl) (ev_var rfl) hy) fun v G3 H3 e3 p => ?_
    subst p
    refine sq_set e3.sub (ev_var rfl) fun v G4 H4 e4 p => ?_
    subst p
    refine st_set e4.sub (ev_var rfl) fun v G5 H5 e5 p => ?_
    subst p
    refine ⟨(x.fmod y).natAbs, G5, fmod_abs x hy, e5.sub, y, x.fmod y, _, rfl, rfl, ?_, (((e1.trans e2).trans e3).trans e4).trans e5⟩
    rw [gcd_fmod, eg]
  · have hy : y = 0 := by
      rw [dec_int] at c
      simpa using c
    subst hy
    refine st_ret e2.sub (ev_abs (ev_var rfl)) fun v G3 H3 e3 p => k v G3 H3 ((e1.trans e2).trans e3) ?_
    rw [show v = _ from p]
    show V.int _ = V.int _
    rw [← eg]
    congr 1
    simp
    split <;> omega
theorem dvd_lt {a D B : Nat} (h : a ∣ D) (h0 : 0 < D) (hb : D < 2 ^ B) : a < 2 ^ B := Nat.lt_of_le_of_lt (Nat.le_of_dvd h0 h) hb
def lcmF (l : List Nat) : Nat := l.foldl Nat.lcm 1
theorem lcm_pos : ∀ (l : List Nat) (b : Nat), 0 < b → (∀ d ∈ l, 0 < d) → 0 < l.foldl Nat.lcm b
  | [], b, h, _ => h
  | x :: r, b, h, g => lcm_pos r (Nat.lcm b x) (Nat.lcm_pos h (g x (List.mem_cons_self ..))) fun d hd => g d (List.mem_cons_of_mem _ hd)
theorem lcm_dvd : ∀ (l : List Nat) (b D : Nat), b ∣ D → (∀ n ∈ l, n ∣ D) → l.foldl Nat.lcm b ∣ D
  | [], b, D, h, _ => h
  | x :: r, b, D, h, g => lcm_dvd r (Nat.lcm b x) D (Nat.lcm_dvd h (g x (List.mem_cons_self ..))) fun n hn => g n (List.mem_cons_of_mem _ hn)
def CmOk (l : List Nat) : Prop := l.length ≤ 1000 ∧ ∃ D B, 0 < D ∧ D < 2 ^ B ∧ 0 < B ∧ B ≤ 8000 ∧ ∀ d ∈ l, d ∣ D
abbrev sp_common_multiple (K : PySem.W.Frag) : Sp := spG (α := List Nat) (fun a => [aR (qL qN) a]) CmOk fun a => isV (.int (lcmF a : Int))
abbrev N_common_multiple : List Str := ["numbers", "common", "number"]
abbrev P_common_multiple : List Str := ["numbers"]
theorem sc_common_multiple : FnScope N_common_multiple P_common_multiple (defScope s_common_multiple) := ⟨rfl, rfl, rfl, by decide +kernel, rfl, by decide +kernel, by decide +kernel⟩
theorem ok_common_multiple (T : Tx K mg) : Has P w K mg base 2 (He.ga K "common_multiple") P_common_multiple (sp_common_multiple K) := by
  obtain ⟨⟨_, F_greatest_divisor, b_greatest_divisor⟩, kp_greatest_divisor⟩ := ok_greatest_divisor (P := P) (w := w) (base := base) T
  have nd := sc_common_multiple.nd
  refine has_mk T.f_common_multiple sc_common_multiple (fun _ => rfl) (fun _ _ _ _ _ _ us hl => match us, hl with | [_], _ => rfl) (fun cdv E outer s H X hr a G vs Q sm ha hok k => ⟨_, (pss_cons (ps_set (i := 1) nd rfl (.inl rfl) pe_int)
      (pss_cons (ps_for PassesOwn.never rfl (k_pil K rfl (pv 0)) (pg_name (i := 2) nd rfl (.inl rfl)) (pss_one (ps_set (i := 1) nd rfl (.inl rfl) (pe_op op_fdivW (pe_op op_mulW (pv 1) (pv 2)) (pe_call F_greatest_divisor (hr.mono (by decide)) (by rfl) T.g_greatest_divisor kp_greatest_divisor b_greatest_divisor .nil pass0 (pa_cons (pv 1) (pa_cons (pv 2) pa_nil)))))))
      (pss_one (ps_ret (pv 1))))), ?_⟩)
  obtain ⟨v1, _, rfl, h1, rfl⟩ := ha
  obtain ⟨hn, D, B, D0, DB, B0, B1, hL⟩ := hok
  have pp : ∀ m, 0 < lcmF (a.take m) := fun m => lcm_pos _ 1 Nat.one_pos fun d hd => Nat.pos_of_dvd_of_pos (hL d (List.mem_of_mem_take hd)) D0
  have pb : ∀ m, lcmF (a.take m) < 2 ^ B := fun m => dvd_lt (lcm_dvd _ 1 D (Nat.one_dvd D) fun d hd => hL d (List.mem_of_mem_take hd)) D0 DB
  refine sq_set sm ev_c fun v G1 H1 e1 p => ?_
  subst p
  refine sq (fo_list e1.sub (ev_vR rfl (Mo.mo e1.g h1)) (fun m σ G2 H2 => ∃ r, σ = [some v1, some (.int (lcmF (a.take m) : Int)), r] ∧ Ext G H G2 H2) (fun G2 H2 e2 => ⟨_, rfl, e1.trans e2⟩) ?_ ?_)
  · rintro m x v σ G2 H2 hx sg s2 rv ⟨r, rfl, e2⟩
    have ev : v = .int (x : Int) := rv
    subst ev
    have xm := List.mem_of_getElem? hx
    have x0 : 0 < x := Nat.pos_of_dvd_of_pos (hL x xm) D0
    have xb : x < 2 ^ B := dvd_lt (hL x xm) D0 DB
    have gp : 0 < Nat.gcd (lcmF (a.take m)) x := Nat.gcd_pos_of_pos_left _ (pp m)
    have gb : Nat.gcd (lcmF (a.take m)) x < 2 ^ B := Nat.lt_of_le_of_lt (Nat.gcd_le_right _ x0) xb
    refine st_set s2 (ev_I (ev_I (ev_var rfl) (ev_var rfl) (wide_mul (a := B) (b := B) (pb m) xb B0 B0 (by omega))) (ev_call (((lcmF (a.take m) : Nat) : Int), (x : Int)) (ea_V (ev_var rfl) (ea_V (ev_var rfl) ea_nil)) trivial) (wide_div (b := B) (Int.natCast_pos.mpr gp) gb B0 (by omega))) fun v G3 H3 e3 p => ?_
    subst p
    refine ⟨G3, e3.g, e3.sub, some (.int (x : Int)), ?_, e2.trans e3⟩
    have e : ((lcmF (a.take m) : Int) * (x : Int)) / ((Nat.gcd (lcmF (a.take m)) x : Nat) : Int) = ((lcmF (a.take (m + 1)) : Nat) : Int) := by
      rw [take_step hx]
      unfold lcmF
      rw [List.foldl_append, ← Int.natCast_mul, ← Int.natCast_ediv]
      rfl
    rw [← e]
    rfl
  · rintro σ G2 H2 sg s2 ⟨r, rfl, e2⟩
    refine st_ret s2 (ev_var rfl) fun v G3 H3 e3 p => k v G3 H3 (e2.trans e3) ?_
    rw [show v = _ from p, List.take_length]
    rfl
abbrev sp_ratio (K : PySem.W.Frag) : Sp := spG (α := Int × Nat) (fun a => [aV (.int a.1), aV (.int (a.2 : Int))]) (fun a => 0 < a.2 ∧ ∃ B, 0 < B ∧ B ≤ 9000 ∧ a.2 < 2 ^ B) fun a => isR qF (reduce a.1 a.2)
abbrev N_ratio : List Str := ["numerator", "denominator", "divisor"]
abbrev P_ratio : List Str := ["numerator", "denominator"]
theorem sc_ratio : FnScope N_ratio P_ratio (defScope s_ratio) := ⟨rfl, rfl, rfl, by decide +kernel, rfl, by decide +kernel, by decide +kernel⟩
theorem ok_ratio (T : Tx K mg) : Has P w K mg base 2 (He.ga K "ratio") P_ratio (sp_ratio K) := by
  obtain ⟨⟨_, F_greatest_divisor, b_greatest_divisor⟩, kp_greatest_divisor⟩ := ok_greatest_divisor (P := P) (w := w) (base := base) T
  have nd := sc_ratio.nd
  refine has_mk T.f_ratio sc_ratio (fun _ => rfl) (fun _ _ _ _ _ _ us hl => match us, hl with | [_, _], _ => rfl) (fun cdv E outer s H X hr a G vs Q sm ha hok k => ⟨_, (pss_cons (ps_set (i := 2) nd rfl (.inl rfl) (pe_call F_greatest_divisor (hr.mono (by decide)) (by rfl) T.g_greatest_divisor kp_greatest_divisor b_greatest_divisor .nil pass0 (pa_cons (pv 0) (pa_cons (pv 1) pa_nil))))
      (pss_one (ps_ret (pe_tup (pa_cons (pe_op op_fdivW (pv 0) (pv 2)) (pa_cons (pe_op op_fdivW (pv 1) (pv 2)) pa_nil)))))), ?_⟩)
  obtain ⟨_, _, rfl, rfl, _, _, rfl, rfl, rfl⟩ := ha
  obtain ⟨a, b⟩ := a
  obtain ⟨hp, B, B0, B9, hb⟩ := hok
  dsimp only at k hp hb ⊢
  have gp : 0 < Nat.gcd a.natAbs b := Nat.gcd_pos_of_pos_right _ hp
  have gb : Nat.gcd a.natAbs b < 2 ^ B := Nat.lt_of_le_of_lt (Nat.gcd_le_right _ hp) hb
  have wd : ∀ i, CDivW i ((Nat.gcd a.natAbs b : Nat) : Int) := fun i => wide_div (b := B) (Int.natCast_pos.mpr gp) gb B0 B9
  refine sq_set sm (ev_call (a, (b : Int)) (ea_V (ev_var rfl) (ea_V (ev_var rfl) ea_nil)) trivial) fun v G1 H1 e1 p => ?_
  subst p
  refine st_ret e1.sub (ev_frac (f := reduce a b) (ev_I (ev_var rfl) (ev_var rfl) (wd _)) (ev_I (ev_var rfl) (ev_var rfl) (wd _)) ?_ ?_) fun v G2 H2 e2 p => k v G2 H2 (e1.trans e2) p
  · unfold reduce
    rw [if_neg (by omega)]
    rfl
  · unfold reduce
    rw [if_neg (by omega)]
    show ((b / Nat.gcd a.natAbs b : Nat) : Int) = _
    rw [Int.natCast_ediv]
    rfl
end
end ER
/-! ## ErB -/
/-! sums, products, quotients of ratios -/
namespace ER
open PySem PySem.Spec PyProof.Rows L2
open Lrx1 (Fraction Chain reduce)
open EC (Red FrOk)
section
variable {P : Program} {w : World} {K : PySem.W.Frag} {mg : Str → Option Value} {base : Heap}
theorem div_cast (a b : Nat) : ((a : Int) / (b : Int)) = ((a / b : Nat) : Int) := (Int.natCast_ediv a b).symm
/-- fractions that may be added -/
def AddOk (fs : List Fraction) : Prop := fs.length ≤ 1000 ∧ (∃ N, 0 < N ∧ N ≤ 100000 ∧ ∀ f ∈ fs, Red f ∧ f.num.natAbs < 2 ^ N) ∧ ∃ D B, 0 < D ∧ D < 2 ^ B ∧ 0 < B ∧ B ≤ 8000 ∧ ∀ f ∈ fs, f.den ∣ D
abbrev sp_added (K : PySem.W.Frag) : Sp := spG (α := List Fraction) (fun a => [aR (qL qF) a]) AddOk fun a => isR qF (Lrx1.sum a)
abbrev N_added : List Str := ["fractions", "common", "fraction"]
abbrev P_added : List Str := ["fractions"]
theorem sc_added : FnScope N_added P_added (defScope s_added) := ⟨rfl, rfl, rfl, by decide +kernel, rfl, by decide +kernel, by decide +kernel⟩
theorem ok_added (T : Tx K mg) : Has P w K mg base 3 (He.ga K "added") P_added (sp_added K) := by
  obtain ⟨⟨_, F_common_multiple, b_common_multiple⟩, kp_common_multiple⟩ := ok_common_multiple (P := P) (w := w) (base := base) T
  obtain ⟨⟨_, F_ratio, b_ratio⟩, kp_ratio⟩ := ok_ratio (P := P) (w := w) (base := base) T
  have nd := sc_added.nd
  refine has_mk T.f_added sc_added (fun _ => rfl) (fun _ _ _ _ _ _ us hl => match us, hl with | [_], _ => rfl) (fun cdv E outer s H X hr a G vs Q sm ha hok k => ⟨_, (pss_cons (ps_set (i := 1) nd rfl (.inr rfl) (pe_call F_common_multiple (hr.mono (by decide)) (by rfl) T.g_common_multiple kp_common_multiple b_common_multiple .nil pass0 (pa_cons (pe_lc (own := [("fraction", 2)]) rfl nd (k_pil K rfl (pv 0)) (blkOk_by (own := [("fraction", 2)]) (N := N_added) (sc := defScope s_added) (by decide +kernel)) (fun _ _ _ _ _ => (pg_name (i := 2) nd rfl (.inl rfl))) (fun _ _ _ _ _ => pts_nil) (fun _ _ _ _ _ => (pe_ix (k_ixt K rfl) (pv 2) pe_int (fun _ _ => rfl)))) pa_nil)))
      (pss_one (ps_ret (pe_call F_ratio (hr.mono (by decide)) (by rfl) T.g_ratio kp_ratio b_ratio .nil pass0 (pa_cons (pe_callB (k_sum K rfl rfl) (by rfl) T.z_sum (by decide +kernel) (pa_cons (pe_lc (own := [("fraction", 2)]) rfl nd (k_pil K rfl (pv 0)) (blkOk_by (own := [("fraction", 2)]) (N := N_added) (sc := defScope s_added) (by decide +kernel)) (fun _ _ _ _ _ => (pg_name (i := 2) nd rfl (.inl rfl))) (fun _ _ _ _ _ => pts_nil) (fun _ _ _ _ _ => (pe_op op_mulW (pe_ix (k_ixt K rfl) (pv 2) pe_int (fun _ _ => rfl)) (pe_op op_fdivW (pv 1) (pe_ix (k_ixt K rfl) (pv 2) pe_int (fun _ _ => rfl)))))) pa_nil)) (pa_cons (pv 1) pa_nil)))))), ?_⟩)
  obtain ⟨v1, _, rfl, h1, rfl⟩ := ha
  obtain ⟨hn, ⟨N, N0, N1, hN⟩, D, B, D0, DB, B0, B1, hp⟩ := hok
  have hL : ∀ d ∈ a.map (·.den), d ∣ D := fun d hd => by
    obtain ⟨f, hf, rfl⟩ := List.mem_map.mp hd
    exact hp f hf
  have L0 : 0 < lcmF (a.map (·.den)) := lcm_pos _ 1 Nat.one_pos fun d hd => by
    obtain ⟨f, hf, rfl⟩ := List.mem_map.mp hd
    exact (hN f hf).1.pos
  have LB : lcmF (a.map (·.den)) < 2 ^ B := dvd_lt (lcm_dvd _ 1 D (Nat.one_dvd D) hL) D0 DB
  have dv : ∀ f ∈ a, f.den ∣ lcmF (a.map (·.den)) := fun f hf => by
    have aux : ∀ (l : List Nat) (b : Nat), b ∣ l.foldl Nat.lcm b ∧ ∀ n ∈ l, n ∣ l.foldl Nat.lcm b := fun l => by
      induction l with
      | nil => exact fun b => ⟨Nat.dvd_refl b, fun n hn => absurd hn (List.not_mem_nil)⟩
      | cons m r ih =>
        intro b
        obtain ⟨i1, i2⟩ := ih (Nat.lcm b m)
        refine ⟨Nat.dvd_trans (Nat.dvd_lcm_left b m) i1, fun n hn => ?_⟩
        rcases List.mem_cons.mp hn with rfl | hn
        · exact Nat.dvd_trans (Nat.dvd_lcm_right b n) i1
        · exact i2 n hn
    exact (aux _ 1).2 _ (List.mem_map.mpr ⟨f, hf, rfl⟩)
  refine sq_set sm (ev_call (a.map (·.den)) (ea_R (ev_NL (ev_mapL (K := K) (ev_vR rfl h1) hn (fun _ => rfl) fun f hf v G' H' e r => ev_N (ev_den (ev_vR rfl r) ev_c))) ea_nil) ⟨by rw [List.length_map]; exact hn, D, B, D0, DB, B0, B1, hL⟩) fun v G1 H1 e1 p => ?_
  subst p
  refine st_ret e1.sub (ev_a (ev_call (_, lcmF (a.map (·.den))) (ea_V (ev_sum (ev_NL (ev_mapL (K := K) (f := fun f : Fraction => f.num * ((lcmF (a.map (·.den)) / f.den : Nat) : Int)) (ev_vR rfl (Mo.mo e1.g h1)) hn (fun _ => rfl) fun f hf v G' H' e r => ev_Z ?_))) (ea_V (ev_var rfl) ea_nil)) ⟨L0, B, B0, by omega, LB⟩) ?_) fun v G2 H2 e2 p => k v G2 H2 (e1.trans e2) p
  · obtain ⟨f1, f2⟩ := hN f hf
    have d1 : f.den < 2 ^ B := dvd_lt (hp f hf) D0 DB
    have q1 : lcmF (a.map (·.den)) / f.den < 2 ^ B := Nat.lt_of_le_of_lt (Nat.div_le_self _ _) LB
    exact ev_I (ev_num (ev_vR rfl r) ev_c) (ev_V (ev_I (ev_var rfl) (ev_den (ev_vR rfl r) ev_c) (wide_div (b := B) (Int.natCast_pos.mpr f1.pos) d1 B0 (by omega))) (by rw [div_cast])) (wide_mul (a := N) (b := B) f2 q1 N0 B0 (by omega))
  · exact EC.added_is L0 fun f hf => ⟨(hN f hf).1, dv f hf⟩
theorem two_pow_mul {a b m n : Nat} (ha : a < 2 ^ m) (hb : b < 2 ^ n) : a * b < 2 ^ (m + n) := by
  rw [Nat.pow_add]
  exact Nat.mul_lt_mul'' ha hb
theorem frok_pos {m : Nat} {f : Fraction} (h : FrOk m f) : 0 < f.den := h.1.pos
def MulOk (a : Fraction × Fraction) : Prop := ∃ m n, 0 < m ∧ 0 < n ∧ m + n ≤ 9000 ∧ FrOk m a.1 ∧ FrOk n a.2
abbrev sp_product (K : PySem.W.Frag) : Sp := spG (α := Fraction × Fraction) (fun a => [aR qF a.1, aR qF a.2]) MulOk fun a => isR qF (Lrx1.mul a.1 a.2)
abbrev N_product : List Str := ["first", "second"]
abbrev P_product : List Str := ["first", "second"]
theorem sc_product : FnScope N_product P_product (defScope s_product) := ⟨rfl, rfl, rfl, by decide +kernel, rfl, by decide +kernel, by decide +kernel⟩
theorem ok_product (T : Tx K mg) : Has P w K mg base 3 (He.ga K "product") P_product (sp_product K) := by
  obtain ⟨⟨_, F_ratio, b_ratio⟩, kp_ratio⟩ := ok_ratio (P := P) (w := w) (base := base) T
  have nd := sc_product.nd
  refine has_mk T.f_product sc_product (fun _ => rfl) (fun _ _ _ _ _ _ us hl => match us, hl with | [_, _], _ => rfl) (fun cdv E outer s H X hr a G vs Q sm ha hok k => ⟨_, (pss_one (ps_ret (pe_call F_ratio (hr.mono (by decide)) (by rfl) T.g_ratio kp_ratio b_ratio .nil pass0 (pa_cons (pe_op op_mulW (pe_ix (k_ixt K rfl) (pv 0) pe_int (fun _ _ => rfl)) (pe_ix (k_ixt K rfl) (pv 1) pe_int (fun _ _ => rfl))) (pa_cons (pe_op op_mulW (pe_ix (k_ixt K rfl) (pv 0) pe_int (fun _ _ => rfl)) (pe_ix (k_ixt K rfl) (pv 1) pe_int (fun _ _ => rfl))) pa_nil))))), ?_⟩)
  obtain ⟨v1, _, rfl, h1, v2, _, rfl, h2, rfl⟩ := ha
  obtain ⟨m, n, m0, n0, mn, f1, f2⟩ := hok
  refine st_ret sm (ev_call (a.1.num * a.2.num, a.1.den * a.2.den) (ea_V (ev_I (ev_num (ev_vR rfl h1) ev_c) (ev_num (ev_vR rfl h2) ev_c) (wide_mul f1.2.1 f2.2.1 m0 n0 (by omega))) (ea_V (ev_I (ev_den (ev_vR rfl h1) ev_c) (ev_den (ev_vR rfl h2) ev_c) (wide_mul (a := m) (b := n) f1.2.2 f2.2.2 m0 n0 (by omega))) ea_nil)) ⟨Nat.mul_pos (frok_pos f1) (frok_pos f2), m + n, by omega, mn, two_pow_mul f1.2.2 f2.2.2⟩) k
def DivOk (a : Fraction × Fraction) : Prop := ∃ m n, 0 < m ∧ 0 < n ∧ m + n ≤ 9000 ∧ FrOk m a.1 ∧ FrOk n a.2 ∧ 0 < a.2.num
abbrev sp_quotient (K : PySem.W.Frag) : Sp := spG (α := Fraction × Fraction) (fun a => [aR qF a.1, aR qF a.2]) DivOk fun a => isR qF (Lrx1.divide a.1 a.2)
abbrev N_quotient : List Str := ["first", "second"]
abbrev P_quotient : List Str := ["first", "second"]
theorem sc_quotient : FnScope N_quotient P_quotient (defScope s_quotient) := ⟨rfl, rfl, rfl, by decide +kernel, rfl, by decide +kernel, by decide +kernel⟩
theorem ok_quotient (T : Tx K mg) : Has P w K mg base 3 (He.ga K "quotient") P_quotient (sp_quotient K) := by
  obtain ⟨⟨_, F_ratio, b_ratio⟩, kp_ratio⟩ := ok_ratio (P := P) (w := w) (base := base) T
  have nd := sc_quotient.nd
  refine has_mk T.f_quotient sc_quotient (fun _ => rfl) (fun _ _ _ _ _ _ us hl => match us, hl with | [_, _], _ => rfl) (fun cdv E outer s H X hr a G vs Q sm ha hok k => ⟨_, (pss_one (ps_ret (pe_call F_ratio (hr.mono (by decide)) (by rfl) T.g_ratio kp_ratio b_ratio .nil pass0 (pa_cons (pe_op op_mulW (pe_ix (k_ixt K rfl) (pv 0) pe_int (fun _ _ => rfl)) (pe_ix (k_ixt K rfl) (pv 1) pe_int (fun _ _ => rfl))) (pa_cons (pe_op op_mulW (pe_ix (k_ixt K rfl) (pv 0) pe_int (fun _ _ => rfl)) (pe_ix (k_ixt K rfl) (pv 1) pe_int (fun _ _ => rfl))) pa_nil))))), ?_⟩)
  obtain ⟨v1, _, rfl, h1, v2, _, rfl, h2, rfl⟩ := ha
  obtain ⟨m, n, m0, n0, mn, f1, f2, hp⟩ := hok
  have e2 : a.2.num = (a.2.num.natAbs : Int) := by omega
  refine st_ret sm (ev_a (ev_call (a.1.num * a.2.den, a.1.den * a.2.num.natAbs) (ea_V (ev_I (ev_num (ev_vR rfl h1) ev_c) (ev_den (ev_vR rfl h2) ev_c) (wide_mul (a := m) (b := n) f1.2.1 f2.2.2 m0 n0 (by omega))) (ea_V (ev_V (ev_I (ev_den (ev_vR rfl h1) ev_c) (ev_num (ev_vR rfl h2) ev_c) (wide_mul (a := m) (b := n) f1.2.2 f2.2.1 m0 n0 (by omega))) (by rw [Int.natCast_mul, ← e2])) ea_nil)) ⟨Nat.mul_pos (frok_pos f1) (by omega), m + n, by omega, mn, two_pow_mul f1.2.2 f2.2.1⟩) ?_) k
  unfold Lrx1.divide
  rw [if_neg (by omega)]
abbrev sp_rest_to_one (K : PySem.W.Frag) : Sp := spG (α := Fraction) (fun a => [aR qF a]) Red fun a => isR qF (Lrx1.sub Lrx1.one a)
abbrev N_rest_to_one : List Str := ["fraction"]
abbrev P_rest_to_one : List Str := ["fraction"]
theorem sc_rest_to_one : FnScope N_rest_to_one P_rest_to_one (defScope s_rest_to_one) := ⟨rfl, rfl, rfl, by decide +kernel, rfl, by decide +kernel, by decide +kernel⟩
theorem ok_rest_to_one (T : Tx K mg) : Has P w K mg base 1 (He.ga K "rest_to_one") P_rest_to_one (sp_rest_to_one K) := by
  have nd := sc_rest_to_one.nd
  refine has_mk T.f_rest_to_one sc_rest_to_one (fun _ => rfl) (fun _ _ _ _ _ _ us hl => match us, hl with | [_], _ => rfl) (fun cdv E outer s H X hr a G vs Q sm ha hok k => ⟨_, (pss_one (ps_ret (pe_tup (pa_cons (pe_op op_sub (pe_ix (k_ixt K rfl) (pv 0) pe_int (fun _ _ => rfl)) (pe_ix (k_ixt K rfl) (pv 0) pe_int (fun _ _ => rfl))) (pa_cons (pe_ix (k_ixt K rfl) (pv 0) pe_int (fun _ _ => rfl)) pa_nil))))), ?_⟩)
  obtain ⟨v1, _, rfl, h1, rfl⟩ := ha
  refine st_ret sm (ev_frac (ev_I0 (ev_den (ev_vR rfl h1) ev_c) (ev_num (ev_vR rfl h1) ev_c)) (ev_den (ev_vR rfl h1) ev_c) ?_ ?_) k
  · rw [EC.sub_one hok]
  · rw [EC.sub_one hok]
end
end ER
/-! ## ErC -/
/-! the chain's methods -/
namespace ER
open PySem PySem.Spec PyProof.Rows
open L2 hiding St
open Lrx1 (Fraction Chain reduce size weight rowSum jump greatestRate one zero)
open EC (Red FrOk COk chanceF)
section
variable {P : Program} {w : World} {K : PySem.W.Frag} {mg : Str → Option Value} {base : Heap}
abbrev sp_Chain_init (K : PySem.W.Frag) : Sp := fun vs H Q _ => ∃ x dx u r, vs = [.ref x, u, r] ∧ H x = some (.ins (He.ga K "Chain") dx []) ∧ Q .non (upd (upd H x (.ins (He.ga K "Chain") dx [("is_continuous", u)])) x (.ins (He.ga K "Chain") dx [("is_continuous", u), ("rows", r)]))
theorem sp_Chain_init_len (K : PySem.W.Frag) {vs H Q X} (h : sp_Chain_init K vs H Q X) : vs.length = 3 := by
  obtain ⟨_, _, _, _, rfl, _⟩ := h
  rfl
abbrev N_Chain_init : List Str := ["self", "is_continuous", "rows"]
abbrev P_Chain_init : List Str := ["self", "is_continuous", "rows"]
theorem sc_Chain_init : FnScope N_Chain_init P_Chain_init (defScope s_Chain_init) := ⟨rfl, rfl, rfl, by decide +kernel, rfl, by decide +kernel, by decide +kernel⟩
theorem ok_Chain_init (T : Tx K mg) : Has P w K mg base 1 (He.ma K (He.ga K "Chain") "__init__") P_Chain_init (sp_Chain_init K) := by
  have nd := sc_Chain_init.nd
  refine has_sp T.f_Chain_init sc_Chain_init (fun vs H Q X h => sp_Chain_init_len K h) (fun _ _ _ _ _ _ us hl => match us, hl with | [_, _, _], _ => rfl) (fun cdv E outer s H X hr vs Q ha => ⟨_, (pss_cons (ps_fld (pv 0) (pv 1) rfl)
      (pss_one (ps_fld (pv 0) (pv 2) rfl))), ?_⟩)
  obtain ⟨x, dx, u, r, rfl, hx, q⟩ := ha
  refine ⟨u, rfl, .ref x, rfl, x, _, dx, [], rfl, hx, T.c_Chain, T.n_Chain_is_continuous, by show 0 < 1000; decide, ?_⟩
  exact ⟨r, rfl, .ref x, rfl, x, _, dx, _, rfl, upd_same, T.c_Chain, T.n_Chain_rows, by show 1 < 1000; decide, q⟩
theorem weights_at {c : Chain} {i : Nat} (hi : i < size c) : c.weights[i]? = some (c.weights.getD i []) := by
  rw [List.getD_eq_getElem?_getD, List.getElem?_eq_getElem hi]
  rfl
theorem row_at {c : Chain} (ok : COk c) {i j : Nat} (hi : i < size c) (hj : j < size c) : (c.weights.getD i [])[j]? = some (weight c i j) := by
  have h : j < (c.weights.getD i []).length := by rw [ok.row i hi]; exact hj
  unfold weight
  generalize c.weights.getD i [] = l at h ⊢
  rw [List.getD_eq_getElem?_getD, List.getElem?_eq_getElem h]
  rfl
theorem size_small {c : Chain} (ok : COk c) : size c ≤ 1000 := Nat.le_trans ok.le (by decide)
abbrev sp_Chain_state_count (K : PySem.W.Frag) : Sp := spG (α := Chain) (fun a => [aR (qC K) a]) (fun _ => True) fun a => isV (.int (size a : Int))
abbrev N_Chain_state_count : List Str := ["self"]
abbrev P_Chain_state_count : List Str := ["self"]
theorem sc_Chain_state_count : FnScope N_Chain_state_count P_Chain_state_count (defScope s_Chain_state_count) := ⟨rfl, rfl, rfl, by decide +kernel, rfl, by decide +kernel, by decide +kernel⟩
theorem ok_Chain_state_count (T : Tx K mg) : Has P w K mg base 1 (He.ma K (He.ga K "Chain") "state_count") P_Chain_state_count (sp_Chain_state_count K) := by
  have nd := sc_Chain_state_count.nd
  refine has_mk T.f_Chain_state_count sc_Chain_state_count (fun _ => rfl) (fun _ _ _ _ _ _ us hl => match us, hl with | [_], _ => rfl) (fun cdv E outer s H X hr a G vs Q sm ha hok k => ⟨_, (pss_one (ps_ret (pe_callB (k_len K rfl) (by rfl) T.z_len PySem.boot_len (pa_cons (k_fld K rfl (pv 0)) pa_nil)))), ?_⟩)
  obtain ⟨v1, _, rfl, h1, rfl⟩ := ha
  exact st_ret sm (ev_lenL (ev_rows T (ev_vR rfl h1))) k
abbrev sp_Chain_has_state (K : PySem.W.Frag) : Sp := spG (α := Chain × Nat) (fun a => [aR (qC K) a.1, aV (.int (a.2 : Int))]) (fun _ => True) fun a => isV (.bl (decide (a.2 < size a.1)))
abbrev N_Chain_has_state : List Str := ["self", "i"]
abbrev P_Chain_has_state : List Str := ["self", "i"]
theorem sc_Chain_has_state : FnScope N_Chain_has_state P_Chain_has_state (defScope s_Chain_has_state) := ⟨rfl, rfl, rfl, by decide +kernel, rfl, by decide +kernel, by decide +kernel⟩
theorem ok_Chain_has_state (T : Tx K mg) : Has P w K mg base 1 (He.ma K (He.ga K "Chain") "has_state") P_Chain_has_state (sp_Chain_has_state K) := by
  have nd := sc_Chain_has_state.nd
  refine has_mk T.f_Chain_has_state sc_Chain_has_state (fun _ => rfl) (fun _ _ _ _ _ _ us hl => match us, hl with | [_, _], _ => rfl) (fun cdv E outer s H X hr a G vs Q sm ha hok k => ⟨_, (pss_one (ps_ret (pe_cmpR op_lt (pv 1) (pe_callB (k_len K rfl) (by rfl) T.z_len PySem.boot_len (pa_cons (k_fld K rfl (pv 0)) pa_nil)) (by rfl)))), ?_⟩)
  obtain ⟨v1, _, rfl, h1, _, _, rfl, rfl, rfl⟩ := ha
  refine st_ret sm (ev_V (ev_I0 (ev_var rfl) (ev_lenL (ev_rows T (ev_vR rfl h1)))) ?_) k
  rw [show decide ((a.2 : Int) < (a.1.weights.length : Int)) = decide (a.2 < size a.1) from decide_eq_decide.mpr Int.ofNat_lt]
abbrev sp_Chain_sum_of (K : PySem.W.Frag) : Sp := spG (α := Chain × Nat) (fun a => [aR (qC K) a.1, aV (.int (a.2 : Int))]) (fun a => COk a.1 ∧ a.2 < size a.1) fun a => isV (.int (rowSum a.1 a.2 : Int))
abbrev N_Chain_sum_of : List Str := ["self", "i"]
abbrev P_Chain_sum_of : List Str := ["self", "i"]
theorem sc_Chain_sum_of : FnScope N_Chain_sum_of P_Chain_sum_of (defScope s_Chain_sum_of) := ⟨rfl, rfl, rfl, by decide +kernel, rfl, by decide +kernel, by decide +kernel⟩
theorem ok_Chain_sum_of (T : Tx K mg) : Has P w K mg base 1 (He.ma K (He.ga K "Chain") "sum_of") P_Chain_sum_of (sp_Chain_sum_of K) := by
  have nd := sc_Chain_sum_of.nd
  refine has_mk T.f_Chain_sum_of sc_Chain_sum_of (fun _ => rfl) (fun _ _ _ _ _ _ us hl => match us, hl with | [_, _], _ => rfl) (fun cdv E outer s H X hr a G vs Q sm ha hok k => ⟨_, (pss_one (ps_ret (pe_callB (k_sum K rfl rfl) (by rfl) T.z_sum (by decide +kernel) (pa_cons (pe_ix (k_ixl K rfl) (k_fld K rfl (pv 0)) (pv 1) (fun _ _ => rfl)) pa_nil)))), ?_⟩)
  obtain ⟨v1, _, rfl, h1, _, _, rfl, rfl, rfl⟩ := ha
  obtain ⟨ok, hi⟩ := hok
  refine st_ret sm (ev_V (ev_sumN (ev_ixL (ev_rows T (ev_vR rfl h1)) (ev_var rfl) (weights_at hi))) ?_) k
  rw [EC.rowSum_row ok hi]
abbrev sp_Chain_greatest_sum (K : PySem.W.Frag) : Sp := spG (α := Chain) (fun a => [aR (qC K) a]) COk fun a => isV (.int (greatestRate a : Int))
abbrev N_Chain_greatest_sum : List Str := ["self", "row"]
abbrev P_Chain_greatest_sum : List Str := ["self"]
theorem sc_Chain_greatest_sum : FnScope N_Chain_greatest_sum P_Chain_greatest_sum (defScope s_Chain_greatest_sum) := ⟨rfl, rfl, rfl, by decide +kernel, rfl, by decide +kernel, by decide +kernel⟩
theorem ok_Chain_greatest_sum (T : Tx K mg) : Has P w K mg base 1 (He.ma K (He.ga K "Chain") "greatest_sum") P_Chain_greatest_sum (sp_Chain_greatest_sum K) := by
  have nd := sc_Chain_greatest_sum.nd
  refine has_mk T.f_Chain_greatest_sum sc_Chain_greatest_sum (fun _ => rfl) (fun _ _ _ _ _ _ us hl => match us, hl with | [_], _ => rfl) (fun cdv E outer s H X hr a G vs Q sm ha hok k => ⟨_, (pss_one (ps_ret (pe_callB (k_max K rfl rfl) (by rfl) T.z_max (by decide +kernel) (pa_cons (pe_lc (own := [("row", 1)]) rfl nd (k_pil K rfl (k_fld K rfl (pv 0))) (blkOk_by (own := [("row", 1)]) (N := N_Chain_greatest_sum) (sc := defScope s_Chain_greatest_sum) (by decide +kernel)) (fun _ _ _ _ _ => (pg_name (i := 1) nd rfl (.inl rfl))) (fun _ _ _ _ _ => pts_nil) (fun _ _ _ _ _ => (pe_callB (k_sum K rfl rfl) (by rfl) T.z_sum (by decide +kernel) (pa_cons (pv 1) pa_nil)))) pa_nil)))), ?_⟩)
  obtain ⟨v1, _, rfl, h1, rfl⟩ := ha
  obtain ⟨i, hi, em⟩ := EC.greatest_mem hok
  have es := EC.sums_are hok
  refine st_ret sm (ev_maxN (ns := a.weights.map (·.sum)) (ev_NL (ev_mapL (K := K) (ev_rows T (ev_vR rfl h1)) (size_small hok) (fun _ => rfl) fun row hr v G' H' e r => ev_N (ev_sumN (ev_vR rfl r)))) ?_ ?_) k
  · rw [es, ← em]
    exact List.mem_map.mpr ⟨i, List.mem_range.mpr hi, rfl⟩
  · intro x hx
    rw [es] at hx
    obtain ⟨j, hj, rfl⟩ := List.mem_map.mp hx
    exact EC.greatest_ge a (List.mem_range.mp hj)
abbrev WiOk (a : Chain × Nat × List Nat) : Prop := COk a.1 ∧ a.2.1 < size a.1 ∧ (∀ j ∈ a.2.2, j < size a.1) ∧ a.2.2.length ≤ 1000
abbrev sp_Chain_weight_into (K : PySem.W.Frag) : Sp := spG (α := Chain × Nat × List Nat) (fun a => [aR (qC K) a.1, aV (.int (a.2.1 : Int)), aR (qL qN) a.2.2]) WiOk fun a => isV (.int (((a.2.2.map (weight a.1 a.2.1)).sum : Nat) : Int))
abbrev N_Chain_weight_into : List Str := ["self", "i", "states", "j"]
abbrev P_Chain_weight_into : List Str := ["self", "i", "states"]
theorem sc_Chain_weight_into : FnScope N_Chain_weight_into P_Chain_weight_into (defScope s_Chain_weight_into) := ⟨rfl, rfl, rfl, by decide +kernel, rfl, by decide +kernel, by decide +kernel⟩
theorem ok_Chain_weight_into (T : Tx K mg) : Has P w K mg base 1 (He.ma K (He.ga K "Chain") "weight_into") P_Chain_weight_into (sp_Chain_weight_into K) := by
  have nd := sc_Chain_weight_into.nd
  refine has_mk T.f_Chain_weight_into sc_Chain_weight_into (fun _ => rfl) (fun _ _ _ _ _ _ us hl => match us, hl with | [_, _, _], _ => rfl) (fun cdv E outer s H X hr a G vs Q sm ha hok k => ⟨_, (pss_one (ps_ret (pe_callB (k_sum K rfl rfl) (by rfl) T.z_sum (by decide +kernel) (pa_cons (pe_lc (own := [("j", 3)]) rfl nd (k_pil K rfl (pv 2)) (blkOk_by (own := [("j", 3)]) (N := N_Chain_weight_into) (sc := defScope s_Chain_weight_into) (by decide +kernel)) (fun _ _ _ _ _ => (pg_name (i := 3) nd rfl (.inl rfl))) (fun _ _ _ _ _ => pts_nil) (fun _ _ _ _ _ => (pe_ix (k_ixl K rfl) (pe_ix (k_ixl K rfl) (k_fld K rfl (pv 0)) (pv 1) (fun _ _ => rfl)) (pv 3) (fun _ _ => rfl)))) pa_nil)))), ?_⟩)
  obtain ⟨v1, _, rfl, h1, _, _, rfl, rfl, v3, _, rfl, h3, rfl⟩ := ha
  obtain ⟨ok, hi, hl, hn⟩ := hok
  exact st_ret sm (ev_sumN (ev_NL (ev_mapL (K := K) (ev_vR rfl h3) hn (fun _ => rfl) fun j hj v G' H' e r => by
    have ev : v = .int (j : Int) := r
    subst ev
    exact ev_ixL (ev_ixL (ev_rows T (ev_vR rfl (Mo.mo e.g h1))) (ev_var rfl) (weights_at hi)) (ev_var rfl) (row_at ok hi (hl j hj))))) k
abbrev sp_Chain_chance_of (K : PySem.W.Frag) : Sp := spG (α := Chain × Nat × List Nat) (fun a => [aR (qC K) a.1, aV (.int (a.2.1 : Int)), aR (qL qN) a.2.2]) WiOk fun a => isR qF (chanceF a.1 a.2.1 a.2.2)
abbrev N_Chain_chance_of : List Str := ["self", "i", "states", "total"]
abbrev P_Chain_chance_of : List Str := ["self", "i", "states"]
theorem sc_Chain_chance_of : FnScope N_Chain_chance_of P_Chain_chance_of (defScope s_Chain_chance_of) := ⟨rfl, rfl, rfl, by decide +kernel, rfl, by decide +kernel, by decide +kernel⟩
theorem ok_Chain_chance_of (T : Tx K mg) : Has P w K mg base 3 (He.ma K (He.ga K "Chain") "chance_of") P_Chain_chance_of (sp_Chain_chance_of K) := by
  obtain ⟨⟨_, F_Chain_sum_of, b_Chain_sum_of⟩, kp_Chain_sum_of⟩ := ok_Chain_sum_of (P := P) (w := w) (base := base) T
  obtain ⟨⟨_, F_Chain_weight_into, b_Chain_weight_into⟩, kp_Chain_weight_into⟩ := ok_Chain_weight_into (P := P) (w := w) (base := base) T
  obtain ⟨⟨_, F_ratio, b_ratio⟩, kp_ratio⟩ := ok_ratio (P := P) (w := w) (base := base) T
  have nd := sc_Chain_chance_of.nd
  refine has_mk T.f_Chain_chance_of sc_Chain_chance_of (fun _ => rfl) (fun _ _ _ _ _ _ us hl => match us, hl with | [_, _, _], _ => rfl) (fun cdv E outer s H X hr a G vs Q sm ha hok k => ⟨_, (pss_cons (ps_set (i := 3) nd rfl (.inl rfl) (pe_meth (pv 0) T.c_Chain T.h_Chain_sum_of F_Chain_sum_of (hr.mono (by decide)) b_Chain_sum_of .nil pass0 (pa_cons (pv 1) pa_nil)))
      (pss_cons (ps_if (pt_cmpR op_eq (pv 3) pe_int (by rfl)) (pss_one (ps_ret (pe_ifExp (pt_cmpR (k_in K rfl) (pv 1) (pv 2) (by rfl)) (pe_tup (pa_cons pe_int (pa_cons pe_int pa_nil))) (pe_tup (pa_cons pe_int (pa_cons pe_int pa_nil)))))) pss_nil)
      (pss_one (ps_ret (pe_call F_ratio (hr.mono (by decide)) (by rfl) T.g_ratio kp_ratio b_ratio .nil pass0 (pa_cons (pe_meth (pv 0) T.c_Chain T.h_Chain_weight_into F_Chain_weight_into (hr.mono (by decide)) b_Chain_weight_into .nil pass0 (pa_cons (pv 1) (pa_cons (pv 2) pa_nil))) (pa_cons (pv 3) pa_nil))))))), ?_⟩)
  obtain ⟨v1, _, rfl, h1, _, _, rfl, rfl, v3, _, rfl, h3, rfl⟩ := ha
  have hok' := hok
  obtain ⟨ok, hi, hl, hn⟩ := hok
  refine sq_set sm (ev_meth (a.1, a.2.1) (ev_vR rfl h1) (ea_V (ev_var rfl) ea_nil) rfl ⟨ok, hi⟩) fun v G1 H1 e1 p => ?_
  subst p
  refine sq_ifN e1.sub (et_test (ev_eq (ev_var rfl) ev_c rfl)) (fun b G2 H2 e2 => ?_) fun b G2 H2 e2 => ?_
  · have h0 : rowSum a.1 a.2.1 = 0 := by simpa using b
    refine st_ret e2.sub (ev_if (et_test (ev_in (ev_var rfl) (ev_vR rfl (Mo.mo (e1.trans e2).g h3)))) (fun c => ev_frac (f := chanceF a.1 a.2.1 a.2.2) ev_c ev_c ?_ ?_) fun c => ev_frac (f := chanceF a.1 a.2.1 a.2.2) ev_c ev_c ?_ ?_) fun v G3 H3 e3 p => k v G3 H3 ((e1.trans e2).trans e3) p
    all_goals
      unfold chanceF
      rw [if_pos h0]
      simp at c
      simp [c, one, zero]
  · have h0 : rowSum a.1 a.2.1 ≠ 0 := by simpa using b
    have lo := EC.rowSum_low ok a.2.1
    have ec : chanceF a.1 a.2.1 a.2.2 = reduce (((a.2.2.map (weight a.1 a.2.1)).sum : Nat) : Int) (rowSum a.1 a.2.1) := if_neg h0
    refine st_ret e2.sub (ev_call ((((a.2.2.map (weight a.1 a.2.1)).sum : Nat) : Int), rowSum a.1 a.2.1) (ea_V ?_ (ea_V (ev_var rfl) ea_nil)) ⟨?_, 24, by decide, by decide, ?_⟩) fun v G3 H3 e3 p => k v G3 H3 ((e1.trans e2).trans e3) (by rw [ec]; exact p)
    · exact ev_meth a (ev_vR rfl (Mo.mo (e1.trans e2).g h1)) (ea_V (ev_var rfl) (ea_R (ev_vR rfl (Mo.mo (e1.trans e2).g h3)) ea_nil)) rfl hok'
    · show 0 < rowSum _ _
      omega
    · show rowSum _ _ < _
      omega
def stayF (c : Chain) (i : Nat) : Fraction := if c.isContinuous then ⟨1, rowSum c i⟩ else one
theorem ev_kind1 {σ : L2.St} {G H : Hp} {te : TE} {c : Chain} (T : Tx K mg) (h : Ev te σ G H (isR (qC K) c)) : EvT (tTest (tOp rEq (tFld K te "is_continuous") (tC (.int 1)))) σ G H c.isContinuous := by
  refine et_is (et_test (ev_eq (ev_kind T h) ev_c rfl)) ?_
  unfold kc
  cases c.isContinuous <;> decide
abbrev sp_Chain_stay_in (K : PySem.W.Frag) : Sp := spG (α := Chain × Nat) (fun a => [aR (qC K) a.1, aV (.int (a.2 : Int))]) (fun a => COk a.1 ∧ a.2 < size a.1) fun a => isR qF (stayF a.1 a.2)
abbrev N_Chain_stay_in : List Str := ["self", "i"]
abbrev P_Chain_stay_in : List Str := ["self", "i"]
theorem sc_Chain_stay_in : FnScope N_Chain_stay_in P_Chain_stay_in (defScope s_Chain_stay_in) := ⟨rfl, rfl, rfl, by decide +kernel, rfl, by decide +kernel, by decide +kernel⟩
theorem ok_Chain_stay_in (T : Tx K mg) : Has P w K mg base 2 (He.ma K (He.ga K "Chain") "stay_in") P_Chain_stay_in (sp_Chain_stay_in K) := by
  obtain ⟨⟨_, F_Chain_sum_of, b_Chain_sum_of⟩, kp_Chain_sum_of⟩ := ok_Chain_sum_of (P := P) (w := w) (base := base) T
  have nd := sc_Chain_stay_in.nd
  refine has_mk T.f_Chain_stay_in sc_Chain_stay_in (fun _ => rfl) (fun _ _ _ _ _ _ us hl => match us, hl with | [_, _], _ => rfl) (fun cdv E outer s H X hr a G vs Q sm ha hok k => ⟨_, (pss_cons (ps_if (pt_cmpR op_eq (k_fld K rfl (pv 0)) pe_int (by rfl)) (pss_one (ps_ret (pe_tup (pa_cons pe_int (pa_cons (pe_meth (pv 0) T.c_Chain T.h_Chain_sum_of F_Chain_sum_of (hr.mono (by decide)) b_Chain_sum_of .nil pass0 (pa_cons (pv 1) pa_nil)) pa_nil))))) pss_nil)
      (pss_one (ps_ret (pe_tup (pa_cons pe_int (pa_cons pe_int pa_nil)))))), ?_⟩)
  obtain ⟨v1, _, rfl, h1, _, _, rfl, rfl, rfl⟩ := ha
  refine sq_ifN sm (ev_kind1 T (ev_vR rfl h1)) (fun b G2 H2 e2 => ?_) fun b G2 H2 e2 => ?_
  · refine st_ret e2.sub (ev_frac (f := stayF a.1 a.2) ev_c (ev_meth a (ev_vR rfl (Mo.mo e2.g h1)) (ea_V (ev_var rfl) ea_nil) rfl hok) ?_ ?_) fun v G3 H3 e3 p => k v G3 H3 (e2.trans e3) p
    · unfold stayF; rw [if_pos b]
    · unfold stayF; rw [if_pos b]
  · refine st_ret e2.sub (ev_frac (f := stayF a.1 a.2) ev_c ev_c ?_ ?_) fun v G3 H3 e3 p => k v G3 H3 (e2.trans e3) p
    · unfold stayF; rw [b]; rfl
    · unfold stayF; rw [b]; rfl
abbrev GvOk (a : Chain × Nat × Nat) : Prop := COk a.1 ∧ a.2.1 < size a.1 ∧ a.2.2 < size a.1
theorem dec_int_nat (i j : Nat) : decide (V.int (i : Int) = V.int (j : Int)) = decide (i = j) := by
  rw [dec_int]
  by_cases h : i = j
  · subst h; simp
  · have : (i : Int) ≠ j := by omega
    simp [h, this]
abbrev sp_Chain_generator_value (K : PySem.W.Frag) : Sp := spG (α := Chain × Nat × Nat) (fun a => [aR (qC K) a.1, aV (.int (a.2.1 : Int)), aV (.int (a.2.2 : Int))]) GvOk fun a => isR qF (Lrx1.generator a.1 a.2.1 a.2.2)
abbrev N_Chain_generator_value : List Str := ["self", "i", "j", "chance"]
abbrev P_Chain_generator_value : List Str := ["self", "i", "j"]
theorem sc_Chain_generator_value : FnScope N_Chain_generator_value P_Chain_generator_value (defScope s_Chain_generator_value) := ⟨rfl, rfl, rfl, by decide +kernel, rfl, by decide +kernel, by decide +kernel⟩
theorem ok_Chain_generator_value (T : Tx K mg) : Has P w K mg base 4 (He.ma K (He.ga K "Chain") "generator_value") P_Chain_generator_value (sp_Chain_generator_value K) := by
  obtain ⟨⟨_, F_Chain_chance_of, b_Chain_chance_of⟩, kp_Chain_chance_of⟩ := ok_Chain_chance_of (P := P) (w := w) (base := base) T
  obtain ⟨⟨_, F_Chain_sum_of, b_Chain_sum_of⟩, kp_Chain_sum_of⟩ := ok_Chain_sum_of (P := P) (w := w) (base := base) T
  have nd := sc_Chain_generator_value.nd
  refine has_mk T.f_Chain_generator_value sc_Chain_generator_value (fun _ => rfl) (fun _ _ _ _ _ _ us hl => match us, hl with | [_, _, _], _ => rfl) (fun cdv E outer s H X hr a G vs Q sm ha hok k => ⟨_, (pss_cons (ps_if (pt_cmpR op_eq (k_fld K rfl (pv 0)) pe_int (by rfl)) (pss_one (ps_ret (pe_ifExp (pt_cmpR op_eq (pv 1) (pv 2) (by rfl)) (pe_tup (pa_cons (pe_un un_neg (pe_meth (pv 0) T.c_Chain T.h_Chain_sum_of F_Chain_sum_of (hr.mono (by decide)) b_Chain_sum_of .nil pass0 (pa_cons (pv 1) pa_nil))) (pa_cons pe_int pa_nil))) (pe_tup (pa_cons (pe_ix (k_ixl K rfl) (pe_ix (k_ixl K rfl) (k_fld K rfl (pv 0)) (pv 1) (fun _ _ => rfl)) (pv 2) (fun _ _ => rfl)) (pa_cons pe_int pa_nil)))))) pss_nil)
      (pss_cons (ps_set (i := 3) nd rfl (.inl rfl) (pe_meth (pv 0) T.c_Chain T.h_Chain_chance_of F_Chain_chance_of (hr.mono (by decide)) b_Chain_chance_of .nil pass0 (pa_cons (pv 1) (pa_cons (pe_lst (pa_cons (pv 2) pa_nil)) pa_nil))))
      (pss_cons (ps_if (pt_cmpR op_eq (pv 1) (pv 2) (by rfl)) (pss_one (ps_ret (pe_tup (pa_cons (pe_op op_sub (pe_ix (k_ixt K rfl) (pv 3) pe_int (fun _ _ => rfl)) (pe_ix (k_ixt K rfl) (pv 3) pe_int (fun _ _ => rfl))) (pa_cons (pe_ix (k_ixt K rfl) (pv 3) pe_int (fun _ _ => rfl)) pa_nil))))) pss_nil)
      (pss_one (ps_ret (pv 3)))))), ?_⟩)
  obtain ⟨v1, _, rfl, h1, _, _, rfl, rfl, _, _, rfl, rfl, rfl⟩ := ha
  obtain ⟨ok, hi, hj⟩ := hok
  have et : ∀ {G H : Hp} {σ : L2.St}, σ[1]? = some (some (.int (a.2.1 : Int))) → σ[2]? = some (some (.int (a.2.2 : Int))) → EvT (tTest (tOp rEq (tVar 1) (tVar 2))) σ G H (decide (a.2.1 = a.2.2)) := fun h1 h2 => et_is (et_test (ev_eq (ev_var h1) (ev_var h2) rfl)) (dec_int_nat _ _)
  refine sq_ifN sm (ev_kind1 T (ev_vR rfl h1)) (fun b G2 H2 e2 => ?_) fun b G2 H2 e2 => ?_
  · refine st_ret e2.sub (ev_if (P := isR qF (Lrx1.generator a.1 a.2.1 a.2.2)) (et rfl rfl) (fun c => ?_) fun c => ?_) fun v G3 H3 e3 p => k v G3 H3 (e2.trans e3) p
    · have c' : a.2.1 = a.2.2 := by simpa using c
      refine ev_frac (f := Lrx1.generator a.1 a.2.1 a.2.2) (ev_neg (ev_meth (a.1, a.2.1) (ev_vR rfl (Mo.mo e2.g h1)) (ea_V (ev_var rfl) ea_nil) rfl ⟨ok, hi⟩)) ev_c ?_ ?_
      all_goals
        unfold Lrx1.generator
        rw [if_pos b, if_pos c']
        rfl
    · have c' : ¬ a.2.1 = a.2.2 := by simpa using c
      refine ev_frac (f := Lrx1.generator a.1 a.2.1 a.2.2) (ev_ofN (ev_ixL (ev_ixL (ev_rows T (ev_vR rfl (Mo.mo e2.g h1))) (ev_var rfl) (weights_at hi)) (ev_var rfl) (row_at ok hi hj))) ev_c ?_ ?_
      all_goals
        unfold Lrx1.generator
        rw [if_pos b, if_neg c']
        rfl
  · have hb : ¬ (a.1.isContinuous = true) := by rw [b]; decide
    refine sq_set e2.sub (ev_a (ev_meth (a.1, a.2.1, [a.2.2]) (ev_vR rfl (Mo.mo e2.g h1)) (ea_V (ev_var rfl) (ea_R (ev_NL (ev_lstV (R := qN) (xs := [a.2.2]) (vs := [.int (a.2.2 : Int)]) (ea_V (ev_var rfl) ea_nil) (by show 1 ≤ 1000; decide) fun G => .cons rfl .nil)) ea_nil)) rfl ⟨ok, hi, by simpa using hj, by show 1 ≤ 1000; decide⟩) (EC.chance_one ok _ _)) fun v G3 H3 e3 p => ?_
    refine sq_ifN e3.sub (et rfl rfl) (fun c G4 H4 e4 => ?_) fun c G4 H4 e4 => ?_
    · have c' : a.2.1 = a.2.2 := by simpa using c
      refine st_ret e4.sub (ev_frac (f := Lrx1.generator a.1 a.2.1 a.2.2) (ev_I0 (ev_num (ev_vR rfl (Mo.mo e4.g p)) ev_c) (ev_den (ev_vR rfl (Mo.mo e4.g p)) ev_c)) (ev_den (ev_vR rfl (Mo.mo e4.g p)) ev_c) ?_ ?_) fun v G5 H5 e5 p => k v G5 H5 (((e2.trans e3).trans e4).trans e5) p
      all_goals
        unfold Lrx1.generator
        rw [if_neg hb, if_pos c', EC.sub_one2 (EC.frOk_jump ok _ _).1]
    · have c' : ¬ a.2.1 = a.2.2 := by simpa using c
      refine st_ret e4.sub (ev_a (ev_vR rfl (Mo.mo e4.g p)) ?_) fun v G5 H5 e5 p => k v G5 H5 (((e2.trans e3).trans e4).trans e5) p
      unfold Lrx1.generator
      rw [if_neg hb, if_neg c', EC.sub_zero (EC.frOk_jump ok _ _).1]
abbrev sp_Instance_init (K : PySem.W.Frag) : Sp := fun vs H Q _ => ∃ x dx, vs = [.ref x] ∧ H x = some (.ins (He.ga K "Instance") dx []) ∧ Q .non (upd H x (.ins (He.ga K "Instance") dx [("chain", .non)]))
theorem sp_Instance_init_len (K : PySem.W.Frag) {vs H Q X} (h : sp_Instance_init K vs H Q X) : vs.length = 1 := by
  obtain ⟨_, _, rfl, _⟩ := h
  rfl
abbrev N_Instance_init : List Str := ["self"]
abbrev P_Instance_init : List Str := ["self"]
theorem sc_Instance_init : FnScope N_Instance_init P_Instance_init (defScope s_Instance_init) := ⟨rfl, rfl, rfl, by decide +kernel, rfl, by decide +kernel, by decide +kernel⟩
theorem ok_Instance_init (T : Tx K mg) : Has P w K mg base 1 (He.ma K (He.ga K "Instance") "__init__") P_Instance_init (sp_Instance_init K) := by
  have nd := sc_Instance_init.nd
  refine has_sp T.f_Instance_init sc_Instance_init (fun vs H Q X h => sp_Instance_init_len K h) (fun _ _ _ _ _ _ us hl => match us, hl with | [_], _ => rfl) (fun cdv E outer s H X hr vs Q ha => ⟨_, (pss_one (ps_fld (pv 0) pe_non rfl)), ?_⟩)
  obtain ⟨x, dx, rfl, hx, q⟩ := ha
  exact ⟨.ref x, rfl, x, _, dx, [], rfl, hx, T.c_Instance, T.n_Instance_chain, by show 0 < 1000; decide, q⟩
end
end ER
/-! ## ErD -/
/-! how the states are connected -/
namespace ER
open PySem PySem.Spec PyProof.Rows
open L2 hiding St
open Lrx1 (Fraction Chain reduce size weight rowSum jump greatestRate one zero states distance classOf isClosed period closedClasses)
open EC (Red FrOk COk BS bIn bStep bAt dv BI bGo)
section
variable {P : Program} {w : World} {K : PySem.W.Frag} {mg : Str → Option Value} {base : Heap}
section
variable {α : Type} {R : Rel α} {σ : L2.St} {G H : Hp} {ta : TE} {o : Option α}
theorem ev_isN (nn : ∀ G v a, R G v a → v ≠ .non) (h : Ev ta σ G H (isR (qO R) o)) : Ev (tOp (fun x y H Q => y = V.non ∧ Q (.bl (decide (x = .non))) H) ta (tC .non)) σ G H (isV (.bl o.isNone)) := fun G1 H1 e Q q =>
  h G1 H1 e _ fun v G2 H2 e2 r => ⟨rfl, q _ G2 H2 e2 (by
    cases o with
    | none => rw [show v = .non from r]; rfl
    | some a => 
      have := nn _ _ _ r
      show V.bl (decide (v = .non)) = _
      rw [decide_eq_false this]; rfl)⟩
theorem ev_notN (nn : ∀ G v a, R G v a → v ≠ .non) (h : Ev ta σ G H (isR (qO R) o)) : Ev (tOp (fun x y H Q => y = V.non ∧ Q (.bl (!decide (x = .non))) H) ta (tC .non)) σ G H (isV (.bl o.isSome)) := fun G1 H1 e Q q =>
  h G1 H1 e _ fun v G2 H2 e2 r => ⟨rfl, q _ G2 H2 e2 (by
    cases o with
    | none => rw [show v = .non from r]; rfl
    | some a => 
      have := nn _ _ _ r
      show V.bl (!decide (v = .non)) = _
      rw [decide_eq_false this]; rfl)⟩
theorem ev_some {a : α} (h : Ev ta σ G H (isR (qO R) (some a))) : Ev ta σ G H (isR R a) := h
theorem nn_N (G : Hp) (v : V) (a : Nat) (h : qN G v a) : v ≠ .non := by rw [show v = _ from h]; exact fun e => by cases e
theorem nn_L {R : Rel α} (G : Hp) (v : V) (a : List α) (h : qL R G v a) : v ≠ .non := by obtain ⟨p, vs, rfl, _⟩ := h; exact fun e => by cases e
theorem nn_F (G : Hp) (v : V) (a : Fraction) (h : qF G v a) : v ≠ .non := by obtain ⟨p, rfl, _⟩ := h; exact fun e => by cases e
theorem nn_C (K : PySem.W.Frag) (G : Hp) (v : V) (a : Chain) (h : qC K G v a) : v ≠ .non := by obtain ⟨p, dx, r, rfl, _⟩ := h; exact fun e => by cases e
end
theorem getD_at {α : Type} {l : List α} {i : Nat} {x d : α} (h : l[i]? = some x) : l.getD i d = x := by rw [List.getD_eq_getElem?_getD, h]; rfl
theorem at_getD {α : Type} {l : List α} {i : Nat} (d : α) (h : i < l.length) : l[i]? = some (l.getD i d) := by rw [List.getD_eq_getElem?_getD, List.getElem?_eq_getElem h]; rfl
def distF (c : Chain) (i : Nat) : List (Option Nat) := (states c).map (distance c i)
theorem distF_at {c : Chain} {i j : Nat} (hj : j < size c) : (distF c i)[j]? = some (distance c i j) := by
  unfold distF states
  rw [List.getElem?_map, List.getElem?_range hj]
  rfl
theorem dist_end {c : Chain} {start p : Nat} {st : BS} (h : BI c start p 0 st) (hs : start < size c) (hp : st.2.length ≤ p) : st.1 = distF c start := by
  apply List.ext_getElem?
  intro j
  by_cases hj : j < size c
  · rw [at_getD none (by rw [h.len]; exact hj), distF_at hj, EC.bi_dist h hs hp hj]
  · rw [List.getElem?_eq_none (by rw [h.len]; omega), List.getElem?_eq_none (by simp [distF, states]; omega)]
abbrev RowOk (a : Chain × Nat) : Prop := COk a.1 ∧ a.2 < size a.1
abbrev sp_distances_from (K : PySem.W.Frag) : Sp := spG (α := Chain × Nat) (fun a => [aR qW a.1.weights, aV (.int (a.2 : Int))]) RowOk fun a => isR (qL (qO qN)) (distF a.1 a.2)
abbrev N_distances_from : List Str := ["rows", "start", "distances", "reached", "place", "state", "other", "weight"]
abbrev P_distances_from : List Str := ["rows", "start"]
theorem sc_distances_from : FnScope N_distances_from P_distances_from (defScope s_distances_from) := ⟨rfl, rfl, rfl, by decide +kernel, rfl, by decide +kernel, by decide +kernel⟩
theorem ok_distances_from (T : Tx K mg) : Has P w K mg base 1 (He.ga K "distances_from") P_distances_from (sp_distances_from K) := by
  have nd := sc_distances_from.nd
  refine has_mk T.f_distances_from sc_distances_from (fun _ => rfl) (fun _ _ _ _ _ _ us hl => match us, hl with | [_, _], _ => rfl) (fun cdv E outer s H X hr a G vs Q sm ha hok k => ⟨_, (pss_cons (ps_set (i := 2) nd rfl (.inl rfl) (pe_op op_rep (pe_lst (pa_cons pe_non pa_nil)) (pe_callB (k_len K rfl) (by rfl) T.z_len PySem.boot_len (pa_cons (pv 0) pa_nil))))
      (pss_cons (ps_asg pe_int (pg_sub (pv 2) (pv 1) set_list))
      (pss_cons (ps_set (i := 3) nd rfl (.inl rfl) (pe_lst (pa_cons (pv 1) pa_nil)))
      (pss_cons (ps_set (i := 4) nd rfl (.inl rfl) pe_int)
      (pss_cons (ps_while PassesOwn.never (pt_cmpR op_lt (pv 4) (pe_callB (k_len K rfl) (by rfl) T.z_len PySem.boot_len (pa_cons (pv 3) pa_nil)) (by rfl)) (pss_cons (ps_set (i := 5) nd rfl (.inl rfl) (pe_ix (k_ixl K rfl) (pv 3) (pv 4) (fun _ _ => rfl)))
      (pss_cons (ps_for PassesOwn.never rfl (k_pie K rfl (by rfl) T.z_enumerate (pa_cons (pe_ix (k_ixl K rfl) (pv 0) (pv 5) (fun _ _ => rfl)) pa_nil)) (k_pgt K rfl (n := 2) rfl (pgs_cons (pg_name (i := 6) nd rfl (.inl rfl)) (pgs_cons (pg_name (i := 7) nd rfl (.inl rfl)) pgs_nil))) (pss_one (ps_if (PW.pt (pw_and (pt_cmpR op_gt (pv 7) pe_int (by rfl)) (pw_and1 (pt_cmpR op_isN (pe_ix (k_ixl K rfl) (pv 2) (pv 6) (fun _ _ => rfl)) pe_non (by rfl))))) (pss_cons (ps_asg (pe_op op_add (pe_ix (k_ixl K rfl) (pv 2) (pv 5) (fun _ _ => rfl)) pe_int) (pg_sub (pv 2) (pv 6) set_list))
      (pss_one (ps_expr (k_bm K rfl PySem.F.plainAttrs_list PySem.F.slot_list_append PySem.F.type_list_append mt_append (pv 3) (pa_cons (pv 6) pa_nil))))) pss_nil)))
      (pss_one (ps_aug (i := 4) nd rfl (.inl rfl) pe_int ip_add)))))
      (pss_one (ps_ret (pv 2)))))))), ?_⟩)
  obtain ⟨v1, _, rfl, h1, _, _, rfl, rfl, rfl⟩ := ha
  obtain ⟨ok, hs⟩ := hok
  have sz := size_small ok
  refine sq_set sm (ev_rep (R := qO qN) (xs := [none]) (n := size a.1) (ev_lstV (vs := [.non]) (ea_V ev_c ea_nil) (by show 1 ≤ 1000; decide) fun G => .cons rfl .nil) (ev_lenL (ev_vR rfl h1)) (by simpa using sz) sz) fun v G1 H1 e1 n1 => ?_
  obtain ⟨p1, rfl, l1⟩ := locl_of n1
  rw [show (List.replicate (size a.1) [(none : Option Nat)]).flatten = List.replicate (size a.1) none by simp] at l1
  refine sq (st_put (a := some 0) l1 e1.sub (ev_toR ev_c fun _ => rfl) (ev_var rfl) (ev_var rfl) (by simpa using hs) fun G2 H2 vs e2 l2 => ?_)
  have E2 := l2.up (e1.trans e2)
  refine sq_set E2.sub (ev_lstV (vs := [.int (a.2 : Int)]) (R := qN) (xs := [a.2]) (ea_V (ev_var rfl) ea_nil) (by show 1 ≤ 1000; decide) fun G => .cons rfl .nil) fun v G3 H3 e3 n3 => ?_
  obtain ⟨p3, rfl, l3⟩ := locl_of n3
  have ne := LocL.neq l2 l3
  have E3 := E2.trans e3
  refine sq_set e3.sub ev_c fun v G4 H4 e4 p4 => ?_
  subst p4
  have E4 := E3.trans e4
  refine sq (wh_by E4.sub (fun m σ G1 H1 => ∃ k r5 r6 r7, σ = [some v1, some (.int (a.2 : Int)), some (.ref p1), some (.ref p3), some (.int ((k : Nat) : Int)), r5, r6, r7] ∧ bGo a.1 a.2 k ∧ m = size a.1 + 1 - k ∧ Ext G H G1 H1 ∧ LocL (qO qN) (bAt a.1.weights a.2 k).1 H p1 G1 H1 ∧ LocL qN (bAt a.1.weights a.2 k).2 H p3 G1 H1) ⟨0, none, none, none, rfl, fun q hq => absurd hq (Nat.not_lt_zero q), rfl, E4, (l2.ext (e3.trans e4)), ((l3.back E2.h).ext e4)⟩ ?_)
  rintro m σ G5 H5 s5 ⟨p, r5, r6, r7, rfl, go, rfl, e5, lA, lB⟩
  have bi := EC.bi_at ok hs p go
  refine ⟨_, et_test (ev_I0 (ev_var rfl) (ev_lenN lB (ev_var rfl))), fun b G6 H6 e6 => ?_, fun b G6 H6 e6 => ?_⟩
  · have hp : p < (bAt a.1.weights a.2 p).2.length := by simpa using b
    obtain ⟨s, hs'⟩ : ∃ s, (bAt a.1.weights a.2 p).2[p]? = some s := ⟨_, List.getElem?_eq_getElem hp⟩
    have sl : s < size a.1 := bi.lt s (List.mem_of_getElem? hs')
    have go' : bGo a.1 a.2 (p + 1) := fun q hq => by
      by_cases h : q = p
      · subst h; exact hp
      · exact go q (by omega)
    have hsz := bi.size_le
    have rl := ok.row s sl
    refine sq_set e6.sub (ev_ixN (lB.ext e6) (ev_var rfl) (ev_var rfl) hs') fun v G7 H7 e7 p7 => ?_
    have ev : v = .int (s : Int) := p7
    subst ev
    have e57 := e6.trans e7
    let row := a.1.weights.getD s []
    let F : Nat → BS := fun i => (List.range i).foldl (bIn row s) (bAt a.1.weights a.2 p)
    have FS : ∀ i, F (i + 1) = bIn row s (F i) i := fun i => by
      show (List.range (i + 1)).foldl _ _ = _
      rw [List.range_succ, List.foldl_append]
      rfl
    refine sq (fo_enum (S := qN) (xs := row) e7.sub (ea_R (ev_ixL (ev_vR rfl (Mo.mo (e5.trans e57).g h1)) (ev_var rfl) (weights_at sl)) ea_nil) (fun i σ G1 H1 => ∃ r6 r7, σ = [some v1, some (.int (a.2 : Int)), some (.ref p1), some (.ref p3), some (.int (p : Int)), some (.int (s : Int)), r6, r7] ∧ Ext G H G1 H1 ∧ LocL (qO qN) (F i).1 H p1 G1 H1 ∧ LocL qN (F i).2 H p3 G1 H1) (fun G8 H8 e8 => ⟨r6, r7, rfl, (e5.trans e57).trans e8, lA.ext (e57.trans e8), lB.ext (e57.trans e8)⟩) ?_ ?_)
    · rintro i x v σ G8 H8 H9 hx sg sm8 rv ⟨r6, r7, rfl, e8, lA8, lB8⟩ j
      have ev : v = .int (x : Int) := rv
      subst ev
      have hi : i < size a.1 := by rw [← rl]; exact (List.getElem?_eq_some_iff.mp hx).1
      have hw : row.getD i 0 = x := getD_at hx
      obtain ⟨bf, _⟩ := EC.bi_fold ok bi hs' i (Nat.le_of_lt hi)
      have bf' : BI a.1 a.2 p i (F i) := bf
      have e9 := e8.jk j
      have lA9 := lA8.jk j
      have lB9 := lB8.jk j
      have oi : (F i).1[i]? = some ((F i).1.getD i none) := at_getD none (by rw [bf'.len]; exact hi)
      have os : (F i).1[s]? = some ((F i).1.getD s none) := at_getD none (by rw [bf'.len]; exact sl)
      refine st_if e9.sub (et_and (et_test (ev_I0 (ev_var rfl) ev_c)) fun _ => et_test (ev_isN nn_N (ev_ixN lA9 (ev_var rfl) (ev_var rfl) oi))) (fun c G10 H10 e10 => ?_) fun c G10 H10 e10 => ?_
      · have c' : 0 < x ∧ (F i).1.getD i none = none := by simpa using c
        have fe : F (i + 1) = ((F i).1.set i (some (dv (F i) s + 1)), (F i).2 ++ [i]) := by
          rw [FS, bIn, if_pos ⟨by rw [hw]; exact c'.1, c'.2⟩]
        have ds : (F i).1.getD s none = some (dv (F i) s) := by
          refine EC.mem_some bf' sl ?_
          have := (EC.bi_fold ok bi hs' i (Nat.le_of_lt hi)).2
          exact List.mem_of_getElem? this
        rw [ds] at os
        refine sq (st_put (a := some (dv (F i) s + 1)) (lA9.ext e10) e10.sub (ev_toR (ev_I0 (ev_ofN (ev_some (ev_ixN (lA9.ext e10) (ev_var rfl) (ev_var rfl) os))) ev_c) fun _ => rfl) (ev_var rfl) (ev_var rfl) (by rw [bf'.len]; exact hi) fun G11 H11 vs e11 l11 => ?_)
        have E11 := l11.up ((e9.trans e10).trans e11)
        have lB11 := ((lB9.ext (e10.trans e11)).oth (o := .lst vs) ne.symm)
        refine st_app (a := i) lB11 E11.sub (ev_var rfl) (ev_N (ev_var rfl)) (by have := bf'.size_le; omega) fun G12 H12 vs' e12 l12 => ?_
        refine ⟨G12, ?_, (l12.up (E11.trans e12)).sub, _, _, rfl, l12.up (E11.trans e12), ?_, ?_⟩
        · exact (e10.trans e11).g.trans e12.g
        · rw [fe]; exact (l11.ext e12).oth ne
        · rw [fe]; exact l12
      · have fe : F (i + 1) = F i := by
          have nz : ¬ (0 < row.getD i 0 ∧ (F i).1.getD i none = none) := fun z => by
            rw [hw] at z
            rw [z.2, show decide ((x : Int) > 0) = true from decide_eq_true (by omega)] at c
            exact absurd c (by decide)
          rw [FS, bIn, if_neg nz]
        exact ⟨G10, e10.g, e10.sub, _, _, rfl, e9.trans e10, by rw [fe]; exact lA9.ext e10, by rw [fe]; exact lB9.ext e10⟩
    · rintro σ G8 H8 sg s8 ⟨r6', r7', rfl, e8, lA8, lB8⟩
      refine ⟨_, rfl, _, _, rfl, rfl, _, G8, ?_, s8, p + 1, _, _, _, rfl, go', rfl, e8, ?_, ?_⟩
      · omega
      · show LocL _ (bStep a.1.weights (bAt a.1.weights a.2 p) p).1 _ _ _ _
        unfold bStep
        rw [getD_at hs']
        exact lA8
      · show LocL _ (bStep a.1.weights (bAt a.1.weights a.2 p) p).2 _ _ _ _
        unfold bStep
        rw [getD_at hs']
        exact lB8
  · have hp : (bAt a.1.weights a.2 p).2.length ≤ p := by simpa using b
    obtain ⟨G7, s7, e7, q7, _⟩ := (lA.ext e6).frz (e5.trans e6)
    rw [dist_end bi hs hp] at q7
    exact st_ret e7.sub (ev_vR rfl q7) fun v G8 H8 e8 p => k v G8 H8 (e7.trans e8) p
abbrev PairOk (a : Chain × Nat × Nat) : Prop := COk a.1 ∧ a.2.1 < size a.1 ∧ a.2.2 < size a.1
abbrev sp_reaches (K : PySem.W.Frag) : Sp := spG (α := Chain × Nat × Nat) (fun a => [aR qW a.1.weights, aV (.int (a.2.1 : Int)), aV (.int (a.2.2 : Int))]) PairOk fun a => isV (.bl (Lrx1.reaches a.1 a.2.1 a.2.2))
abbrev N_reaches : List Str := ["rows", "i", "j"]
abbrev P_reaches : List Str := ["rows", "i", "j"]
theorem sc_reaches : FnScope N_reaches P_reaches (defScope s_reaches) := ⟨rfl, rfl, rfl, by decide +kernel, rfl, by decide +kernel, by decide +kernel⟩
theorem ok_reaches (T : Tx K mg) : Has P w K mg base 2 (He.ga K "reaches") P_reaches (sp_reaches K) := by
  obtain ⟨⟨_, F_distances_from, b_distances_from⟩, kp_distances_from⟩ := ok_distances_from (P := P) (w := w) (base := base) T
  have nd := sc_reaches.nd
  refine has_mk T.f_reaches sc_reaches (fun _ => rfl) (fun _ _ _ _ _ _ us hl => match us, hl with | [_, _, _], _ => rfl) (fun cdv E outer s H X hr a G vs Q sm ha hok k => ⟨_, (pss_one (ps_ret (pe_cmpR op_notN (pe_ix (k_ixl K rfl) (pe_call F_distances_from (hr.mono (by decide)) (by rfl) T.g_distances_from kp_distances_from b_distances_from .nil pass0 (pa_cons (pv 0) (pa_cons (pv 1) pa_nil))) (pv 2) (fun _ _ => rfl)) pe_non (by rfl)))), ?_⟩)
  obtain ⟨v1, _, rfl, h1, _, _, rfl, rfl, _, _, rfl, rfl, rfl⟩ := ha
  obtain ⟨ok, hi, hj⟩ := hok
  refine st_ret sm (ev_V (ev_notN nn_N (ev_ixL (ev_call (a.1, a.2.1) (ea_R (ev_vR rfl h1) (ea_V (ev_var rfl) ea_nil)) ⟨ok, hi⟩) (ev_var rfl) (distF_at hj))) ?_) k
  rw [EC.dist_some ok hi hj]
theorem ev_lenW {σ : L2.St} {G H : Hp} {te : TE} {c : Chain} (h : Ev te σ G H (isR qW c.weights)) : Ev (tCB (rLenQ K) (tCons te tNil)) σ G H (isV (.int (size c : Int))) := ev_lenL h
abbrev sp_class_of (K : PySem.W.Frag) : Sp := spG (α := Chain × Nat) (fun a => [aR qW a.1.weights, aV (.int (a.2 : Int))]) RowOk fun a => isR (qL qN) (classOf a.1 a.2)
abbrev N_class_of : List Str := ["rows", "i", "j"]
abbrev P_class_of : List Str := ["rows", "i"]
theorem sc_class_of : FnScope N_class_of P_class_of (defScope s_class_of) := ⟨rfl, rfl, rfl, by decide +kernel, rfl, by decide +kernel, by decide +kernel⟩
theorem ok_class_of (T : Tx K mg) : Has P w K mg base 3 (He.ga K "class_of") P_class_of (sp_class_of K) := by
  obtain ⟨⟨_, F_reaches, b_reaches⟩, kp_reaches⟩ := ok_reaches (P := P) (w := w) (base := base) T
  have nd := sc_class_of.nd
  refine has_mk T.f_class_of sc_class_of (fun _ => rfl) (fun _ _ _ _ _ _ us hl => match us, hl with | [_, _], _ => rfl) (fun cdv E outer s H X hr a G vs Q sm ha hok k => ⟨_, (pss_one (ps_ret (pe_lc (own := [("j", 2)]) rfl nd (pi_range1 (by rfl) T.z_range (pa_cons (pe_callB (k_len K rfl) (by rfl) T.z_len PySem.boot_len (pa_cons (pv 0) pa_nil)) pa_nil)) (blkOk_by (own := [("j", 2)]) (N := N_class_of) (sc := defScope s_class_of) (by decide +kernel)) (fun _ _ _ _ _ => (pg_name (i := 2) nd rfl (.inl rfl))) (fun _ _ _ _ _ => pts_one (PW.pt (pw_and (pt_val (pe_call F_reaches (hr.mono (by decide)) (by rfl) T.g_reaches kp_reaches b_reaches .nil pass0 (pa_cons (pv 0) (pa_cons (pv 1) (pa_cons (pv 2) pa_nil))))) (pw_and1 (pt_val (pe_call F_reaches (hr.mono (by decide)) (by rfl) T.g_reaches kp_reaches b_reaches .nil pass0 (pa_cons (pv 0) (pa_cons (pv 2) (pa_cons (pv 1) pa_nil))))))))) (fun _ _ _ _ _ => (pv 2))))), ?_⟩)
  obtain ⟨v1, _, rfl, h1, _, _, rfl, rfl, rfl⟩ := ha
  obtain ⟨ok, hi⟩ := hok
  refine st_ret sm (ev_a (ev_NL (ev_lcR (R := qN) (f := fun j => j) (p := fun j => Lrx1.reaches a.1 a.2 j && Lrx1.reaches a.1 j a.2) (ea_V (ev_lenW (ev_vR rfl h1)) ea_nil) (size_small ok) (fun _ => rfl) fun j hj G' H' e => ⟨?_, fun _ => ev_N (ev_var rfl)⟩)) ?_) k
  · exact et_and (et_B (ev_call (a.1, a.2, j) (ea_R (ev_vR rfl (Mo.mo e.g h1)) (ea_V (ev_var rfl) (ea_V (ev_var rfl) ea_nil))) ⟨ok, hi, hj⟩)) fun _ => et_B (ev_call (a.1, j, a.2) (ea_R (ev_vR rfl (Mo.mo e.g h1)) (ea_V (ev_var rfl) (ea_V (ev_var rfl) ea_nil))) ⟨ok, hj, hi⟩)
  · rw [List.map_id']
    rfl
def namesF (c : Chain) : List Nat := (states c).map fun i => (classOf c i).headD 0
abbrev sp_class_names (K : PySem.W.Frag) : Sp := spG (α := Chain) (fun a => [aR qW a.weights]) COk fun a => isR (qL qN) (namesF a)
abbrev N_class_names : List Str := ["rows", "i"]
abbrev P_class_names : List Str := ["rows"]
theorem sc_class_names : FnScope N_class_names P_class_names (defScope s_class_names) := ⟨rfl, rfl, rfl, by decide +kernel, rfl, by decide +kernel, by decide +kernel⟩
theorem ok_class_names (T : Tx K mg) : Has P w K mg base 4 (He.ga K "class_names") P_class_names (sp_class_names K) := by
  obtain ⟨⟨_, F_class_of, b_class_of⟩, kp_class_of⟩ := ok_class_of (P := P) (w := w) (base := base) T
  have nd := sc_class_names.nd
  refine has_mk T.f_class_names sc_class_names (fun _ => rfl) (fun _ _ _ _ _ _ us hl => match us, hl with | [_], _ => rfl) (fun cdv E outer s H X hr a G vs Q sm ha hok k => ⟨_, (pss_one (ps_ret (pe_lc (own := [("i", 1)]) rfl nd (pi_range1 (by rfl) T.z_range (pa_cons (pe_callB (k_len K rfl) (by rfl) T.z_len PySem.boot_len (pa_cons (pv 0) pa_nil)) pa_nil)) (blkOk_by (own := [("i", 1)]) (N := N_class_names) (sc := defScope s_class_names) (by decide +kernel)) (fun _ _ _ _ _ => (pg_name (i := 1) nd rfl (.inl rfl))) (fun _ _ _ _ _ => pts_nil) (fun _ _ _ _ _ => (pe_ix (k_ixl K rfl) (pe_call F_class_of (hr.mono (by decide)) (by rfl) T.g_class_of kp_class_of b_class_of .nil pass0 (pa_cons (pv 0) (pa_cons (pv 1) pa_nil))) pe_int (fun _ _ => rfl)))))), ?_⟩)
  obtain ⟨v1, _, rfl, h1, rfl⟩ := ha
  exact st_ret sm (ev_NL (ev_mapR (R := qN) (f := fun i => (classOf a i).headD 0) (ea_V (ev_lenW (ev_vR rfl h1)) ea_nil) (size_small hok) (fun _ => rfl) fun i hi G' H' e => ev_ixL (i := 0) (ev_call (a, i) (ea_R (ev_vR rfl (Mo.mo e.g h1)) (ea_V (ev_var rfl) ea_nil)) ⟨hok, hi⟩) ev_c (EC.class_head hok hi).1)) k
abbrev sp_is_closed (K : PySem.W.Frag) : Sp := spG (α := Chain × Nat) (fun a => [aR qW a.1.weights, aR (qL qN) (classOf a.1 a.2)]) RowOk fun a => isV (.bl (isClosed a.1 a.2))
abbrev N_is_closed : List Str := ["rows", "members", "i", "j", "weight"]
abbrev P_is_closed : List Str := ["rows", "members"]
theorem sc_is_closed : FnScope N_is_closed P_is_closed (defScope s_is_closed) := ⟨rfl, rfl, rfl, by decide +kernel, rfl, by decide +kernel, by decide +kernel⟩
theorem ok_is_closed (T : Tx K mg) : Has P w K mg base 1 (He.ga K "is_closed") P_is_closed (sp_is_closed K) := by
  have nd := sc_is_closed.nd
  refine has_mk T.f_is_closed sc_is_closed (fun _ => rfl) (fun _ _ _ _ _ _ us hl => match us, hl with | [_, _], _ => rfl) (fun cdv E outer s H X hr a G vs Q sm ha hok k => ⟨_, (pss_cons (ps_for PassesOwn.never rfl (k_pil K rfl (pv 1)) (pg_name (i := 2) nd rfl (.inl rfl)) (pss_one (ps_for PassesOwn.never rfl (k_pie K rfl (by rfl) T.z_enumerate (pa_cons (pe_ix (k_ixl K rfl) (pv 0) (pv 2) (fun _ _ => rfl)) pa_nil)) (k_pgt K rfl (n := 2) rfl (pgs_cons (pg_name (i := 3) nd rfl (.inl rfl)) (pgs_cons (pg_name (i := 4) nd rfl (.inl rfl)) pgs_nil))) (pss_one (ps_if (PW.pt (pw_and (pt_cmpR op_gt (pv 4) pe_int (by rfl)) (pw_and1 (pt_cmpR (k_notIn K rfl) (pv 3) (pv 1) (by rfl))))) (pss_one (ps_ret pe_bl)) pss_nil)))))
      (pss_one (ps_ret pe_bl))), ?_⟩)
  obtain ⟨v1, _, rfl, h1, v2, _, rfl, h2, rfl⟩ := ha
  obtain ⟨ok, hi⟩ := hok
  refine sq (fo_list sm (ev_vR rfl h2) (fun m σ G1 H1 => ∃ r2 r3 r4, σ = [some v1, some v2, r2, r3, r4] ∧ Ext G H G1 H1 ∧ ∀ x ∈ (classOf a.1 a.2).take m, ∀ j, j < size a.1 → 0 < weight a.1 x j → j ∈ classOf a.1 a.2) (fun G1 H1 e1 => ⟨_, _, _, rfl, e1, fun x hx => by simp at hx⟩) ?_ ?_)
  · rintro m x v σ G1 H1 hx sg s1 rv ⟨r2, r3, r4, rfl, e1, inv⟩
    have ev : v = .int (x : Int) := rv
    subst ev
    have hm := List.mem_of_getElem? hx
    have xl := EC.class_lt (c := a.1) (i := a.2) x hm
    have rl := ok.row x xl
    refine fo_enum (S := qN) s1 (ea_R (ev_ixL (ev_vR rfl (Mo.mo e1.g h1)) (ev_var rfl) (weights_at xl)) ea_nil) (fun n σ G2 H2 => ∃ r3 r4, σ = [some v1, some v2, some (.int (x : Int)), r3, r4] ∧ Ext G H G2 H2 ∧ Same G1 G2 ∧ ∀ j, j < n → 0 < weight a.1 x j → j ∈ classOf a.1 a.2) (fun G2 H2 e2 => ⟨_, _, rfl, e1.trans e2, e2.g, fun j hj => absurd hj (Nat.not_lt_zero j)⟩) ?_ ?_
    · rintro n y v σ G2 H2 H3 hy sg2 s2 rv2 ⟨r3', r4', rfl, e2, sg', inv2⟩ jk
      have ev : v = .int (y : Int) := rv2
      subst ev
      have nl : n < size a.1 := by rw [← rl]; exact (List.getElem?_eq_some_iff.mp hy).1
      have wy : weight a.1 x n = y := getD_at hy
      have e3 := e2.jk jk
      refine st_if e3.sub (et_and (et_test (ev_I0 (ev_var rfl) ev_c)) fun _ => et_test (ev_notIn (ev_var rfl) (ev_vR rfl (Mo.mo e3.g h2)))) (fun b G4 H4 e4 => ?_) fun b G4 H4 e4 => ?_
      · have b' : 0 < y ∧ ¬ n ∈ classOf a.1 a.2 := by simpa using b
        refine st_ret e4.sub ev_c fun v G5 H5 e5 p => k v G5 H5 ((e3.trans e4).trans e5) ?_
        rw [show v = V.bl false from p]
        have nc : isClosed a.1 a.2 = false := by
          rw [Bool.eq_false_iff]
          intro z
          exact b'.2 ((EC.closed_class ok hi).mpr z x hm n nl (by rw [wy]; exact b'.1))
        rw [nc]
        rfl
      · refine ⟨G4, e4.g, e4.sub, _, _, rfl, e3.trans e4, sg'.trans e4.g, fun j hj hw => ?_⟩
        by_cases q : j = n
        · subst q
          refine Classical.byContradiction fun z => ?_
          rw [show decide ((y : Int) > 0) = true from decide_eq_true (by omega), decide_eq_false z] at b
          exact absurd b (by decide)
        · exact inv2 j (by omega) hw
    · rintro σ G2 H2 sg2 s2 ⟨r3', r4', rfl, e2, sg', inv2⟩
      refine ⟨G2, sg', s2, _, _, _, rfl, e2, fun z hz j hj hw => ?_⟩
      rw [take_step hx] at hz
      rcases List.mem_append.mp hz with hz | hz
      · exact inv z hz j hj hw
      · rw [List.mem_singleton.mp hz] at hw
        exact inv2 j (by rw [rl]; exact hj) hw
  · rintro σ G1 H1 sg s1 ⟨r2, r3, r4, rfl, e1, inv⟩
    rw [List.take_length] at inv
    dsimp only
    refine st_ret s1 ev_c fun v G5 H5 e5 p => k v G5 H5 (e1.trans e5) ?_
    rw [show v = V.bl true from p, (EC.closed_class ok hi).mp inv]
    rfl
abbrev sp_all_classes (K : PySem.W.Frag) : Sp := spG (α := Chain) (fun a => [aR qW a.weights]) COk fun a => isR qW ((Lrx1.classes a).map (classOf a))
abbrev N_all_classes : List Str := ["rows", "names", "i"]
abbrev P_all_classes : List Str := ["rows"]
theorem sc_all_classes : FnScope N_all_classes P_all_classes (defScope s_all_classes) := ⟨rfl, rfl, rfl, by decide +kernel, rfl, by decide +kernel, by decide +kernel⟩
theorem ok_all_classes (T : Tx K mg) : Has P w K mg base 5 (He.ga K "all_classes") P_all_classes (sp_all_classes K) := by
  obtain ⟨⟨_, F_class_names, b_class_names⟩, kp_class_names⟩ := ok_class_names (P := P) (w := w) (base := base) T
  obtain ⟨⟨_, F_class_of, b_class_of⟩, kp_class_of⟩ := ok_class_of (P := P) (w := w) (base := base) T
  have nd := sc_all_classes.nd
  refine has_mk T.f_all_classes sc_all_classes (fun _ => rfl) (fun _ _ _ _ _ _ us hl => match us, hl with | [_], _ => rfl) (fun cdv E outer s H X hr a G vs Q sm ha hok k => ⟨_, (pss_cons (ps_set (i := 1) nd rfl (.inr rfl) (pe_call F_class_names (hr.mono (by decide)) (by rfl) T.g_class_names kp_class_names b_class_names .nil pass0 (pa_cons (pv 0) pa_nil)))
      (pss_one (ps_ret (pe_lc (own := [("i", 2)]) rfl nd (pi_range1 (by rfl) T.z_range (pa_cons (pe_callB (k_len K rfl) (by rfl) T.z_len PySem.boot_len (pa_cons (pv 0) pa_nil)) pa_nil)) (blkOk_by (own := [("i", 2)]) (N := N_all_classes) (sc := defScope s_all_classes) (by decide +kernel)) (fun _ _ _ _ _ => (pg_name (i := 2) nd rfl (.inl rfl))) (fun _ _ _ _ _ => pts_one (pt_cmpR op_eq (pe_ix (k_ixl K rfl) (pv 1) (pv 2) (fun _ _ => rfl)) (pv 2) (by rfl))) (fun _ _ _ _ _ => (pe_call F_class_of (hr.mono (by decide)) (by rfl) T.g_class_of kp_class_of b_class_of .nil pass0 (pa_cons (pv 0) (pa_cons (pv 2) pa_nil)))))))), ?_⟩)
  obtain ⟨v1, _, rfl, h1, rfl⟩ := ha
  refine sq_set sm (ev_call a (ea_R (ev_vR rfl h1) ea_nil) hok) fun v G1 H1 e1 p => ?_
  refine st_ret e1.sub (ev_a (ev_NL (ev_lcR (R := qL qN) (f := classOf a) (p := fun i => decide ((classOf a i).headD 0 = i)) (ea_V (ev_lenW (ev_vR rfl (Mo.mo e1.g h1))) ea_nil) (size_small hok) (fun _ => rfl) fun i hi G' H' e => ⟨?_, fun _ => ev_call (a, i) (ea_R (ev_vR rfl (Mo.mo (e1.trans e).g h1)) (ea_V (ev_var rfl) ea_nil)) ⟨hok, hi⟩⟩)) ?_) fun v G2 H2 e2 p => k v G2 H2 (e1.trans e2) p
  · refine et_is (et_test (ev_eq (ev_ofN (ev_ixL (xs := namesF a) (ev_vR rfl (Mo.mo e.g p)) (ev_var rfl) ?_)) (ev_var rfl) rfl)) (dec_int_nat _ _)
    unfold namesF states
    rw [List.getElem?_map, List.getElem?_range hi]
    rfl
  · unfold Lrx1.classes
    congr 1
    apply List.filter_congr
    intro i hi
    rw [EC.head_is hok (List.mem_range.mp hi)]
abbrev sp_closed_classes (K : PySem.W.Frag) : Sp := spG (α := Chain) (fun a => [aR qW a.weights]) COk fun a => isR qW ((closedClasses a).map (classOf a))
abbrev N_closed_classes : List Str := ["rows", "members"]
abbrev P_closed_classes : List Str := ["rows"]
theorem sc_closed_classes : FnScope N_closed_classes P_closed_classes (defScope s_closed_classes) := ⟨rfl, rfl, rfl, by decide +kernel, rfl, by decide +kernel, by decide +kernel⟩
theorem ok_closed_classes (T : Tx K mg) : Has P w K mg base 6 (He.ga K "closed_classes") P_closed_classes (sp_closed_classes K) := by
  obtain ⟨⟨_, F_all_classes, b_all_classes⟩, kp_all_classes⟩ := ok_all_classes (P := P) (w := w) (base := base) T
  obtain ⟨⟨_, F_is_closed, b_is_closed⟩, kp_is_closed⟩ := ok_is_closed (P := P) (w := w) (base := base) T
  have nd := sc_closed_classes.nd
  refine has_mk T.f_closed_classes sc_closed_classes (fun _ => rfl) (fun _ _ _ _ _ _ us hl => match us, hl with | [_], _ => rfl) (fun cdv E outer s H X hr a G vs Q sm ha hok k => ⟨_, (pss_one (ps_ret (pe_lc (own := [("members", 1)]) rfl nd (k_pil K rfl (pe_call F_all_classes (hr.mono (by decide)) (by rfl) T.g_all_classes kp_all_classes b_all_classes .nil pass0 (pa_cons (pv 0) pa_nil))) (blkOk_by (own := [("members", 1)]) (N := N_closed_classes) (sc := defScope s_closed_classes) (by decide +kernel)) (fun _ _ _ _ _ => (pg_name (i := 1) nd rfl (.inl rfl))) (fun _ _ _ _ _ => pts_one (pt_val (pe_call F_is_closed (hr.mono (by decide)) (by rfl) T.g_is_closed kp_is_closed b_is_closed .nil pass0 (pa_cons (pv 0) (pa_cons (pv 1) pa_nil))))) (fun _ _ _ _ _ => (pv 1))))), ?_⟩)
  obtain ⟨v1, _, rfl, h1, rfl⟩ := ha
  have cl := EC.classes_len (c := a)
  have sz := hok.le
  refine st_ret sm (ev_a (ev_NL (ev_lcL (K := K) (R := qL qN) (f := fun L => L) (p := fun L => isClosed a (L.headD 0)) (ev_call a (ea_R (ev_vR rfl h1) ea_nil) hok) (by rw [List.length_map]; omega) (fun _ => rfl) fun L hL v G' H' e r => ⟨?_, fun _ => ev_vR rfl r⟩)) ?_) k
  · obtain ⟨i, hi, rfl⟩ := List.mem_map.mp hL
    obtain ⟨i1, i2⟩ := (EC.classes_mem hok).mp hi
    rw [i2]
    exact et_B (ev_call (a, i) (ea_R (ev_vR rfl (Mo.mo e.g h1)) (ea_R (ev_vR rfl r) ea_nil)) ⟨hok, i1⟩)
  · rw [List.map_id', EC.closed_filter hok]
def perIn (c : Chain) (i : Nat) (g j k : Nat) : Nat := if 0 < weight c j k then Nat.gcd g (Lrx1.level c i j + 1 - Lrx1.level c i k).natAbs else g
abbrev sp_period_of (K : PySem.W.Frag) : Sp := spG (α := Chain × Nat) (fun a => [aR qW a.1.weights, aV (.int (a.2 : Int))]) RowOk fun a => isV (.int (period a.1 a.2 : Int))
abbrev N_period_of : List Str := ["rows", "i", "members", "distances", "period", "j", "k"]
abbrev P_period_of : List Str := ["rows", "i"]
theorem sc_period_of : FnScope N_period_of P_period_of (defScope s_period_of) := ⟨rfl, rfl, rfl, by decide +kernel, rfl, by decide +kernel, by decide +kernel⟩
theorem ok_period_of (T : Tx K mg) : Has P w K mg base 4 (He.ga K "period_of") P_period_of (sp_period_of K) := by
  obtain ⟨⟨_, F_class_of, b_class_of⟩, kp_class_of⟩ := ok_class_of (P := P) (w := w) (base := base) T
  obtain ⟨⟨_, F_distances_from, b_distances_from⟩, kp_distances_from⟩ := ok_distances_from (P := P) (w := w) (base := base) T
  obtain ⟨⟨_, F_greatest_divisor, b_greatest_divisor⟩, kp_greatest_divisor⟩ := ok_greatest_divisor (P := P) (w := w) (base := base) T
  have nd := sc_period_of.nd
  refine has_mk T.f_period_of sc_period_of (fun _ => rfl) (fun _ _ _ _ _ _ us hl => match us, hl with | [_, _], _ => rfl) (fun cdv E outer s H X hr a G vs Q sm ha hok k => ⟨_, (pss_cons (ps_set (i := 2) nd rfl (.inl rfl) (pe_call F_class_of (hr.mono (by decide)) (by rfl) T.g_class_of kp_class_of b_class_of .nil pass0 (pa_cons (pv 0) (pa_cons (pv 1) pa_nil))))
      (pss_cons (ps_set (i := 3) nd rfl (.inl rfl) (pe_call F_distances_from (hr.mono (by decide)) (by rfl) T.g_distances_from kp_distances_from b_distances_from .nil pass0 (pa_cons (pv 0) (pa_cons (pv 1) pa_nil))))
      (pss_cons (ps_set (i := 4) nd rfl (.inl rfl) pe_int)
      (pss_cons (ps_for PassesOwn.never rfl (k_pil K rfl (pv 2)) (pg_name (i := 5) nd rfl (.inl rfl)) (pss_one (ps_for PassesOwn.never rfl (k_pil K rfl (pv 2)) (pg_name (i := 6) nd rfl (.inl rfl)) (pss_one (ps_if (pt_cmpR op_gt (pe_ix (k_ixl K rfl) (pe_ix (k_ixl K rfl) (pv 0) (pv 5) (fun _ _ => rfl)) (pv 6) (fun _ _ => rfl)) pe_int (by rfl)) (pss_one (ps_set (i := 4) nd rfl (.inl rfl) (pe_call F_greatest_divisor (hr.mono (by decide)) (by rfl) T.g_greatest_divisor kp_greatest_divisor b_greatest_divisor .nil pass0 (pa_cons (pv 4) (pa_cons (pe_op op_sub (pe_op op_add (pe_ix (k_ixl K rfl) (pv 3) (pv 5) (fun _ _ => rfl)) pe_int) (pe_ix (k_ixl K rfl) (pv 3) (pv 6) (fun _ _ => rfl))) pa_nil))))) pss_nil)))))
      (pss_one (ps_ret (pv 4))))))), ?_⟩)
  obtain ⟨v1, _, rfl, h1, _, _, rfl, rfl, rfl⟩ := ha
  obtain ⟨ok, hi⟩ := hok
  refine sq_set sm (ev_call a (ea_R (ev_vR rfl h1) (ea_V (ev_var rfl) ea_nil)) ⟨ok, hi⟩) fun v2 G1 H1 e1 p2 => ?_
  refine sq_set e1.sub (ev_call a (ea_R (ev_vR rfl (Mo.mo e1.g h1)) (ea_V (ev_var rfl) ea_nil)) ⟨ok, hi⟩) fun v3 G2 H2 e2 p3 => ?_
  refine sq_set e2.sub ev_c fun v G3 H3 e3 p => ?_
  subst p
  have e13 := (e1.trans e2).trans e3
  let per : Nat → Nat := fun m => ((classOf a.1 a.2).take m).foldl (fun (g j : Nat) => (classOf a.1 a.2).foldl (fun (g k : Nat) => perIn a.1 a.2 g j k) g) 0
  refine sq (fo_list e3.sub (ev_vR rfl (Mo.mo (e2.trans e3).g p2)) (fun m σ G4 H4 => ∃ r5 r6, σ = [some v1, some (.int (a.2 : Int)), some v2, some v3, some (.int (per m : Int)), r5, r6] ∧ Ext G H G4 H4 ∧ Same G3 G4) (fun G4 H4 e4 => ⟨_, _, rfl, e13.trans e4, e4.g⟩) ?_ ?_)
  · rintro m x v σ G4 H4 hx sg s4 rv ⟨r5, r6, rfl, e4, sg4⟩
    have ev : v = .int (x : Int) := rv
    subst ev
    have hm := List.mem_of_getElem? hx
    have xl := EC.class_lt (c := a.1) (i := a.2) x hm
    obtain ⟨dx, d1, d2⟩ := EC.level_at ok hi hm
    let inn : Nat → Nat := fun n => ((classOf a.1 a.2).take n).foldl (fun (g k : Nat) => perIn a.1 a.2 g x k) (per m)
    refine fo_list s4 (ev_vR rfl (Mo.mo ((e2.trans e3).g.trans sg4) p2)) (fun n σ G5 H5 => ∃ r6, σ = [some v1, some (.int (a.2 : Int)), some v2, some v3, some (.int (inn n : Int)), some (.int (x : Int)), r6] ∧ Ext G H G5 H5 ∧ Same G4 G5) (fun G5 H5 e5 => ⟨_, rfl, e4.trans e5, e5.g⟩) ?_ ?_
    · rintro n y v σ G5 H5 hy sg5 s5 rv5 ⟨r6', rfl, e5, sg5'⟩
      have ev : v = .int (y : Int) := rv5
      subst ev
      have hn := List.mem_of_getElem? hy
      have yl := EC.class_lt (c := a.1) (i := a.2) y hn
      obtain ⟨dy, f1, f2⟩ := EC.level_at ok hi hn
      have st : inn (n + 1) = perIn a.1 a.2 (inn n) x y := by
        show ((classOf a.1 a.2).take (n + 1)).foldl _ _ = _
        rw [take_step hy, List.foldl_append]
        rfl
      have q3 : qL (qO qN) G5 v3 (distF a.1 a.2) := Mo.mo (e3.g.trans (sg4.trans sg5')) p3
      have D1 := distF_at (c := a.1) (i := a.2) xl
      have D2 := distF_at (c := a.1) (i := a.2) yl
      rw [d1] at D1
      rw [f1] at D2
      refine st_if s5 (et_test (ev_I0 (ev_ofN (ev_ixL (ev_ixL (ev_vR rfl (Mo.mo e5.g h1)) (ev_var rfl) (weights_at xl)) (ev_var rfl) (row_at ok xl yl))) ev_c)) (fun b G6 H6 e6 => ?_) fun b G6 H6 e6 => ?_
      · have b' : 0 < weight a.1 x y := by simpa using b
        refine st_set e6.sub (ev_call (((inn n : Nat) : Int), (dx : Int) + 1 - (dy : Int)) (ea_V (ev_var rfl) (ea_V (ev_I0 (ev_I0 (ev_ofN (ev_some (ev_ixL (ev_vR rfl (Mo.mo e6.g q3)) (ev_var rfl) D1))) ev_c) (ev_ofN (ev_some (ev_ixL (ev_vR rfl (Mo.mo e6.g q3)) (ev_var rfl) D2)))) ea_nil)) trivial) fun v G7 H7 e7 p => ?_
        subst p
        refine ⟨G7, (e6.trans e7).g, e7.sub, some (.int (y : Int)), ?_, (e5.trans e6).trans e7, sg5'.trans (e6.trans e7).g⟩
        rw [st]
        unfold perIn
        rw [if_pos b', d2, f2]
        rfl
      · have b' : ¬ 0 < weight a.1 x y := by simpa using b
        refine ⟨G6, e6.g, e6.sub, some (.int (y : Int)), ?_, e5.trans e6, sg5'.trans e6.g⟩
        rw [st]
        unfold perIn
        rw [if_neg b']
        rfl
    · rintro σ G5 H5 sg5 s5 ⟨r6', rfl, e5, sg5'⟩
      refine ⟨G5, sg5', s5, some (.int (x : Int)), r6', ?_, e5, sg4.trans sg5'⟩
      have st : per (m + 1) = inn (classOf a.1 a.2).length := by
        show ((classOf a.1 a.2).take (m + 1)).foldl _ _ = ((classOf a.1 a.2).take _).foldl _ _
        rw [take_step hx, List.foldl_append, List.take_length]
        rfl
      rw [st]
  · rintro σ G4 H4 sg s4 ⟨r5, r6, rfl, e4, sg4⟩
    refine st_ret s4 (ev_var rfl) fun v G5 H5 e5 p => k v G5 H5 (e4.trans e5) ?_
    rw [show v = _ from p]
    show V.int ((((classOf a.1 a.2).take _).foldl _ _ : Nat) : Int) = _
    rw [List.take_length]
    rfl
end
end ER
/-! ## ErE -/
/-! linear equations, solved in whole numbers -/
namespace ER
open PySem PySem.Spec PyProof.Rows
open L2 hiding St
open Lrx1 (Fraction Chain reduce size weight rowSum jump greatestRate one zero states)
open EC (Red FrOk COk elimI gstep gst solveI bb SolOk GOk numI denI)
section
variable {P : Program} {w : World} {K : PySem.W.Frag} {mg : Str → Option Value} {base : Heap}
structure ElimOk (n b : Nat) (row piv : List Int) (place : Nat) (prev : Int) : Prop where
  small : n ≤ 1000
  b0 : 0 < b
  b1 : b ≤ 8999
  l1 : row.length = n
  l2 : piv.length = n
  pl : place < n
  lo1 : ∀ i, i < n → (row.getD i 0).natAbs < 2 ^ b
  lo2 : ∀ i, i < n → (piv.getD i 0).natAbs < 2 ^ b
  pp : 0 < prev
  lo3 : prev.natAbs < 2 ^ b
theorem zip_map {α β γ : Type} (f : α → β → γ) : ∀ (l : List α) (l' : List β), (l.zip l').map (fun p => f p.1 p.2) = List.zipWith f l l'
  | [], _ => by simp
  | _ :: _, [] => by simp
  | x :: r, y :: t => by simp [zip_map f r t]
abbrev ElimArg : Type := List Int × List Int × Nat × Int
abbrev sp_eliminated (K : PySem.W.Frag) : Sp := spG (α := ElimArg) (fun a => [aR (qL qI) a.1, aR (qL qI) a.2.1, aV (.int (a.2.2.1 : Int)), aV (.int a.2.2.2)]) (fun a => ∃ n b, ElimOk n b a.1 a.2.1 a.2.2.1 a.2.2.2) fun a => isR (qL qI) (elimI a.1 a.2.1 a.2.2.1 a.2.2.2)
abbrev N_eliminated : List Str := ["row", "pivot_row", "place", "previous", "pivot", "factor", "number", "other"]
abbrev P_eliminated : List Str := ["row", "pivot_row", "place", "previous"]
theorem sc_eliminated : FnScope N_eliminated P_eliminated (defScope s_eliminated) := ⟨rfl, rfl, rfl, by decide +kernel, rfl, by decide +kernel, by decide +kernel⟩
theorem ok_eliminated (T : Tx K mg) : Has P w K mg base 1 (He.ga K "eliminated") P_eliminated (sp_eliminated K) := by
  have nd := sc_eliminated.nd
  refine has_mk T.f_eliminated sc_eliminated (fun _ => rfl) (fun _ _ _ _ _ _ us hl => match us, hl with | [_, _, _, _], _ => rfl) (fun cdv E outer s H X hr a G vs Q sm ha hok k => ⟨_, (pss_cons (ps_set (i := 4) nd rfl (.inr rfl) (pe_ix (k_ixl K rfl) (pv 1) (pv 2) (fun _ _ => rfl)))
      (pss_cons (ps_set (i := 5) nd rfl (.inr rfl) (pe_ix (k_ixl K rfl) (pv 0) (pv 2) (fun _ _ => rfl)))
      (pss_one (ps_ret (pe_lc (own := [("number", 6), ("other", 7)]) rfl nd (k_piz K rfl (by rfl) T.z_zip (pa_cons (pv 0) (pa_cons (pv 1) pa_nil))) (blkOk_by (own := [("number", 6), ("other", 7)]) (N := N_eliminated) (sc := defScope s_eliminated) (by decide +kernel)) (fun _ _ _ _ _ => (k_pgt K rfl (n := 2) rfl (pgs_cons (pg_name (i := 6) nd rfl (.inl rfl)) (pgs_cons (pg_name (i := 7) nd rfl (.inl rfl)) pgs_nil)))) (fun _ _ _ _ _ => pts_nil) (fun _ _ _ _ _ => (pe_op op_fdivW (pe_op op_sub (pe_op op_mulW (pv 4) (pv 6)) (pe_op op_mulW (pv 5) (pv 7))) (pv 3)))))))), ?_⟩)
  obtain ⟨v1, _, rfl, h1, v2, _, rfl, h2, _, _, rfl, rfl, _, _, rfl, rfl, rfl⟩ := ha
  obtain ⟨n, b, o⟩ := hok
  refine sq_set sm (ev_ixL (ev_vR rfl h2) (ev_var rfl) (at_getD 0 (by rw [o.l2]; exact o.pl))) fun v G1 H1 e1 p => ?_
  have ev : v = .int (a.2.1.getD a.2.2.1 0) := p
  subst ev
  refine sq_set e1.sub (ev_ixL (ev_vR rfl (Mo.mo e1.g h1)) (ev_var rfl) (at_getD 0 (by rw [o.l1]; exact o.pl))) fun v G2 H2 e2 p => ?_
  have ev : v = .int (a.1.getD a.2.2.1 0) := p
  subst ev
  have e12 := e1.trans e2
  refine st_ret e2.sub (ev_a (ev_NL (ev_mapZ (K := K) (R := qI) (S := qI) (S' := qI) (xs := a.1) (ys := a.2.1) (f := fun p => (a.2.1.getD a.2.2.1 0 * p.1 - a.1.getD a.2.2.1 0 * p.2) / a.2.2.2) (ea_R (ev_vR rfl (Mo.mo e12.g h1)) (ea_R (ev_vR rfl (Mo.mo e12.g h2)) ea_nil)) (by rw [o.l1]; exact o.small) (fun _ _ => rfl) fun i x y hx hy v w G' H' e rx ry => ?_)) (zip_map (fun x y => (a.2.1.getD a.2.2.1 0 * x - a.1.getD a.2.2.1 0 * y) / a.2.2.2) _ _)) fun v G3 H3 e3 p => k v G3 H3 (e12.trans e3) p
  have ex : v = .int x := rx
  have ey : w = .int y := ry
  subst ex ey
  have ix : i < n := by rw [← o.l1]; exact (List.getElem?_eq_some_iff.mp hx).1
  have bx := o.lo1 i ix
  have by' := o.lo2 i ix
  rw [getD_at hx] at bx
  rw [getD_at hy] at by'
  have b2 : b + b ≤ 1000000 := by have := o.b1; omega
  exact ev_Z (ev_I (ev_I0 (ev_I (ev_var rfl) (ev_var rfl) (wide_mul (o.lo2 _ o.pl) bx o.b0 o.b0 b2)) (ev_I (ev_var rfl) (ev_var rfl) (wide_mul (o.lo1 _ o.pl) by' o.b0 o.b0 b2))) (ev_var rfl) (wide_div o.pp o.lo3 o.b0 (by have := o.b1; omega)))
theorem ev_lastQ {α : Type} {R : Rel α} [Mo R] {xs : List α} {x : α} {σ : L2.St} {G H : Hp} {ta tb : TE} (ha : Ev ta σ G H (isR (qL R) xs)) (hb : Ev tb σ G H (isV (.int (-1)))) (h : xs[xs.length - 1]? = some x) : Ev (tOp (rIxL K) ta tb) σ G H (isR R x) := by
  have hl : 0 < xs.length := by
    cases xs with
    | nil => simp at h
    | cons _ _ => simp
  have e : xs = xs.dropLast ++ [x] := by
    have ne : xs ≠ [] := fun z => by rw [z] at hl; simp at hl
    have e2 := List.dropLast_concat_getLast ne
    rw [List.getLast_eq_getElem, ] at e2
    rw [List.getElem?_eq_getElem (by omega)] at h
    rw [Option.some.inj h] at e2
    exact e2.symm
  rw [e] at ha
  exact ev_last ha hb
def elimTo (rows : List (List Int)) (place : Nat) (prev : Int) (i : Nat) : List (List Int) :=
  (List.range rows.length).map fun o => if o < i ∧ o ≠ place then elimI (rows.getD o []) (rows.getD place []) place prev else rows.getD o []
theorem elimTo_zero (rows : List (List Int)) (place : Nat) (prev : Int) : elimTo rows place prev 0 = rows := by
  unfold elimTo
  simp only [Nat.not_lt_zero, false_and, if_false]
  exact EC.map_getD_range [] rows rows.length rfl
theorem elimTo_end (rows : List (List Int)) (place : Nat) (prev : Int) : elimTo rows place prev rows.length = gstep rows place prev := by
  unfold elimTo gstep
  apply List.map_congr_left
  intro o ho
  have := List.mem_range.mp ho
  by_cases q : o = place
  · simp [q]
  · simp [q, this]
theorem elimTo_len (rows : List (List Int)) (place : Nat) (prev : Int) (i : Nat) : (elimTo rows place prev i).length = rows.length := by simp [elimTo]
theorem elimTo_at {rows : List (List Int)} {place : Nat} {prev : Int} {i o : Nat} (h : o < rows.length) : (elimTo rows place prev i)[o]? = some (if o < i ∧ o ≠ place then elimI (rows.getD o []) (rows.getD place []) place prev else rows.getD o []) := by
  unfold elimTo
  rw [List.getElem?_map, List.getElem?_range h]
  rfl
theorem elimTo_succ {rows : List (List Int)} {place : Nat} {prev : Int} {i : Nat} (h : i < rows.length) : elimTo rows place prev (i + 1) = if i = place then elimTo rows place prev i else (elimTo rows place prev i).set i (elimI (rows.getD i []) (rows.getD place []) place prev) := by
  apply List.ext_getElem?
  intro o
  by_cases ho : o < rows.length
  · by_cases q : i = place
    · rw [if_pos q, elimTo_at ho, elimTo_at ho]
      congr 1
      by_cases q2 : o = place
      · simp [q2]
      · by_cases q3 : o < i
        · simp [q2, q3, show o < i + 1 by omega]
        · simp [q2, q3, show ¬ o < i + 1 by omega]
    · rw [if_neg q, List.getElem?_set]
      by_cases q2 : i = o
      · subst q2
        rw [if_pos rfl, if_pos (by rw [elimTo_len]; exact ho), elimTo_at ho, if_pos ⟨by omega, q⟩]
      · rw [if_neg q2, elimTo_at ho, elimTo_at ho]
        congr 1
        by_cases q3 : o < i
        · simp [q3, show o < i + 1 by omega]
        · simp [q3, show ¬ o < i + 1 by omega]
  · rw [List.getElem?_eq_none (by rw [elimTo_len]; omega), List.getElem?_eq_none (by split; rw [elimTo_len]; omega; rw [List.length_set, elimTo_len]; omega)]
abbrev sp_solve (K : PySem.W.Frag) : Sp := spG (α := List (List Int)) (fun a => [aR (qL (qL qI)) a]) (fun a => a.length ≤ 8 ∧ SolOk a.length a) fun a => isR (qL qI) (solveI a)
abbrev N_solve : List Str := ["equations", "rows", "previous", "place", "pivot_row", "other", "row"]
abbrev P_solve : List Str := ["equations"]
theorem sc_solve : FnScope N_solve P_solve (defScope s_solve) := ⟨rfl, rfl, rfl, by decide +kernel, rfl, by decide +kernel, by decide +kernel⟩
theorem ok_solve (T : Tx K mg) : Has P w K mg base 2 (He.ga K "solve") P_solve (sp_solve K) := by
  obtain ⟨⟨_, F_eliminated, b_eliminated⟩, kp_eliminated⟩ := ok_eliminated (P := P) (w := w) (base := base) T
  have nd := sc_solve.nd
  refine has_mk T.f_solve sc_solve (fun _ => rfl) (fun _ _ _ _ _ _ us hl => match us, hl with | [_], _ => rfl) (fun cdv E outer s H X hr a G vs Q sm ha hok k => ⟨_, (pss_cons (ps_setLc (i := 1) (own := [("row", 6)]) rfl nd rfl rfl (sw_true rfl rfl rfl (by decide +kernel)) (k_pil K rfl (pv 0)) (blkOk_by (own := [("row", 6)]) (N := N_solve) (sc := defScope s_solve) (by decide +kernel)) (fun _ _ _ _ _ => (pg_name (i := 6) nd rfl (.inl rfl))) (fun _ _ _ _ _ => pts_nil) (fun _ _ _ _ _ => (pe_callTy (k_list K rfl) (by rfl) T.z_list (by decide +kernel) (pa_cons (pv 6) pa_nil))))
      (pss_cons (ps_set (i := 2) nd rfl (.inl rfl) pe_int)
      (pss_cons (ps_for PassesOwn.never rfl (pi_range1 (by rfl) T.z_range (pa_cons (pe_callB (k_len K rfl) (by rfl) T.z_len PySem.boot_len (pa_cons (pv 1) pa_nil)) pa_nil)) (pg_name (i := 3) nd rfl (.inl rfl)) (pss_cons (ps_set (i := 4) nd rfl (.inl rfl) (pe_ix (k_ixl K rfl) (pv 1) (pv 3) (fun _ _ => rfl)))
      (pss_cons (ps_for PassesOwn.never rfl (pi_range1 (by rfl) T.z_range (pa_cons (pe_callB (k_len K rfl) (by rfl) T.z_len PySem.boot_len (pa_cons (pv 1) pa_nil)) pa_nil)) (pg_name (i := 5) nd rfl (.inl rfl)) (pss_one (ps_if (pt_cmpR op_ne (pv 5) (pv 3) (by rfl)) (pss_one (ps_asg (pe_call F_eliminated (hr.mono (by decide)) (by rfl) T.g_eliminated kp_eliminated b_eliminated .nil pass0 (pa_cons (pe_ix (k_ixl K rfl) (pv 1) (pv 5) (fun _ _ => rfl)) (pa_cons (pv 4) (pa_cons (pv 3) (pa_cons (pv 2) pa_nil))))) (pg_sub (pv 1) (pv 5) set_list))) pss_nil)))
      (pss_one (ps_set (i := 2) nd rfl (.inl rfl) (pe_ix (k_ixl K rfl) (pv 4) (pv 3) (fun _ _ => rfl)))))))
      (pss_one (ps_ret (pe_op op_cat (pe_lc (own := [("row", 6)]) rfl nd (k_pil K rfl (pv 1)) (blkOk_by (own := [("row", 6)]) (N := N_solve) (sc := defScope s_solve) (by decide +kernel)) (fun _ _ _ _ _ => (pg_name (i := 6) nd rfl (.inl rfl))) (fun _ _ _ _ _ => pts_nil) (fun _ _ _ _ _ => (pe_ix (k_ixl K rfl) (pv 6) (pe_un un_neg pe_int) (fun _ _ => rfl)))) (pe_lst (pa_cons (pv 2) pa_nil)))))))), ?_⟩)
  obtain ⟨v1, _, rfl, h1, rfl⟩ := ha
  obtain ⟨n8, so⟩ := hok
  have n1000 : a.length ≤ 1000 := by omega
  refine sq_set sm (ev_mapL (K := K) (R := qL qI) (f := fun r => r) (ev_vR rfl h1) n1000 (fun _ => rfl) fun r hr v G' H' e rv => ev_NL (ev_listL (ev_vR rfl rv))) fun v G1 H1 e1 n1 => ?_
  rw [List.map_id'] at n1
  obtain ⟨p1, rfl, l1⟩ := locl_of n1
  refine sq_set e1.sub ev_c fun v G2 H2 e2 p => ?_
  subst p
  have e12 := e1.trans e2
  have gl : ∀ m, m ≤ a.length → (gst a m).1.length = a.length := fun m hm => (EC.gOk so m hm).len
  refine sq (fo_range (n := a.length) e2.sub (ea_V (ev_lenN (l1.ext e2) (ev_var rfl)) ea_nil) (by omega) (fun m σ G3 H3 => ∃ r3 r4 r5, σ = [some v1, some (.ref p1), some (.int (gst a m).2), r3, r4, r5, none] ∧ Ext G H G3 H3 ∧ LocL (qL qI) (gst a m).1 H p1 G3 H3) (fun G3 H3 e3 => ⟨none, none, none, rfl, e12.trans e3, l1.ext (e2.trans e3)⟩) ?_ ?_)
  · rintro m σ G3 H3 hm sg s3 ⟨r3, r4, r5, rfl, e3, l3⟩
    have go := EC.gOk so m (Nat.le_of_lt hm)
    have gm := gl m (Nat.le_of_lt hm)
    refine sq_set s3 (ev_ixN l3 (ev_var rfl) (ev_var rfl) (at_getD [] (by rw [gm]; exact hm))) fun v4 G4 H4 e4 p4 => ?_
    have e34 := e3.trans e4
    refine sq (fo_range (n := a.length) e4.sub (ea_V (ev_V (ev_lenN (l3.ext e4) (ev_var rfl)) (by rw [gm])) ea_nil) (by omega) (fun i σ G5 H5 => ∃ r5, σ = [some v1, some (.ref p1), some (.int (gst a m).2), some (.int (m : Int)), some v4, r5, none] ∧ Ext G H G5 H5 ∧ Same G4 G5 ∧ LocL (qL qI) (elimTo (gst a m).1 m (gst a m).2 i) H p1 G5 H5) (fun G5 H5 e5 => ⟨_, rfl, e34.trans e5, e5.g, by rw [elimTo_zero]; exact l3.ext (e4.trans e5)⟩) ?_ ?_)
    · rintro i σ G5 H5 hi sg5 s5 ⟨r5', rfl, e5, sg4, l5⟩
      refine st_if s5 (et_is (et_test (ev_ne (ev_var rfl) (ev_var rfl) rfl)) (show _ = !decide (i = m) from by rw [dec_int_nat])) (fun b G6 H6 e6 => ?_) fun b G6 H6 e6 => ?_
      · have b' : ¬ i = m := by simpa using b
        have e56 := e5.trans e6
        have at_i : (elimTo (gst a m).1 m (gst a m).2 i)[i]? = some ((gst a m).1.getD i []) := by
          rw [elimTo_at (by rw [gm]; exact hi), if_neg (fun z => absurd z.1 (Nat.lt_irrefl _))]
        refine st_put (a := elimI ((gst a m).1.getD i []) ((gst a m).1.getD m []) m (gst a m).2) (i := i) (l5.ext e6) e6.sub (ev_call ((gst a m).1.getD i [], (gst a m).1.getD m [], m, (gst a m).2) (ea_R (ev_ixN (l5.ext e6) (ev_var rfl) (ev_var rfl) at_i) (ea_R (ev_vR rfl (Mo.mo (sg4.trans e6.g) p4)) (ea_V (ev_var rfl) (ea_V (ev_var rfl) ea_nil)))) ?_) (ev_var rfl) (ev_var rfl) (by rw [elimTo_len, gm]; exact hi) fun G7 H7 vs e7 l7 => ?_
        · have b24 : ∀ q, 24 ≤ bb q := fun q => EC.bb_mono (Nat.zero_le q)
          have b6 : bb m ≤ 3199 := by rw [← EC.bb7]; exact EC.bb_mono (by omega)
          have := b24 m
          exact ⟨a.length + 1, bb m, by omega, by omega, by omega, go.row i hi, go.row m hm, Nat.lt_succ_of_lt hm, fun j hj => go.low i j hi (Nat.le_of_lt_succ hj), fun j hj => go.low m j hm (Nat.le_of_lt_succ hj), go.ppos, go.plow⟩
        · refine ⟨G7, e6.g.trans e7.g, (l7.up (e56.trans e7)).sub, _, rfl, l7.up (e56.trans e7), sg4.trans (e6.g.trans e7.g), ?_⟩
          rw [elimTo_succ (by rw [gm]; exact hi), if_neg b']
          exact l7
      · have b' : i = m := by simpa using b
        refine ⟨G6, e6.g, e6.sub, _, rfl, e5.trans e6, sg4.trans e6.g, ?_⟩
        rw [elimTo_succ (by rw [gm]; exact hi), if_pos b']
        exact l5.ext e6
    · rintro σ G5 H5 sg5 s5 ⟨r5', rfl, e5, sg4, l5⟩
      have pm : ((gst a m).1.getD m [])[m]? = some (((gst a m).1.getD m []).getD m 0) := at_getD 0 (by rw [go.row m hm]; omega)
      refine st_set s5 (ev_ixL (ev_vR rfl (Mo.mo sg4 p4)) (ev_var rfl) pm) fun v G6 H6 e6 p => ?_
      have ev : v = .int (((gst a m).1.getD m []).getD m 0) := p
      subst ev
      refine ⟨G6, (e4.g.trans sg4).trans e6.g, e6.sub, _, _, _, rfl, e5.trans e6, ?_⟩
      have l6 := l5.ext e6
      rw [← gm, elimTo_end] at l6
      exact l6
  · rintro σ G3 H3 sg s3 ⟨r3, r4, r5, rfl, e3, l3⟩
    have go := EC.gOk so a.length (Nat.le_refl _)
    obtain ⟨G4, s4, e4, q4, _⟩ := l3.frz e3
    have gm := gl a.length (Nat.le_refl _)
    refine st_ret e4.sub (ev_NL (ev_cat (R := qI) (xs := (gst a a.length).1.map fun (row : List Int) => row.getD a.length 0) (ys := [(gst a a.length).2]) (ev_NL (ev_mapL (K := K) (R := qI) (f := fun (row : List Int) => row.getD a.length 0) (ev_vR rfl q4) (by rw [gm]; exact n1000) (fun _ => rfl) fun r hr v G' H' e rv => ?_)) (ev_NL (ev_lstV (vs := [.int (gst a a.length).2]) (ea_V (ev_var rfl) ea_nil) (by show 1 ≤ 1000; decide) fun G => .cons rfl .nil)) (by rw [List.length_map, gm]; show _ + 1 ≤ _; omega))) fun v G5 H5 e5 p => k v G5 H5 (e4.trans e5) p
    obtain ⟨i, hi, er⟩ := List.mem_iff_getElem.mp hr
    have rl := go.row i (by rw [← gm]; exact hi)
    rw [List.getD_eq_getElem?_getD, List.getElem?_eq_getElem hi, Option.getD_some, er] at rl
    exact ev_lastQ (ev_vR rfl rv) (ev_neg ev_c) (by rw [rl]; exact at_getD 0 (by omega))
end
end ER
/-! ## ErF -/
/-! how sets are reached -/
namespace ER
open PySem PySem.Spec PyProof.Rows
open L2 hiding St
open Lrx1 (Fraction Chain reduce size weight rowSum jump greatestRate one zero states outside entry hitting hittingTime)
open EC (Red FrOk COk solF valAt eqsR rowR Leaves SetOk solveI numI denI gainsH gainsT gainsW surely certain SolOk bb)
section
variable {P : Program} {w : World} {K : PySem.W.Frag} {mg : Str → Option Value} {base : Heap}
section
variable {α : Type} {R : Rel α} [Mo R] {σ : L2.St} {G H : Hp} {ta : TA} {te : TE}
theorem args_R : ∀ {xs : List α} {G : Hp} {vs : List V}, Args (xs.map (aR R)) G vs → Paired (R G) vs xs
  | [], _, _, h => by rw [show _ = _ from h]; exact .nil
  | x :: r, G, vs, ⟨v, us, e, h1, h2⟩ => by rw [e]; exact .cons h1 (args_R h2)
theorem ev_lstR {xs : List α} (h : EvA ta σ G H (xs.map (aR R))) (hl : xs.length ≤ 1000) : Ev (tLst ta) σ G H (isN R xs) := fun G1 H1 e Q q =>
  h G1 H1 e _ fun us G2 H2 e2 a => by
    have pr := args_R a
    exact ⟨Nat.le_of_lt (small1000 (by rw [paired_len pr]; exact hl)), fun p hp => q _ G2 _ (e2.loc (none_of e2.h hp) (none_of e2.sub hp)) ⟨p, us, rfl, none_of e2.h hp, none_of e2.sub hp, upd_same, pr⟩⟩
theorem ev_lst1 {x : α} (h : Ev te σ G H (isR R x)) : Ev (tLst (tCons te tNil)) σ G H (isN R [x]) := ev_lstR (xs := [x]) (ea_R h ea_nil) (by show 1 ≤ 1000; decide)
theorem ev_ofZ {σ : L2.St} {n : Int} (h : Ev te σ G H (isR qI n)) : Ev te σ G H (isV (.int n)) := h
theorem ev_lst0 : Ev (tLst tNil) σ G H (isN R []) := ev_lstR (xs := []) ea_nil (by show 0 ≤ 1000; decide)
end
section
variable {σ : L2.St} {G H : Hp}
theorem ev_fr0 : Ev (tTup (tCons (tC (.int 0)) (tCons (tC (.int 1)) tNil))) σ G H (isR qF zero) := ev_frac ev_c ev_c rfl rfl
theorem ev_fr1 : Ev (tTup (tCons (tC (.int 1)) (tCons (tC (.int 1)) tNil))) σ G H (isR qF one) := ev_frac ev_c ev_c rfl rfl
end
theorem rep_flat {α : Type} (n : Nat) (x : α) : (List.replicate n [x]).flatten = List.replicate n x := by simp
theorem states_set {α : Type} {c : Chain} {f g : Nat → α} {i : Nat} {x : α} (hi : i < size c) (h1 : g i = x) (h2 : ∀ j, j ≠ i → g j = f j) : ((states c).map f).set i x = (states c).map g := by
  apply List.ext_getElem?
  intro j
  unfold states
  by_cases hj : j < size c
  · rw [List.getElem?_set]
    by_cases q : i = j
    · subst q
      rw [if_pos rfl, if_pos (by simpa using hj), List.getElem?_map, List.getElem?_range hj, Option.map_some, h1]
    · rw [if_neg q, List.getElem?_map, List.getElem?_map, List.getElem?_range hj, Option.map_some, Option.map_some, h2 j (fun e => q e.symm)]
  · rw [List.getElem?_eq_none (by simp; omega), List.getElem?_eq_none (by simp; omega)]
theorem states_rep {α : Type} (c : Chain) (x : α) : List.replicate (size c) x = (states c).map fun _ => x := by
  unfold states
  rw [List.map_const', List.length_range]
theorem states_at {α : Type} {c : Chain} {f : Nat → α} {i : Nat} (h : i < size c) : ((states c).map f)[i]? = some (f i) := by
  unfold states
  rw [List.getElem?_map, List.getElem?_range h]
  rfl
theorem states_len (c : Chain) : (states c).length = size c := List.length_range
abbrev TgOk (a : Chain × List Nat) : Prop := COk a.1 ∧ SetOk a.1 a.2 ∧ a.2.length ≤ 1000
theorem any_dist {c : Chain} (ok : COk c) {T : List Nat} (hT : ∀ x ∈ T, x < size c) {i : Nat} (hi : i < size c) : (T.map fun j => (Lrx1.distance c i j).isSome).any id = Lrx1.canReach c T i := by
  unfold Lrx1.canReach
  rw [List.any_map]
  induction T with
  | nil => rfl
  | cons x r ih =>
    rw [List.any_cons, List.any_cons, ih fun y hy => hT y (List.mem_cons_of_mem _ hy)]
    congr 1
    exact EC.dist_some ok hi (hT x (List.mem_cons_self ..))
abbrev sp_leading_states (K : PySem.W.Frag) : Sp := spG (α := Chain × List Nat) (fun a => [aR (qC K) a.1, aR (qL qN) a.2]) TgOk fun a => isR (qL qN) (outside a.1 a.2)
abbrev N_leading_states : List Str := ["chain", "targets", "found", "i", "distances", "j"]
abbrev P_leading_states : List Str := ["chain", "targets"]
theorem sc_leading_states : FnScope N_leading_states P_leading_states (defScope s_leading_states) := ⟨rfl, rfl, rfl, by decide +kernel, rfl, by decide +kernel, by decide +kernel⟩
theorem ok_leading_states (T : Tx K mg) : Has P w K mg base 2 (He.ga K "leading_states") P_leading_states (sp_leading_states K) := by
  obtain ⟨⟨_, F_Chain_state_count, b_Chain_state_count⟩, kp_Chain_state_count⟩ := ok_Chain_state_count (P := P) (w := w) (base := base) T
  obtain ⟨⟨_, F_distances_from, b_distances_from⟩, kp_distances_from⟩ := ok_distances_from (P := P) (w := w) (base := base) T
  have nd := sc_leading_states.nd
  refine has_mk T.f_leading_states sc_leading_states (fun _ => rfl) (fun _ _ _ _ _ _ us hl => match us, hl with | [_, _], _ => rfl) (fun cdv E outer s H X hr a G vs Q sm ha hok k => ⟨_, (pss_cons (ps_set (i := 2) nd rfl (.inl rfl) (pe_lst pa_nil))
      (pss_cons (ps_for PassesOwn.never rfl (pi_range1 (by rfl) T.z_range (pa_cons (pe_meth0 (pv 0) T.c_Chain T.h_Chain_state_count F_Chain_state_count (hr.mono (by decide)) b_Chain_state_count .nil pass0) pa_nil)) (pg_name (i := 3) nd rfl (.inl rfl)) (pss_cons (ps_set (i := 4) nd rfl (.inr rfl) (pe_call F_distances_from (hr.mono (by decide)) (by rfl) T.g_distances_from kp_distances_from b_distances_from .nil pass0 (pa_cons (k_fld K rfl (pv 0)) (pa_cons (pv 3) pa_nil))))
      (pss_one (ps_if (PW.pt (pw_and (pt_cmpR (k_notIn K rfl) (pv 3) (pv 1) (by rfl)) (pw_and1 (pt_val (pe_callB (k_any K rfl rfl) (by rfl) T.z_any (by decide +kernel) (pa_cons (pe_lc (own := [("j", 5)]) rfl nd (k_pil K rfl (pv 1)) (blkOk_by (own := [("j", 5)]) (N := N_leading_states) (sc := defScope s_leading_states) (by decide +kernel)) (fun _ _ _ _ _ => (pg_name (i := 5) nd rfl (.inl rfl))) (fun _ _ _ _ _ => pts_nil) (fun _ _ _ _ _ => (pe_cmpR op_notN (pe_ix (k_ixl K rfl) (pv 4) (pv 5) (fun _ _ => rfl)) pe_non (by rfl)))) pa_nil)))))) (pss_one (ps_expr (k_bm K rfl PySem.F.plainAttrs_list PySem.F.slot_list_append PySem.F.type_list_append mt_append (pv 2) (pa_cons (pv 3) pa_nil)))) pss_nil))))
      (pss_one (ps_ret (pv 2))))), ?_⟩)
  obtain ⟨v1, _, rfl, h1, v2, _, rfl, h2, rfl⟩ := ha
  obtain ⟨ok, hT, hl⟩ := hok
  have sz := size_small ok
  refine sq_set sm (ev_lst0 (R := qN)) fun v G1 H1 e1 n1 => ?_
  obtain ⟨p1, rfl, l1⟩ := locl_of n1
  let pr : Nat → Bool := fun i => !a.2.contains i && Lrx1.canReach a.1 a.2 i
  refine sq (fo_range (n := size a.1) e1.sub (ea_V (ev_meth a.1 (ev_vR rfl (Mo.mo e1.g h1)) ea_nil rfl trivial) ea_nil) (by omega) (fun m σ G2 H2 => ∃ r3 r4, σ = [some v1, some v2, some (.ref p1), r3, r4, none] ∧ Ext G H G2 H2 ∧ LocL qN ((List.range m).filter pr) H p1 G2 H2) (fun G2 H2 e2 => ⟨none, none, rfl, e1.trans e2, l1.ext e2⟩) ?_ ?_)
  · rintro m σ G2 H2 hm sg s2 ⟨r3, r4, rfl, e2, l2⟩
    refine sq_set s2 (ev_call (a.1, m) (ea_R (ev_rows T (ev_vR rfl (Mo.mo e2.g h1))) (ea_V (ev_var rfl) ea_nil)) ⟨ok, hm⟩) fun v4 G3 H3 e3 p4 => ?_
    have e23 := e2.trans e3
    refine st_if e3.sub (b := pr m) (et_is (et_and (et_test (ev_notIn (ev_var rfl) (ev_vR rfl (Mo.mo e23.g h2)))) fun _ => et_B (ev_any (ev_NL (ev_mapL (K := K) (R := qB) (S := qN) (f := fun j => (Lrx1.distance a.1 m j).isSome) (ev_vR rfl (Mo.mo e23.g h2)) hl (fun _ => rfl) fun j hj v G' H' e rv => ?_)))) ?_) (fun b G4 H4 e4 => ?_) fun b G4 H4 e4 => ?_
    · have ev : v = .int (j : Int) := rv
      subst ev
      exact ev_Y (ev_notN nn_N (ev_ixL (ev_vR rfl (Mo.mo e.g p4)) (ev_var rfl) (distF_at (hT.lt j hj))))
    · rw [any_dist ok hT.lt hm]
      show _ = (!a.2.contains m && Lrx1.canReach a.1 a.2 m)
      congr 2
      by_cases q : m ∈ a.2
      · simp [q]
      · simp [q]
    · have e34 := e3.trans e4
      have hlen : ((List.range m).filter pr).length ≤ 1000 := Nat.le_trans (List.length_filter_le _ _) (by rw [List.length_range]; omega)
      refine st_app (a := m) (l2.ext e34) e4.sub (ev_var rfl) (ev_N (ev_var rfl)) hlen fun G5 H5 vs e5 l5 => ?_
      have E5 := l5.up ((e2.trans e34).trans e5)
      refine ⟨G5, (e34.trans e5).g, E5.sub, some (.int (m : Int)), _, rfl, E5, ?_⟩
      rw [List.range_succ, List.filter_append]
      simp only [List.filter_cons, b, List.filter_nil, if_true]
      exact l5
    · have e34 := e3.trans e4
      refine ⟨G4, e34.g, e4.sub, some (.int (m : Int)), _, rfl, e2.trans e34, ?_⟩
      rw [List.range_succ, List.filter_append]
      simp only [List.filter_cons, b, List.filter_nil, Bool.false_eq_true, if_false, List.append_nil]
      exact l2.ext e34
  · rintro σ G2 H2 sg s2 ⟨r3, r4, rfl, e2, l2⟩
    obtain ⟨G3, s3, e3, q3, _⟩ := l2.frz e2
    exact st_ret e3.sub (ev_vR rfl q3) fun v G4 H4 e4 p => k v G4 H4 (e3.trans e4) p
structure GnOk (a : Chain × List Nat × List Int) : Prop where
  ok : COk a.1
  nd : a.2.1.Nodup
  lt : ∀ x ∈ a.2.1, x < size a.1
  lv : Leaves a.1 a.2.1
  len : a.2.2.length = a.2.1.length
  low : ∀ p, p < a.2.1.length → (a.2.2.getD p 0).natAbs < 2 ^ 24
theorem rowR_is {c : Chain} {L : List Nat} {p i : Nat} (h : L[p]? = some i) : ((L.map fun j => -(weight c i j : Int)).set p (-(weight c i i : Int) + (rowSum c i : Int))) = rowR c L p := by
  unfold rowR
  have e : L.getD p 0 = i := getD_at h
  rw [e]
  dsimp only
  congr 1
  have h2 : (L.map fun j => -(weight c i j : Int))[p]? = some (-(weight c i i : Int)) := by rw [List.getElem?_map, h]; rfl
  rw [getD_at h2]
theorem eqs_len (c : Chain) (L : List Nat) (g : List Int) : (eqsR c L g).length = L.length := by simp [eqsR]
theorem eqs_at {c : Chain} {L : List Nat} {g : List Int} {p : Nat} (h : p < L.length) : (eqsR c L g)[p]? = some (rowR c L p ++ [g.getD p 0]) := by
  unfold eqsR
  rw [List.getElem?_map, List.getElem?_range h]
  rfl
/-- the values up to place m -/
def valTo (L : List Nat) (f : Nat → Fraction) (m j : Nat) : Fraction := if j ∈ L.take m then valAt L f j else zero
abbrev sp_values_from_gains (K : PySem.W.Frag) : Sp := spG (α := Chain × List Nat × List Int) (fun a => [aR (qC K) a.1, aR (qL qN) a.2.1, aR (qL qI) a.2.2]) GnOk fun a => isN qF ((states a.1).map (valAt a.2.1 (solF (eqsR a.1 a.2.1 a.2.2))))
abbrev N_values_from_gains : List Str := ["chain", "states", "gains", "equations", "place", "i", "row", "solution", "values", "j"]
abbrev P_values_from_gains : List Str := ["chain", "states", "gains"]
theorem sc_values_from_gains : FnScope N_values_from_gains P_values_from_gains (defScope s_values_from_gains) := ⟨rfl, rfl, rfl, by decide +kernel, rfl, by decide +kernel, by decide +kernel⟩
theorem ok_values_from_gains (T : Tx K mg) : Has P w K mg base 3 (He.ga K "values_from_gains") P_values_from_gains (sp_values_from_gains K) := by
  obtain ⟨⟨_, F_Chain_state_count, b_Chain_state_count⟩, kp_Chain_state_count⟩ := ok_Chain_state_count (P := P) (w := w) (base := base) T
  obtain ⟨⟨_, F_Chain_sum_of, b_Chain_sum_of⟩, kp_Chain_sum_of⟩ := ok_Chain_sum_of (P := P) (w := w) (base := base) T
  obtain ⟨⟨_, F_ratio, b_ratio⟩, kp_ratio⟩ := ok_ratio (P := P) (w := w) (base := base) T
  obtain ⟨⟨_, F_solve, b_solve⟩, kp_solve⟩ := ok_solve (P := P) (w := w) (base := base) T
  have nd := sc_values_from_gains.nd
  refine has_mk T.f_values_from_gains sc_values_from_gains (fun _ => rfl) (fun _ _ _ _ _ _ us hl => match us, hl with | [_, _, _], _ => rfl) (fun cdv E outer s H X hr a G vs Q sm ha hok k => ⟨_, (pss_cons (ps_set (i := 3) nd rfl (.inl rfl) (pe_lst pa_nil))
      (pss_cons (ps_for PassesOwn.never rfl (k_pie K rfl (by rfl) T.z_enumerate (pa_cons (pv 1) pa_nil)) (k_pgt K rfl (n := 2) rfl (pgs_cons (pg_name (i := 4) nd rfl (.inl rfl)) (pgs_cons (pg_name (i := 5) nd rfl (.inr rfl)) pgs_nil))) (pss_cons (ps_setLc (i := 6) (own := [("j", 9)]) rfl nd rfl rfl (sw_true rfl rfl rfl (by decide +kernel)) (k_pil K rfl (pv 1)) (blkOk_by (own := [("j", 9)]) (N := N_values_from_gains) (sc := defScope s_values_from_gains) (by decide +kernel)) (fun _ _ _ _ _ => (pg_name (i := 9) nd rfl (.inl rfl))) (fun _ _ _ _ _ => pts_nil) (fun _ _ _ _ _ => (pe_un un_neg (pe_ix (k_ixl K rfl) (pe_ix (k_ixl K rfl) (k_fld K rfl (pv 0)) (pv 5) (fun _ _ => rfl)) (pv 9) (fun _ _ => rfl)))))
      (pss_cons (ps_augS (pv 6) (pv 4) (k_get K rfl) (pe_meth (pv 0) T.c_Chain T.h_Chain_sum_of F_Chain_sum_of (hr.mono (by decide)) b_Chain_sum_of .nil pass0 (pa_cons (pv 5) pa_nil)) ip_add set_list)
      (pss_one (ps_expr (k_bm K rfl PySem.F.plainAttrs_list PySem.F.slot_list_append PySem.F.type_list_append mt_append (pv 3) (pa_cons (pe_op op_cat (pv 6) (pe_lst (pa_cons (pe_ix (k_ixl K rfl) (pv 2) (pv 4) (fun _ _ => rfl)) pa_nil))) pa_nil)))))))
      (pss_cons (ps_set (i := 7) nd rfl (.inl rfl) (pe_call F_solve (hr.mono (by decide)) (by rfl) T.g_solve kp_solve b_solve .nil pass0 (pa_cons (pv 3) pa_nil)))
      (pss_cons (ps_set (i := 8) nd rfl (.inl rfl) (pe_op op_rep (pe_lst (pa_cons (pe_tup (pa_cons pe_int (pa_cons pe_int pa_nil))) pa_nil)) (pe_meth0 (pv 0) T.c_Chain T.h_Chain_state_count F_Chain_state_count (hr.mono (by decide)) b_Chain_state_count .nil pass0)))
      (pss_cons (ps_for PassesOwn.never rfl (k_pie K rfl (by rfl) T.z_enumerate (pa_cons (pv 1) pa_nil)) (k_pgt K rfl (n := 2) rfl (pgs_cons (pg_name (i := 4) nd rfl (.inl rfl)) (pgs_cons (pg_name (i := 5) nd rfl (.inr rfl)) pgs_nil))) (pss_one (ps_asg (pe_call F_ratio (hr.mono (by decide)) (by rfl) T.g_ratio kp_ratio b_ratio .nil pass0 (pa_cons (pe_ix (k_ixl K rfl) (pv 7) (pv 4) (fun _ _ => rfl)) (pa_cons (pe_ix (k_ixl K rfl) (pv 7) (pe_un un_neg pe_int) (fun _ _ => rfl)) pa_nil))) (pg_sub (pv 8) (pv 5) set_list))))
      (pss_one (ps_ret (pv 8)))))))), ?_⟩)
  obtain ⟨v1, _, rfl, h1, v2, _, rfl, h2, v3, _, rfl, h3, rfl⟩ := ha
  obtain ⟨ok, nd, lt, lv, len, low⟩ := hok
  obtain ⟨c, L, gains⟩ := a
  dsimp only at ok nd lt lv len low h1 h2 h3 k ⊢
  have l8 : L.length ≤ size c := EC.nodup_le _ _ nd lt
  have s8 := ok.le
  refine sq_set sm (ev_lst0 (R := qL qI)) fun v G1 H1 e1 n1 => ?_
  obtain ⟨p1, rfl, l1⟩ := locl_of n1
  refine sq (fo_enum (S := qN) (xs := L) e1.sub (ea_R (ev_vR rfl (Mo.mo e1.g h2)) ea_nil) (fun m σ G2 H2 => ∃ r4 r5 r6, σ = [some v1, some v2, some v3, some (.ref p1), r4, r5, r6, none, none, none] ∧ Ext G H G2 H2 ∧ LocL (qL qI) ((eqsR c L gains).take m) H p1 G2 H2) (fun G2 H2 e2 => ⟨none, none, none, rfl, e1.trans e2, l1.ext e2⟩) ?_ ?_)
  · rintro m i v σ G2 H2 H2' hx sg s2 rv ⟨r4, r5, r6, rfl, e2', l2'⟩ jk
    have ev : v = .int (i : Int) := rv
    subst ev
    have e2 := e2'.jk jk
    have l2 := l2'.jk jk
    have hm : m < L.length := (List.getElem?_eq_some_iff.mp hx).1
    have il : i < size c := lt i (List.mem_of_getElem? hx)
    refine sq_set e2.sub (ev_mapL (K := K) (R := qI) (S := qN) (f := fun j => -(weight c i j : Int)) (ev_vR rfl (Mo.mo e2.g h2)) (by omega) (fun _ => rfl) fun j hj v G' H' e rv => ?_) fun v G3 H3 e3 n3 => ?_
    · have ev : v = .int (j : Int) := rv
      subst ev
      exact ev_Z (ev_neg (ev_ofN (ev_ixL (ev_ixL (ev_rows T (ev_vR rfl (Mo.mo (e2.trans e).g h1))) (ev_var rfl) (weights_at il)) (ev_var rfl) (row_at ok il (lt j hj)))))
    obtain ⟨p2, rfl, l3⟩ := locl_of n3
    have ne := LocL.neq l2 l3
    have e23 := e2.trans e3
    have atm : (L.map fun j => -(weight c i j : Int))[m]? = some (-(weight c i i : Int)) := by rw [List.getElem?_map, hx]; rfl
    refine sq (st_augI (l3.back e2.h) e23.sub (ev_var rfl) (ev_var rfl) atm (ev_meth (c, i) (ev_vR rfl (Mo.mo e23.g h1)) (ea_V (ev_var rfl) ea_nil) rfl ⟨ok, il⟩) fun G4 H4 vs e4 l4 => ?_)
    have E4 := l4.up (e23.trans e4)
    have l1' := ((l2.ext (e3.trans e4)).oth (o := .lst vs) ne)
    rw [rowR_is hx] at l4
    obtain ⟨G5, s5, e5, q5, o5⟩ := l4.frz E4
    have l5 := l1'.oth2 s5 (o5 p1 ne)
    have rl : (rowR c L m).length = L.length := EC.rowR_len L m
    refine st_app (a := rowR c L m ++ [gains.getD m 0]) l5 e5.sub (ev_var rfl) (ev_NL (ev_cat (R := qI) (ev_vR rfl q5) (ev_NL (ev_lst1 (R := qI) (ev_ixL (ev_vR rfl (Mo.mo e5.g h3)) (ev_var rfl) (at_getD 0 (by rw [len]; exact hm))))) (by rw [rl]; show _ + 1 ≤ _; omega))) (by rw [List.length_take, eqs_len]; omega) fun G6 H6 vs' e6 l6 => ?_
    have E6 := l6.up (e5.trans e6)
    refine ⟨G6, (e3.trans e4).g.trans (s5.trans e6.g), E6.sub, _, _, _, rfl, E6, ?_⟩
    rw [take_step (eqs_at hm)]
    exact l6
  · rintro σ G2 H2 sg s2 ⟨r4, r5, r6, rfl, e2, l2⟩
    rw [← eqs_len c L gains, List.take_length] at l2
    obtain ⟨G3, s3, e3, q3, _⟩ := l2.frz e2
    obtain ⟨so, _, _⟩ := EC.solR ok nd lt lv low
    have sol := EC.solveI_ok so
    have so' : SolOk (eqsR c L gains).length (eqsR c L gains) := by rw [eqs_len]; exact so
    dsimp only
    refine sq_set e3.sub (ev_call (eqsR c L gains) (ea_R (ev_vR rfl q3) ea_nil) ⟨by rw [eqs_len]; omega, so'⟩) fun v7 G4 H4 e4 p7 => ?_
    have e34 := e3.trans e4
    have sl : (solveI (eqsR c L gains)).length = L.length + 1 := by rw [sol.is]; simp
    refine sq_set e4.sub (ev_rep (R := qF) (xs := [zero]) (n := size c) (ev_lst1 ev_fr0) (ev_meth c (ev_vR rfl (Mo.mo e34.g h1)) ea_nil rfl trivial) (by simp; omega) (by omega)) fun v G5 H5 e5 n5 => ?_
    obtain ⟨p8, rfl, l5⟩ := locl_of n5
    have e35 := e34.trans e5
    rw [rep_flat, states_rep] at l5
    have l5 := l5.back e34.h
    let f := solF (eqsR c L gains)
    refine sq (fo_enum (S := qN) (xs := L) e5.sub (ea_R (ev_vR rfl (Mo.mo e35.g h2)) ea_nil) (fun m σ G6 H6 => ∃ r4 r5, σ = [some v1, some v2, some v3, some (.ref p1), r4, r5, r6, some v7, some (.ref p8), none] ∧ Ext G H G6 H6 ∧ Same G5 G6 ∧ LocL qF ((states c).map (valTo L f m)) H p8 G6 H6) (fun G6 H6 e6 => ⟨r4, r5, rfl, e35.trans e6, e6.g, ?_⟩) ?_ ?_)
    · have z : (states c).map (valTo L f 0) = (states c).map fun _ => zero := List.map_congr_left fun j _ => by simp [valTo]
      rw [z]
      exact l5.ext e6
    · rintro m i v σ G6 H6 H6' hx sg6 s6 rv ⟨r4', r5', rfl, e6', sg5, l6'⟩ jk
      have ev : v = .int (i : Int) := rv
      subst ev
      have e6 := e6'.jk jk
      have l6 := l6'.jk jk
      have hm : m < L.length := (List.getElem?_eq_some_iff.mp hx).1
      have il : i < size c := lt i (List.mem_of_getElem? hx)
      have q7 : qL qI G6 v7 (solveI (eqsR c L gains)) := Mo.mo (e5.g.trans sg5) p7
      have at1 : (solveI (eqsR c L gains))[m]? = some (numI (eqsR c L gains) m) := by
        rw [sol.is, List.getElem?_append_left (by simpa using hm), List.getElem?_map, List.getElem?_range hm]
        rfl
      have at2 : (solveI (eqsR c L gains))[(solveI (eqsR c L gains)).length - 1]? = some ((denI (eqsR c L gains) : Nat) : Int) := by
        rw [sl, sol.is, List.getElem?_append_right (by simp)]
        simp
      have b6 : bb L.length ≤ 6399 := by
        have := EC.bb_mono (k := L.length) (m := 8) (by omega)
        exact this
      have b24 : 24 ≤ bb L.length := EC.bb_mono (Nat.zero_le _)
      refine st_put (a := f m) (i := i) l6 e6.sub (ev_call (numI (eqsR c L gains) m, denI (eqsR c L gains)) (ea_V (ev_ofZ (ev_ixL (ev_vR rfl q7) (ev_var rfl) at1)) (ea_V (ev_ofZ (ev_lastQ (ev_vR rfl q7) (ev_neg ev_c) at2)) ea_nil)) ⟨sol.pos, bb L.length, by omega, by omega, sol.dlow⟩) (ev_var rfl) (ev_var rfl) (by rw [List.length_map, states_len]; exact il) fun G7 H7 vs e7 l7 => ?_
      have E7 := l7.up (e6.trans e7)
      refine ⟨G7, e7.g, E7.sub, some (.int (m : Int)), some (.int (i : Int)), rfl, E7, sg5.trans e7.g, ?_⟩
      have g : ((states c).map (valTo L f m)).set i (f m) = (states c).map (valTo L f (m + 1)) := by
        refine states_set il ?_ fun j hj => ?_
        · unfold valTo
          rw [if_pos (by rw [take_step hx]; simp)]
          have := EC.valAt_at nd f hm
          rw [getD_at hx] at this
          exact this
        · unfold valTo
          rw [take_step hx]
          simp [hj]
      rw [← g]
      exact l7
    · rintro σ G6 H6 sg6 s6 ⟨r4', r5', rfl, e6, sg5, l6⟩
      have z : (states c).map (valTo L f L.length) = (states c).map (valAt L f) := List.map_congr_left fun j _ => by
        unfold valTo
        rw [List.take_length]
        split
        · rfl
        · exact (EC.valAt_out f (by assumption)).symm
      rw [z] at l6
      refine st_ret s6 (ev_var rfl) fun v G7 H7 e7 p => k v G7 H7 (e6.trans e7) ?_
      rw [show v = _ from p]
      exact locl_to (l6.ext e7)
theorem set_len {c : Chain} (ok : COk c) {T : List Nat} (h : SetOk c T) : T.length ≤ 8 := Nat.le_trans (EC.nodup_le _ _ h.nd h.lt) ok.le
theorem out_len {c : Chain} (ok : COk c) (T : List Nat) : (outside c T).length ≤ 8 := Nat.le_trans (EC.nodup_le _ _ (EC.outside_nd T) EC.outside_lt) ok.le
abbrev StOk (a : Chain × List Nat) : Prop := COk a.1 ∧ SetOk a.1 a.2
abbrev sp_hitting_probabilities (K : PySem.W.Frag) : Sp := spG (α := Chain × List Nat) (fun a => [aR (qC K) a.1, aR (qL qN) a.2]) StOk fun a => isR (qL qF) (hitting a.1 a.2)
abbrev N_hitting_probabilities : List Str := ["chain", "targets", "states", "values", "j", "i"]
abbrev P_hitting_probabilities : List Str := ["chain", "targets"]
theorem sc_hitting_probabilities : FnScope N_hitting_probabilities P_hitting_probabilities (defScope s_hitting_probabilities) := ⟨rfl, rfl, rfl, by decide +kernel, rfl, by decide +kernel, by decide +kernel⟩
theorem ok_hitting_probabilities (T : Tx K mg) : Has P w K mg base 4 (He.ga K "hitting_probabilities") P_hitting_probabilities (sp_hitting_probabilities K) := by
  obtain ⟨⟨_, F_Chain_weight_into, b_Chain_weight_into⟩, kp_Chain_weight_into⟩ := ok_Chain_weight_into (P := P) (w := w) (base := base) T
  obtain ⟨⟨_, F_leading_states, b_leading_states⟩, kp_leading_states⟩ := ok_leading_states (P := P) (w := w) (base := base) T
  obtain ⟨⟨_, F_values_from_gains, b_values_from_gains⟩, kp_values_from_gains⟩ := ok_values_from_gains (P := P) (w := w) (base := base) T
  have nd := sc_hitting_probabilities.nd
  refine has_mk T.f_hitting_probabilities sc_hitting_probabilities (fun _ => rfl) (fun _ _ _ _ _ _ us hl => match us, hl with | [_, _], _ => rfl) (fun cdv E outer s H X hr a G vs Q sm ha hok k => ⟨_, (pss_cons (ps_set (i := 2) nd rfl (.inl rfl) (pe_call F_leading_states (hr.mono (by decide)) (by rfl) T.g_leading_states kp_leading_states b_leading_states .nil pass0 (pa_cons (pv 0) (pa_cons (pv 1) pa_nil))))
      (pss_cons (ps_set (i := 3) nd rfl (.inl rfl) (pe_call F_values_from_gains (hr.mono (by decide)) (by rfl) T.g_values_from_gains kp_values_from_gains b_values_from_gains .nil pass0 (pa_cons (pv 0) (pa_cons (pv 2) (pa_cons (pe_lc (own := [("i", 5)]) rfl nd (k_pil K rfl (pv 2)) (blkOk_by (own := [("i", 5)]) (N := N_hitting_probabilities) (sc := defScope s_hitting_probabilities) (by decide +kernel)) (fun _ _ _ _ _ => (pg_name (i := 5) nd rfl (.inl rfl))) (fun _ _ _ _ _ => pts_nil) (fun _ _ _ _ _ => (pe_meth (pv 0) T.c_Chain T.h_Chain_weight_into F_Chain_weight_into (hr.mono (by decide)) b_Chain_weight_into .nil pass0 (pa_cons (pv 5) (pa_cons (pv 1) pa_nil))))) pa_nil)))))
      (pss_cons (ps_for PassesOwn.never rfl (k_pil K rfl (pv 1)) (pg_name (i := 4) nd rfl (.inl rfl)) (pss_one (ps_asg (pe_tup (pa_cons pe_int (pa_cons pe_int pa_nil))) (pg_sub (pv 3) (pv 4) set_list))))
      (pss_one (ps_ret (pv 3)))))), ?_⟩)
  obtain ⟨v1, _, rfl, h1, v2, _, rfl, h2, rfl⟩ := ha
  obtain ⟨ok, hT⟩ := hok
  obtain ⟨c, U⟩ := a
  dsimp only at ok hT h1 h2 k ⊢
  have t8 := set_len ok hT
  have o8 := out_len ok U
  refine sq_set sm (ev_call (c, U) (ea_R (ev_vR rfl h1) (ea_R (ev_vR rfl h2) ea_nil)) ⟨ok, hT, by show U.length ≤ 1000; omega⟩) fun v3 G1 H1 e1 p3 => ?_
  have gl : (gainsH c U).length = (outside c U).length := by simp [gainsH]
  refine sq_set e1.sub (ev_call (c, outside c U, gainsH c U) (ea_R (ev_vR rfl (Mo.mo e1.g h1)) (ea_R (ev_vR rfl p3) (ea_R (ev_NL (ev_mapL (K := K) (R := qI) (S := qN) (f := fun i => (((U.map (weight c i)).sum : Nat) : Int)) (ev_vR rfl p3) (by omega) (fun _ => rfl) fun i hi v G' H' e rv => ?_)) ea_nil))) ⟨ok, EC.outside_nd U, EC.outside_lt, EC.outside_leaves ok hT.lt, gl, EC.gainsH_low ok hT⟩) fun v G2 H2 e2 n2 => ?_
  · have ev : v = .int (i : Int) := rv
    subst ev
    exact ev_Z (ev_meth (c, i, U) (ev_vR rfl (Mo.mo (e1.trans e).g h1)) (ea_V (ev_var rfl) (ea_R (ev_vR rfl (Mo.mo (e1.trans e).g h2)) ea_nil)) rfl ⟨ok, EC.outside_lt i hi, hT.lt, by show U.length ≤ 1000; omega⟩)
  obtain ⟨p4, rfl, l2⟩ := locl_of n2
  have l2 := l2.back e1.h
  have e12 := e1.trans e2
  let f := valAt (outside c U) (solF (eqsR c (outside c U) (gainsH c U)))
  let g : Nat → Nat → Fraction := fun m i => if i ∈ U.take m then one else f i
  refine sq (fo_list e2.sub (ev_vR rfl (Mo.mo e12.g h2)) (fun m σ G3 H3 => ∃ r4, σ = [some v1, some v2, some v3, some (.ref p4), r4, none] ∧ Ext G H G3 H3 ∧ LocL qF ((states c).map (g m)) H p4 G3 H3) (fun G3 H3 e3 => ⟨none, rfl, e12.trans e3, ?_⟩) ?_ ?_)
  · have z : (states c).map (g 0) = (states c).map f := List.map_congr_left fun j _ => by simp [g]
    rw [z]
    exact l2.ext e3
  · rintro m x v σ G3 H3 hx sg s3 rv ⟨r4, rfl, e3, l3⟩
    have ev : v = .int (x : Int) := rv
    subst ev
    have xl := hT.lt x (List.mem_of_getElem? hx)
    refine st_put (a := one) (i := x) l3 e3.sub ev_fr1 (ev_var rfl) (ev_var rfl) (by rw [List.length_map, states_len]; exact xl) fun G4 H4 vs e4 l4 => ?_
    have E4 := l4.up (e3.trans e4)
    refine ⟨G4, e4.g, E4.sub, some (.int (x : Int)), rfl, E4, ?_⟩
    have z : ((states c).map (g m)).set x one = (states c).map (g (m + 1)) := by
      refine states_set xl ?_ fun j hj => ?_
      · show (if _ then _ else _) = _
        rw [if_pos (by rw [take_step hx]; simp)]
      · show (if _ then _ else _) = (if _ then _ else _)
        rw [take_step hx]
        simp [hj]
    rw [← z]
    exact l4
  · rintro σ G3 H3 sg s3 ⟨r4, rfl, e3, l3⟩
    have z : (states c).map (g U.length) = hitting c U := by
      rw [EC.hitting_is ok hT]
      refine List.map_congr_left fun j _ => ?_
      show (if _ then _ else _) = _
      rw [List.take_length]
    rw [z] at l3
    obtain ⟨G4, s4, e4, q4, _⟩ := l3.frz e3
    exact st_ret e4.sub (ev_vR rfl q4) fun v G5 H5 e5 p => k v G5 H5 (e4.trans e5) p
def timesF (c : Chain) (T : List Nat) : List (Option Fraction) := (states c).map (hittingTime c T)
theorem ev_optS {α : Type} {R : Rel α} {σ : L2.St} {G H : Hp} {te : TE} {a : α} (h : Ev te σ G H (isR R a)) : Ev te σ G H (isR (qO R) (some a)) := h
theorem ev_optN {α : Type} {R : Rel α} [Mo R] {σ : L2.St} {G H : Hp} : Ev (tC .non) σ G H (isR (qO R) (none : Option α)) := ev_toR (R := qO R) ev_c fun _ => rfl
abbrev sp_hitting_times (K : PySem.W.Frag) : Sp := spG (α := Chain × List Nat) (fun a => [aR (qC K) a.1, aR (qL qN) a.2]) StOk fun a => isR (qL (qO qF)) (timesF a.1 a.2)
abbrev N_hitting_times : List Str := ["chain", "targets", "chances", "certain", "states", "times", "i"]
abbrev P_hitting_times : List Str := ["chain", "targets"]
theorem sc_hitting_times : FnScope N_hitting_times P_hitting_times (defScope s_hitting_times) := ⟨rfl, rfl, rfl, by decide +kernel, rfl, by decide +kernel, by decide +kernel⟩
theorem ok_hitting_times (T : Tx K mg) : Has P w K mg base 5 (He.ga K "hitting_times") P_hitting_times (sp_hitting_times K) := by
  obtain ⟨⟨_, F_Chain_state_count, b_Chain_state_count⟩, kp_Chain_state_count⟩ := ok_Chain_state_count (P := P) (w := w) (base := base) T
  obtain ⟨⟨_, F_Chain_stay_in, b_Chain_stay_in⟩, kp_Chain_stay_in⟩ := ok_Chain_stay_in (P := P) (w := w) (base := base) T
  obtain ⟨⟨_, F_Chain_sum_of, b_Chain_sum_of⟩, kp_Chain_sum_of⟩ := ok_Chain_sum_of (P := P) (w := w) (base := base) T
  obtain ⟨⟨_, F_hitting_probabilities, b_hitting_probabilities⟩, kp_hitting_probabilities⟩ := ok_hitting_probabilities (P := P) (w := w) (base := base) T
  obtain ⟨⟨_, F_values_from_gains, b_values_from_gains⟩, kp_values_from_gains⟩ := ok_values_from_gains (P := P) (w := w) (base := base) T
  have nd := sc_hitting_times.nd
  refine has_mk T.f_hitting_times sc_hitting_times (fun _ => rfl) (fun _ _ _ _ _ _ us hl => match us, hl with | [_, _], _ => rfl) (fun cdv E outer s H X hr a G vs Q sm ha hok k => ⟨_, (pss_cons (ps_set (i := 2) nd rfl (.inr rfl) (pe_call F_hitting_probabilities (hr.mono (by decide)) (by rfl) T.g_hitting_probabilities kp_hitting_probabilities b_hitting_probabilities .nil pass0 (pa_cons (pv 0) (pa_cons (pv 1) pa_nil))))
      (pss_cons (ps_set (i := 3) nd rfl (.inr rfl) (pe_lc (own := [("i", 6)]) rfl nd (pi_range1 (by rfl) T.z_range (pa_cons (pe_meth0 (pv 0) T.c_Chain T.h_Chain_state_count F_Chain_state_count (hr.mono (by decide)) b_Chain_state_count .nil pass0) pa_nil)) (blkOk_by (own := [("i", 6)]) (N := N_hitting_times) (sc := defScope s_hitting_times) (by decide +kernel)) (fun _ _ _ _ _ => (pg_name (i := 6) nd rfl (.inl rfl))) (fun _ _ _ _ _ => pts_one (pt_cmpR (k_eqD K rfl hr.units) (pe_ix (k_ixl K rfl) (pv 2) (pv 6) (fun _ _ => rfl)) (pe_tup (pa_cons pe_int (pa_cons pe_int pa_nil))) (by rfl))) (fun _ _ _ _ _ => (pv 6))))
      (pss_cons (ps_setLc (i := 4) (own := [("i", 6)]) rfl nd rfl rfl (sw_true rfl rfl rfl (by decide +kernel)) (k_pil K rfl (pv 3)) (blkOk_by (own := [("i", 6)]) (N := N_hitting_times) (sc := defScope s_hitting_times) (by decide +kernel)) (fun _ _ _ _ _ => (pg_name (i := 6) nd rfl (.inl rfl))) (fun _ _ _ _ _ => pts_one (pt_cmpR (k_notIn K rfl) (pv 6) (pv 1) (by rfl))) (fun _ _ _ _ _ => (pv 6)))
      (pss_cons (ps_set (i := 5) nd rfl (.inr rfl) (pe_call F_values_from_gains (hr.mono (by decide)) (by rfl) T.g_values_from_gains kp_values_from_gains b_values_from_gains .nil pass0 (pa_cons (pv 0) (pa_cons (pv 4) (pa_cons (pe_lc (own := [("i", 6)]) rfl nd (k_pil K rfl (pv 4)) (blkOk_by (own := [("i", 6)]) (N := N_hitting_times) (sc := defScope s_hitting_times) (by decide +kernel)) (fun _ _ _ _ _ => (pg_name (i := 6) nd rfl (.inl rfl))) (fun _ _ _ _ _ => pts_nil) (fun _ _ _ _ _ => (pe_op op_fdivW (pe_meth (pv 0) T.c_Chain T.h_Chain_sum_of F_Chain_sum_of (hr.mono (by decide)) b_Chain_sum_of .nil pass0 (pa_cons (pv 6) pa_nil)) (pe_ix (k_ixt K rfl) (pe_meth (pv 0) T.c_Chain T.h_Chain_stay_in F_Chain_stay_in (hr.mono (by decide)) b_Chain_stay_in .nil pass0 (pa_cons (pv 6) pa_nil)) pe_int (fun _ _ => rfl))))) pa_nil)))))
      (pss_one (ps_ret (pe_lc (own := [("i", 6)]) rfl nd (pi_range1 (by rfl) T.z_range (pa_cons (pe_meth0 (pv 0) T.c_Chain T.h_Chain_state_count F_Chain_state_count (hr.mono (by decide)) b_Chain_state_count .nil pass0) pa_nil)) (blkOk_by (own := [("i", 6)]) (N := N_hitting_times) (sc := defScope s_hitting_times) (by decide +kernel)) (fun _ _ _ _ _ => (pg_name (i := 6) nd rfl (.inl rfl))) (fun _ _ _ _ _ => pts_nil) (fun _ _ _ _ _ => (pe_ifExp (pt_cmpR (k_in K rfl) (pv 6) (pv 3) (by rfl)) (pe_ix (k_ixl K rfl) (pv 5) (pv 6) (fun _ _ => rfl)) pe_non))))))))), ?_⟩)
  obtain ⟨v1, _, rfl, h1, v2, _, rfl, h2, rfl⟩ := ha
  obtain ⟨ok, hT⟩ := hok
  obtain ⟨c, U⟩ := a
  dsimp only at ok hT h1 h2 k ⊢
  have t8 := set_len ok hT
  have s8 := ok.le
  refine sq_set sm (ev_call (c, U) (ea_R (ev_vR rfl h1) (ea_R (ev_vR rfl h2) ea_nil)) ⟨ok, hT⟩) fun v3 G1 H1 e1 p3 => ?_
  have hat : ∀ i, i < size c → (hitting c U)[i]? = some (entry (hitting c U) i) := fun i hi => at_getD zero (by rw [EC.hitting_is ok hT, List.length_map, states_len]; exact hi)
  refine sq_set e1.sub (ev_NL (ev_lcR (R := qN) (f := fun i => i) (p := fun i => entry (hitting c U) i == one) (ea_V (ev_meth c (ev_vR rfl (Mo.mo e1.g h1)) ea_nil rfl trivial) ea_nil) (size_small ok) (fun _ => rfl) fun i hi G' H' e => ⟨?_, fun _ => ev_N (ev_var rfl)⟩)) fun v4 G2 H2 e2 p4 => ?_
  · exact et_is (et_test (ev_eqF (ev_ixL (ev_vR rfl (Mo.mo e.g p3)) (ev_var rfl) (hat i hi)) ev_fr1)) rfl
  rw [List.map_id'] at p4
  have p4 : isR (qL qN) (certain c U) H1 v4 G2 H2 := p4
  have e12 := e1.trans e2
  have cl : (certain c U).length ≤ 8 := Nat.le_trans (Nat.le_trans (List.length_filter_le _ _) (by rw [states_len]; exact Nat.le_refl _)) s8
  refine sq_set e2.sub (ev_NL (ev_lcL (K := K) (R := qN) (S := qN) (f := fun i => i) (p := fun i => !U.contains i) (ev_vR rfl p4) (by omega) (fun _ => rfl) fun i hi v G' H' e rv => ?_)) fun v5 G3 H3 e3 p5 => ?_
  · have ev : v = .int (i : Int) := rv
    subst ev
    refine ⟨et_is (et_test (ev_notIn (ev_var rfl) (ev_vR rfl (Mo.mo (e12.trans e).g h2)))) ?_, fun _ => ev_N (ev_var rfl)⟩
    by_cases q : i ∈ U <;> simp [q]
  rw [List.map_id', EC.surely_is ok hT] at p5
  have e13 := e12.trans e3
  have gl : (gainsT c U).length = (surely c U).length := by simp [gainsT]
  have sl : (surely c U).length ≤ 8 := Nat.le_trans (EC.nodup_le _ _ (EC.surely_nd U) EC.surely_lt) s8
  have lv := EC.surely_leaves ok hT
  refine sq_set e3.sub (ev_NL (ev_call (c, surely c U, gainsT c U) (ea_R (ev_vR rfl (Mo.mo e13.g h1)) (ea_R (ev_vR rfl p5) (ea_R (ev_NL (ev_mapL (K := K) (R := qI) (S := qN) (f := EC.gainT c) (ev_vR rfl p5) (by omega) (fun _ => rfl) fun i hi v G' H' e rv => ?_)) ea_nil))) ⟨ok, EC.surely_nd U, EC.surely_lt, lv, gl, EC.gainsT_low ok⟩)) fun v6 G4 H4 e4 p6 => ?_
  · have ev : v = .int (i : Int) := rv
    subst ev
    have il := EC.surely_lt i hi
    have nz : rowSum c i ≠ 0 := EC.leaves_sum ok EC.surely_lt lv hi
    have lo := EC.rowSum_low ok i
    have hc := Mo.mo (e13.trans e).g h1
    have e1 : (stayF c i).den = if c.isContinuous then rowSum c i else 1 := by
      unfold stayF
      split <;> rfl
    refine ev_Z (ev_V (ev_I (ev_meth (c, i) (ev_vR rfl hc) (ea_V (ev_var rfl) ea_nil) rfl ⟨ok, il⟩) (ev_den (ev_meth (c, i) (ev_vR rfl hc) (ea_V (ev_var rfl) ea_nil) rfl ⟨ok, il⟩) ev_c) ?_) ?_)
    · refine wide_div (b := 24) ?_ ?_ (by decide) (by decide)
      · show (0 : Int) < ((stayF c i).den : Int)
        rw [e1]
        split <;> omega
      · show ((stayF c i).den : Int).natAbs < _
        rw [e1]
        split <;> omega
    · show V.int ((rowSum c i : Int) / ((stayF c i).den : Int)) = V.int (EC.gainT c i)
      rw [e1]
      unfold EC.gainT
      split
      · rw [Int.ediv_self (by omega)]
      · rw [show ((1 : Nat) : Int) = 1 from rfl, Int.ediv_one]
  have e14 := e13.trans e4
  refine st_ret e4.sub (ev_NL (ev_mapR (R := qO qF) (f := hittingTime c U) (ea_V (ev_meth c (ev_vR rfl (Mo.mo e14.g h1)) ea_nil rfl trivial) ea_nil) (size_small ok) (fun _ => rfl) fun i hi G' H' e => ?_)) fun v G5 H5 e5 p => k v G5 H5 (e14.trans e5) p
  rw [EC.hittingTime_is ok hT hi]
  refine ev_if (et_test (ev_in (ev_var rfl) (ev_vR rfl (Mo.mo ((e3.trans e4).trans e).g p4)))) (fun b => ?_) fun b => ?_
  · rw [if_pos (of_decide_eq_true b)]
    exact ev_optS (ev_ixL (ev_vR rfl (Mo.mo e.g p6)) (ev_var rfl) (states_at hi))
  · rw [if_neg (of_decide_eq_false b)]
    exact ev_optN
abbrev sp_first_entries (K : PySem.W.Frag) : Sp := spG (α := Chain × List Nat × Nat) (fun a => [aR (qC K) a.1, aR (qL qN) a.2.1, aV (.int (a.2.2 : Int))]) (fun a => COk a.1 ∧ SetOk a.1 a.2.1 ∧ a.2.2 < size a.1) fun a => isR (qL qF) ((states a.1).map (EC.firstF a.1 a.2.1 a.2.2))
abbrev N_first_entries : List Str := ["chain", "members", "j", "states", "i"]
abbrev P_first_entries : List Str := ["chain", "members", "j"]
theorem sc_first_entries : FnScope N_first_entries P_first_entries (defScope s_first_entries) := ⟨rfl, rfl, rfl, by decide +kernel, rfl, by decide +kernel, by decide +kernel⟩
theorem ok_first_entries (T : Tx K mg) : Has P w K mg base 4 (He.ga K "first_entries") P_first_entries (sp_first_entries K) := by
  obtain ⟨⟨_, F_leading_states, b_leading_states⟩, kp_leading_states⟩ := ok_leading_states (P := P) (w := w) (base := base) T
  obtain ⟨⟨_, F_values_from_gains, b_values_from_gains⟩, kp_values_from_gains⟩ := ok_values_from_gains (P := P) (w := w) (base := base) T
  have nd := sc_first_entries.nd
  refine has_mk T.f_first_entries sc_first_entries (fun _ => rfl) (fun _ _ _ _ _ _ us hl => match us, hl with | [_, _, _], _ => rfl) (fun cdv E outer s H X hr a G vs Q sm ha hok k => ⟨_, (pss_cons (ps_set (i := 3) nd rfl (.inl rfl) (pe_call F_leading_states (hr.mono (by decide)) (by rfl) T.g_leading_states kp_leading_states b_leading_states .nil pass0 (pa_cons (pv 0) (pa_cons (pv 1) pa_nil))))
      (pss_one (ps_ret (pe_call F_values_from_gains (hr.mono (by decide)) (by rfl) T.g_values_from_gains kp_values_from_gains b_values_from_gains .nil pass0 (pa_cons (pv 0) (pa_cons (pv 3) (pa_cons (pe_lc (own := [("i", 4)]) rfl nd (k_pil K rfl (pv 3)) (blkOk_by (own := [("i", 4)]) (N := N_first_entries) (sc := defScope s_first_entries) (by decide +kernel)) (fun _ _ _ _ _ => (pg_name (i := 4) nd rfl (.inl rfl))) (fun _ _ _ _ _ => pts_nil) (fun _ _ _ _ _ => (pe_ix (k_ixl K rfl) (pe_ix (k_ixl K rfl) (k_fld K rfl (pv 0)) (pv 4) (fun _ _ => rfl)) (pv 2) (fun _ _ => rfl)))) pa_nil))))))), ?_⟩)
  obtain ⟨v1, _, rfl, h1, v2, _, rfl, h2, _, _, rfl, rfl, rfl⟩ := ha
  obtain ⟨ok, hT, hj⟩ := hok
  obtain ⟨c, U, j⟩ := a
  dsimp only at ok hT hj h1 h2 k ⊢
  have t8 := set_len ok hT
  have o8 := out_len ok U
  refine sq_set sm (ev_call (c, U) (ea_R (ev_vR rfl h1) (ea_R (ev_vR rfl h2) ea_nil)) ⟨ok, hT, by show U.length ≤ 1000; omega⟩) fun v3 G1 H1 e1 p3 => ?_
  have gl : (gainsW c U j).length = (outside c U).length := by simp [gainsW]
  refine st_ret e1.sub (ev_NL (ev_call (c, outside c U, gainsW c U j) (ea_R (ev_vR rfl (Mo.mo e1.g h1)) (ea_R (ev_vR rfl p3) (ea_R (ev_NL (ev_mapL (K := K) (R := qI) (S := qN) (f := fun i => (weight c i j : Int)) (ev_vR rfl p3) (by omega) (fun _ => rfl) fun i hi v G' H' e rv => ?_)) ea_nil))) ⟨ok, EC.outside_nd U, EC.outside_lt, EC.outside_leaves ok hT.lt, gl, EC.gainsW_low ok j⟩)) fun v G2 H2 e2 p => k v G2 H2 (e1.trans e2) p
  have ev : v = .int (i : Int) := rv
  subst ev
  exact ev_Z (ev_ofN (ev_ixL (ev_ixL (ev_rows T (ev_vR rfl (Mo.mo (e1.trans e).g h1))) (ev_var rfl) (weights_at (EC.outside_lt i hi))) (ev_var rfl) (row_at ok (EC.outside_lt i hi) hj)))
end
end ER
/-! ## ErG -/
/-! stationary distributions -/
namespace ER
open PySem PySem.Spec PyProof.Rows
open L2 hiding St
open Lrx1 (Fraction Chain reduce size weight rowSum jump greatestRate one zero states entry hitting classOf isClosed closedClasses stationaryOf longRun)
open EC (Red FrOk COk CC yI xI totI statF scl rowC eqsC gainsS SetOk solveI numI denI SolOk valAt shareTo statV partF)
section
variable {P : Program} {w : World} {K : PySem.W.Frag} {mg : Str → Option Value} {base : Heap}
section
variable {α : Type} {R : Rel α} [Mo R] {σ : L2.St} {G H : Hp} {ta tb : TE}
theorem cut_tail (x : V) (xs : List V) : cutV (x :: xs) (some 1) none = xs := by
  have h1 : HT.sIx (x :: xs).length 0 (some 1) = 1 := by
    show (if (1 : Int) < 0 then ((1 : Int) + ((x :: xs).length : Int)).toNat else min (1 : Int).toNat (x :: xs).length) = 1
    rw [if_neg (by decide), List.length_cons]
    show min 1 (xs.length + 1) = 1
    omega
  unfold cutV
  rw [h1, HT.sIx_none]
  simp
theorem cut_init (x : V) (xs : List V) : cutV (xs ++ [x]) none (some (-1)) = xs := by
  unfold cutV
  rw [HT.sIx_none]
  have h : HT.sIx (xs ++ [x]).length (xs ++ [x]).length (some (-1)) = xs.length := by
    show (if (-1 : Int) < 0 then ((-1 : Int) + ((xs ++ [x]).length : Int)).toNat else min (-1 : Int).toNat (xs ++ [x]).length) = _
    rw [if_pos (by decide), List.length_append, List.length_singleton]
    omega
  rw [h]
  simp
theorem ev_slTail {x : α} {xs : List α} (ha : Ev ta σ G H (isR (qL R) (x :: xs))) : Ev (tSl (rSlL K) ta (tPart (tC (.int 1))) tNoPart) σ G H (isN R xs) := fun G1 H1 e Q q =>
  ha G1 H1 e _ fun v G2 H2 e2 ⟨p, vs, hv, hp, pr⟩ => ⟨1, rfl, p, vs, hv, SqL.of (e2.sub _ _ hp), fun l hl => by
    have g := none_of e2.sub hl
    cases pr with
    | cons r0 pr =>
      rw [cut_tail]
      exact q _ G2 _ (e2.loc (none_of e2.h hl) g) ⟨l, _, rfl, none_of e2.h hl, g, upd_same, pr⟩⟩
theorem paired_init {α' β' : Type} {F : α' → β' → Prop} : ∀ {ys : List β'} {y : β'} {vs : List α'}, Paired F vs (ys ++ [y]) → ∃ us u, vs = us ++ [u] ∧ Paired F us ys
  | [], y, _, .cons r .nil => ⟨[], _, rfl, .nil⟩
  | z :: ys, y, _, .cons r p => by
    obtain ⟨us, u, e, p'⟩ := paired_init p
    exact ⟨_ :: us, u, by rw [e]; rfl, .cons r p'⟩
theorem ev_slInit {x : α} {xs : List α} (ha : Ev ta σ G H (isR (qL R) (xs ++ [x]))) (hb : ∀ G H, Same G H → Ev tb σ G H (isV (.int (-1)))) : Ev (tSl (rSlL K) ta tNoPart (tPart tb)) σ G H (isN R xs) := fun G1 H1 e Q q =>
  ha G1 H1 e _ fun v G2 H2 e2 ⟨p, vs, hv, hp, pr⟩ => hb G2 H2 e2.sub G2 H2 (.refl e2.sub) _ fun y G3 H3 e3 hy => ⟨-1, hy, p, vs, hv, SqL.of (e3.h _ _ (e2.sub _ _ hp)), fun l hl => by
    have g := none_of e3.sub hl
    have hl2 := none_of (e2.trans e3).h hl
    obtain ⟨us, u, ev, p'⟩ := paired_init pr
    subst ev
    rw [cut_init]
    exact q _ G3 _ ((e2.trans e3).loc hl2 g) ⟨l, _, rfl, hl2, g, upd_same, paired_mono (fun _ _ => Mo.mo e3.g) p'⟩⟩
end
theorem rowC_is {c : Chain} {L : List Nat} {p j : Nat} (h : L[p]? = some j) : ((L.map fun i => -(weight c i j : Int)).set p (-(weight c j j : Int) + (rowSum c j : Int))) = rowC c L p := by
  unfold rowC
  have e : L.getD p 0 = j := getD_at h
  rw [e]
  dsimp only
  congr 1
  have h2 : (L.map fun i => -(weight c i j : Int))[p]? = some (-(weight c j j : Int)) := by rw [List.getElem?_map, h]; rfl
  rw [getD_at h2]
theorem eqsC_len (c : Chain) (L : List Nat) (g : List Int) : (eqsC c L g).length = L.length := by simp [eqsC]
theorem eqsC_at {c : Chain} {L : List Nat} {g : List Int} {p : Nat} (h : p < L.length) : (eqsC c L g)[p]? = some (rowC c L p ++ [g.getD p 0]) := by
  unfold eqsC
  rw [List.getElem?_map, List.getElem?_range h]
  rfl
abbrev BnArg : Type := Chain × Nat × List Nat
abbrev BnOk (a : BnArg) : Prop := COk a.1 ∧ CC a.1 a.2.1 a.2.2
abbrev sp_balanced_numbers (K : PySem.W.Frag) : Sp := spG (α := BnArg) (fun a => [aR (qC K) a.1, aR (qL qN) (a.2.1 :: a.2.2)]) BnOk fun a => isR (qL qI) ((List.range (a.2.2.length + 1)).map (yI a.1 a.2.1 a.2.2))
abbrev N_balanced_numbers : List Str := ["chain", "members", "first", "others", "equations", "place", "j", "row", "solution", "i"]
abbrev P_balanced_numbers : List Str := ["chain", "members"]
theorem sc_balanced_numbers : FnScope N_balanced_numbers P_balanced_numbers (defScope s_balanced_numbers) := ⟨rfl, rfl, rfl, by decide +kernel, rfl, by decide +kernel, by decide +kernel⟩
theorem ok_balanced_numbers (T : Tx K mg) : Has P w K mg base 3 (He.ga K "balanced_numbers") P_balanced_numbers (sp_balanced_numbers K) := by
  obtain ⟨⟨_, F_Chain_sum_of, b_Chain_sum_of⟩, kp_Chain_sum_of⟩ := ok_Chain_sum_of (P := P) (w := w) (base := base) T
  obtain ⟨⟨_, F_solve, b_solve⟩, kp_solve⟩ := ok_solve (P := P) (w := w) (base := base) T
  have nd := sc_balanced_numbers.nd
  refine has_mk T.f_balanced_numbers sc_balanced_numbers (fun _ => rfl) (fun _ _ _ _ _ _ us hl => match us, hl with | [_, _], _ => rfl) (fun cdv E outer s H X hr a G vs Q sm ha hok k => ⟨_, (pss_cons (ps_set (i := 2) nd rfl (.inl rfl) (pe_ix (k_ixl K rfl) (pv 1) pe_int (fun _ _ => rfl)))
      (pss_cons (ps_set (i := 3) nd rfl (.inl rfl) (pe_slice (k_sl K rfl) (pv 1) (po_some pe_int) po_none))
      (pss_cons (ps_set (i := 4) nd rfl (.inl rfl) (pe_lst pa_nil))
      (pss_cons (ps_for PassesOwn.never rfl (k_pie K rfl (by rfl) T.z_enumerate (pa_cons (pv 3) pa_nil)) (k_pgt K rfl (n := 2) rfl (pgs_cons (pg_name (i := 5) nd rfl (.inl rfl)) (pgs_cons (pg_name (i := 6) nd rfl (.inr rfl)) pgs_nil))) (pss_cons (ps_setLc (i := 7) (own := [("i", 9)]) rfl nd rfl rfl (sw_true rfl rfl rfl (by decide +kernel)) (k_pil K rfl (pv 3)) (blkOk_by (own := [("i", 9)]) (N := N_balanced_numbers) (sc := defScope s_balanced_numbers) (by decide +kernel)) (fun _ _ _ _ _ => (pg_name (i := 9) nd rfl (.inl rfl))) (fun _ _ _ _ _ => pts_nil) (fun _ _ _ _ _ => (pe_un un_neg (pe_ix (k_ixl K rfl) (pe_ix (k_ixl K rfl) (k_fld K rfl (pv 0)) (pv 9) (fun _ _ => rfl)) (pv 6) (fun _ _ => rfl)))))
      (pss_cons (ps_augS (pv 7) (pv 5) (k_get K rfl) (pe_meth (pv 0) T.c_Chain T.h_Chain_sum_of F_Chain_sum_of (hr.mono (by decide)) b_Chain_sum_of .nil pass0 (pa_cons (pv 6) pa_nil)) ip_add set_list)
      (pss_one (ps_expr (k_bm K rfl PySem.F.plainAttrs_list PySem.F.slot_list_append PySem.F.type_list_append mt_append (pv 4) (pa_cons (pe_op op_cat (pv 7) (pe_lst (pa_cons (pe_ix (k_ixl K rfl) (pe_ix (k_ixl K rfl) (k_fld K rfl (pv 0)) (pv 2) (fun _ _ => rfl)) (pv 6) (fun _ _ => rfl)) pa_nil))) pa_nil)))))))
      (pss_cons (ps_set (i := 8) nd rfl (.inl rfl) (pe_call F_solve (hr.mono (by decide)) (by rfl) T.g_solve kp_solve b_solve .nil pass0 (pa_cons (pv 4) pa_nil)))
      (pss_one (ps_ret (pe_op op_cat (pe_lst (pa_cons (pe_ix (k_ixl K rfl) (pv 8) (pe_un un_neg pe_int) (fun _ _ => rfl)) pa_nil)) (pe_slice (k_sl K rfl) (pv 8) po_none (po_some (pe_un un_neg pe_int))))))))))), ?_⟩)
  obtain ⟨v1, _, rfl, h1, v2, _, rfl, h2, rfl⟩ := ha
  obtain ⟨ok, cc⟩ := hok
  obtain ⟨c, f, o⟩ := a
  dsimp only at ok cc h1 h2 k ⊢
  have l7 := EC.CC_len ok cc
  have fl : f < size c := cc.lt f (List.mem_cons_self ..)
  have ol := EC.o_lt cc
  refine sq_set sm (ev_ixL (i := 0) (ev_vR rfl h2) ev_c rfl) fun v G1 H1 e1 p => ?_
  have ev : v = .int (f : Int) := p
  subst ev
  refine sq_set e1.sub (ev_NL (ev_slTail (ev_vR rfl (Mo.mo e1.g h2)))) fun v4 G2 H2 e2 p4 => ?_
  have e12 := e1.trans e2
  refine sq_set e2.sub (ev_lst0 (R := qL qI)) fun v G3 H3 e3 n3 => ?_
  obtain ⟨p1, rfl, l3⟩ := locl_of n3
  have l3 := l3.back e12.h
  have e13 := e12.trans e3
  refine sq (fo_enum (S := qN) (xs := o) e3.sub (ea_R (ev_vR rfl (Mo.mo e3.g p4)) ea_nil) (fun m σ G4 H4 => ∃ r5 r6 r7, σ = [some v1, some v2, some (.int (f : Int)), some v4, some (.ref p1), r5, r6, r7, none, none] ∧ Ext G H G4 H4 ∧ Same G3 G4 ∧ LocL (qL qI) ((eqsC c o (gainsS c f o)).take m) H p1 G4 H4) (fun G4 H4 e4 => ⟨none, none, none, rfl, e13.trans e4, e4.g, l3.ext e4⟩) ?_ ?_)
  · rintro m j v σ G4 H4 H4' hx sg s4 rv ⟨r5, r6, r7, rfl, e4', sg3, l4'⟩ jk
    have ev : v = .int (j : Int) := rv
    subst ev
    have e4 := e4'.jk jk
    have l4 := l4'.jk jk
    have hm : m < o.length := (List.getElem?_eq_some_iff.mp hx).1
    have jl : j < size c := ol j (List.mem_of_getElem? hx)
    have q4 : qL qN G4 v4 o := Mo.mo (e3.g.trans sg3) p4
    refine sq_set e4.sub (ev_mapL (K := K) (R := qI) (S := qN) (f := fun i => -(weight c i j : Int)) (ev_vR rfl q4) (by omega) (fun _ => rfl) fun i hi v G' H' e rv => ?_) fun v G5 H5 e5 n5 => ?_
    · have ev : v = .int (i : Int) := rv
      subst ev
      exact ev_Z (ev_neg (ev_ofN (ev_ixL (ev_ixL (ev_rows T (ev_vR rfl (Mo.mo (e4.trans e).g h1))) (ev_var rfl) (weights_at (ol i hi))) (ev_var rfl) (row_at ok (ol i hi) jl))))
    obtain ⟨p2, rfl, l5⟩ := locl_of n5
    have ne := LocL.neq l4 l5
    have e45 := e4.trans e5
    have atm : (o.map fun i => -(weight c i j : Int))[m]? = some (-(weight c j j : Int)) := by rw [List.getElem?_map, hx]; rfl
    refine sq (st_augI (l5.back e4.h) e45.sub (ev_var rfl) (ev_var rfl) atm (ev_meth (c, j) (ev_vR rfl (Mo.mo e45.g h1)) (ea_V (ev_var rfl) ea_nil) rfl ⟨ok, jl⟩) fun G6 H6 vs e6 l6 => ?_)
    have E6 := l6.up (e45.trans e6)
    have l4'' := ((l4.ext (e5.trans e6)).oth (o := .lst vs) ne)
    rw [rowC_is hx] at l6
    obtain ⟨G7, s7, e7, q7, o7⟩ := l6.frz E6
    have l7' := l4''.oth2 s7 (o7 p1 ne)
    have rl : (rowC c o m).length = o.length := EC.rowC_len o m
    have gat : (gainsS c f o).getD m 0 = (weight c f j : Int) := by
      have := getD_at (l := gainsS c f o) (i := m) (x := (weight c f j : Int)) (d := 0) (by unfold gainsS; rw [List.getElem?_map, hx]; rfl)
      exact this
    refine st_app (a := rowC c o m ++ [(gainsS c f o).getD m 0]) l7' e7.sub (ev_var rfl) (ev_NL (ev_cat (R := qI) (ev_vR rfl q7) (ev_NL (ev_lst1 (R := qI) (by rw [gat]; exact ev_Z (ev_ofN (ev_ixL (ev_ixL (ev_rows T (ev_vR rfl (Mo.mo e7.g h1))) (ev_var rfl) (weights_at fl)) (ev_var rfl) (row_at ok fl jl)))))) (by rw [rl]; show _ + 1 ≤ _; omega))) (by rw [List.length_take, eqsC_len]; omega) fun G8 H8 vs' e8 l8 => ?_
    have E8 := l8.up (e7.trans e8)
    refine ⟨G8, (e5.trans e6).g.trans (s7.trans e8.g), E8.sub, _, _, _, rfl, E8, sg3.trans ((e5.trans e6).g.trans (s7.trans e8.g)), ?_⟩
    rw [take_step (eqsC_at hm)]
    exact l8
  · rintro σ G4 H4 sg s4 ⟨r5, r6, r7, rfl, e4, sg3, l4⟩
    rw [← eqsC_len c o (gainsS c f o), List.take_length] at l4
    obtain ⟨G5, s5, e5, q5, _⟩ := l4.frz e4
    obtain ⟨so, _, _⟩ := EC.solC ok (EC.o_nd cc) ol (EC.o_leaves ok cc) (EC.gainsS_low ok f o)
    have sol := EC.solveI_ok so
    have so' : SolOk (eqsC c o (gainsS c f o)).length (eqsC c o (gainsS c f o)) := by rw [eqsC_len]; exact so
    dsimp only
    refine sq_set e5.sub (ev_call (eqsC c o (gainsS c f o)) (ea_R (ev_vR rfl q5) ea_nil) ⟨by rw [eqsC_len]; omega, so'⟩) fun v8 G6 H6 e6 p8 => ?_
    have es : solveI (eqsC c o (gainsS c f o)) = (List.range o.length).map (numI (eqsC c o (gainsS c f o))) ++ [((denI (eqsC c o (gainsS c f o)) : Nat) : Int)] := sol.is
    have p8' : qL qI G6 v8 ((List.range o.length).map (numI (eqsC c o (gainsS c f o))) ++ [((denI (eqsC c o (gainsS c f o)) : Nat) : Int)]) := es ▸ p8
    refine st_ret e6.sub (ev_NL (ev_cat (R := qI) (xs := [((denI (eqsC c o (gainsS c f o)) : Nat) : Int)]) (ys := (List.range o.length).map (numI (eqsC c o (gainsS c f o)))) (ev_NL (ev_lst1 (R := qI) (ev_last (ev_vR rfl p8') (ev_neg ev_c)))) (ev_NL (ev_slInit (ev_vR rfl p8') fun G H s => ev_neg ev_c)) (by simp; omega))) fun v G7 H7 e7 p => k v G7 H7 ((e5.trans e6).trans e7) ?_
    have er : (List.range (o.length + 1)).map (yI c f o) = [((denI (eqsC c o (gainsS c f o)) : Nat) : Int)] ++ (List.range o.length).map (numI (eqsC c o (gainsS c f o))) := by
      rw [List.range_succ_eq_map, List.map_cons, List.map_map]
      rfl
    rw [er]
    exact p
abbrev sp_stationary_numbers (K : PySem.W.Frag) : Sp := spG (α := BnArg) (fun a => [aR (qC K) a.1, aR (qL qN) (a.2.1 :: a.2.2)]) BnOk fun a => isR (qL qI) ((List.range (a.2.2.length + 1)).map (xI a.1 a.2.1 a.2.2))
abbrev N_stationary_numbers : List Str := ["chain", "members", "numbers", "number", "i"]
abbrev P_stationary_numbers : List Str := ["chain", "members"]
theorem sc_stationary_numbers : FnScope N_stationary_numbers P_stationary_numbers (defScope s_stationary_numbers) := ⟨rfl, rfl, rfl, by decide +kernel, rfl, by decide +kernel, by decide +kernel⟩
theorem ok_stationary_numbers (T : Tx K mg) : Has P w K mg base 4 (He.ga K "stationary_numbers") P_stationary_numbers (sp_stationary_numbers K) := by
  obtain ⟨⟨_, F_Chain_sum_of, b_Chain_sum_of⟩, kp_Chain_sum_of⟩ := ok_Chain_sum_of (P := P) (w := w) (base := base) T
  obtain ⟨⟨_, F_balanced_numbers, b_balanced_numbers⟩, kp_balanced_numbers⟩ := ok_balanced_numbers (P := P) (w := w) (base := base) T
  have nd := sc_stationary_numbers.nd
  refine has_mk T.f_stationary_numbers sc_stationary_numbers (fun _ => rfl) (fun _ _ _ _ _ _ us hl => match us, hl with | [_, _], _ => rfl) (fun cdv E outer s H X hr a G vs Q sm ha hok k => ⟨_, (pss_cons (ps_set (i := 2) nd rfl (.inl rfl) (pe_call F_balanced_numbers (hr.mono (by decide)) (by rfl) T.g_balanced_numbers kp_balanced_numbers b_balanced_numbers .nil pass0 (pa_cons (pv 0) (pa_cons (pv 1) pa_nil))))
      (pss_cons (ps_if (PW.pt (pw_or (pt_cmpR op_eq (k_fld K rfl (pv 0)) pe_int (by rfl)) (pw_or1 (pt_cmpR op_eq (pe_callB (k_len K rfl) (by rfl) T.z_len PySem.boot_len (pa_cons (pv 1) pa_nil)) pe_int (by rfl))))) (pss_one (ps_ret (pv 2))) pss_nil)
      (pss_one (ps_ret (pe_lc (own := [("number", 3), ("i", 4)]) rfl nd (k_piz K rfl (by rfl) T.z_zip (pa_cons (pv 2) (pa_cons (pv 1) pa_nil))) (blkOk_by (own := [("number", 3), ("i", 4)]) (N := N_stationary_numbers) (sc := defScope s_stationary_numbers) (by decide +kernel)) (fun _ _ _ _ _ => (k_pgt K rfl (n := 2) rfl (pgs_cons (pg_name (i := 3) nd rfl (.inl rfl)) (pgs_cons (pg_name (i := 4) nd rfl (.inl rfl)) pgs_nil)))) (fun _ _ _ _ _ => pts_nil) (fun _ _ _ _ _ => (pe_op op_mulW (pv 3) (pe_meth (pv 0) T.c_Chain T.h_Chain_sum_of F_Chain_sum_of (hr.mono (by decide)) b_Chain_sum_of .nil pass0 (pa_cons (pv 4) pa_nil))))))))), ?_⟩)
  obtain ⟨v1, _, rfl, h1, v2, _, rfl, h2, rfl⟩ := ha
  obtain ⟨ok, cc⟩ := hok
  obtain ⟨c, f, o⟩ := a
  dsimp only at ok cc h1 h2 k ⊢
  have l7 := EC.CC_len ok cc
  refine sq_set sm (ev_call (c, f, o) (ea_R (ev_vR rfl h1) (ea_R (ev_vR rfl h2) ea_nil)) ⟨ok, cc⟩) fun v3 G1 H1 e1 p3 => ?_
  refine sq_ifN e1.sub (et_or (ev_kind1 T (ev_vR rfl (Mo.mo e1.g h1))) fun _ => et_test (ev_eq (ev_lenL (ev_vR rfl (Mo.mo e1.g h2))) ev_c rfl)) (fun b G2 H2 e2 => ?_) fun b G2 H2 e2 => ?_
  · have hs : c.isContinuous = true ∨ o = [] := by
      rw [Bool.or_eq_true] at b
      rcases b with b | b
      · exact .inl b
      · right
        rw [dec_int] at b
        have b' : ((f :: o).length : Int) = 1 := by simpa using b
        rw [List.length_cons] at b'
        exact List.eq_nil_of_length_eq_zero (by omega)
    refine st_ret e2.sub (ev_a (ev_vR rfl (Mo.mo e2.g p3)) ?_) fun v G3 H3 e3 p => k v G3 H3 ((e1.trans e2).trans e3) p
    apply List.map_congr_left
    intro q _
    unfold xI scl
    rw [if_pos hs]
    simp
  · have hs : ¬ (c.isContinuous = true ∨ o = []) := by
      rw [Bool.or_eq_false_iff] at b
      rintro (z | z)
      · rw [z] at b; exact absurd b.1 (by decide)
      · subst z
        exact absurd b.2 (by rw [dec_int]; simp)
    have e12 := e1.trans e2
    refine st_ret e2.sub (ev_a (ev_NL (ev_mapZ (K := K) (R := qI) (S := qI) (S' := qN) (xs := (List.range (o.length + 1)).map (yI c f o)) (ys := f :: o) (f := fun p => p.1 * (rowSum c p.2 : Int)) (ea_R (ev_vR rfl (Mo.mo e2.g p3)) (ea_R (ev_vR rfl (Mo.mo e12.g h2)) ea_nil)) (by simp; omega) (fun _ _ => rfl) fun i x y hx hy v w G' H' e rx ry => ?_)) ?_) fun v G3 H3 e3 p => k v G3 H3 (e12.trans e3) p
    · have ex : v = .int x := rx
      have ey : w = .int (y : Int) := ry
      subst ex ey
      have yl : y < size c := cc.lt y (List.mem_of_getElem? hy)
      have hi : i < o.length + 1 := by
        have := (List.getElem?_eq_some_iff.mp hy).1
        simpa using this
      rw [List.getElem?_map, List.getElem?_range hi] at hx
      have ex : yI c f o i = x := Option.some.inj hx
      have lo := EC.rowSum_low ok y
      refine ev_Z (ev_I (ev_var rfl) (ev_meth (c, y) (ev_vR rfl (Mo.mo (e12.trans e).g h1)) (ea_V (ev_var rfl) ea_nil) rfl ⟨ok, yl⟩) (wide_mul (a := 3199) (b := 24) (by rw [← ex]; exact EC.yI_low ok cc hi) ?_ (by decide) (by decide) (by decide)))
      show rowSum c y < _
      omega
    · apply List.ext_getElem?
      intro i
      rw [List.getElem?_map]
      by_cases hi : i < o.length + 1
      · have z : (((List.range (o.length + 1)).map (yI c f o)).zip (f :: o))[i]? = some (yI c f o i, (f :: o).getD i 0) := by
          rw [List.getElem?_zip_eq_some]
          exact ⟨by rw [List.getElem?_map, List.getElem?_range hi]; rfl, at_getD 0 (by simpa using hi)⟩
        rw [z, List.getElem?_map, List.getElem?_range hi]
        show some _ = some _
        congr 1
        unfold xI scl
        rw [if_neg hs]
      · rw [List.getElem?_eq_none (by simp; omega), List.getElem?_eq_none (by simp; omega)]
        rfl
abbrev sp_stationary_distribution (K : PySem.W.Frag) : Sp := spG (α := BnArg) (fun a => [aR (qC K) a.1, aR (qL qN) (a.2.1 :: a.2.2)]) BnOk fun a => isR (qL qF) (stationaryOf a.1 (a.2.1 :: a.2.2))
abbrev N_stationary_distribution : List Str := ["chain", "members", "numbers", "total", "values", "number", "i"]
abbrev P_stationary_distribution : List Str := ["chain", "members"]
theorem sc_stationary_distribution : FnScope N_stationary_distribution P_stationary_distribution (defScope s_stationary_distribution) := ⟨rfl, rfl, rfl, by decide +kernel, rfl, by decide +kernel, by decide +kernel⟩
theorem ok_stationary_distribution (T : Tx K mg) : Has P w K mg base 5 (He.ga K "stationary_distribution") P_stationary_distribution (sp_stationary_distribution K) := by
  obtain ⟨⟨_, F_Chain_state_count, b_Chain_state_count⟩, kp_Chain_state_count⟩ := ok_Chain_state_count (P := P) (w := w) (base := base) T
  obtain ⟨⟨_, F_ratio, b_ratio⟩, kp_ratio⟩ := ok_ratio (P := P) (w := w) (base := base) T
  obtain ⟨⟨_, F_stationary_numbers, b_stationary_numbers⟩, kp_stationary_numbers⟩ := ok_stationary_numbers (P := P) (w := w) (base := base) T
  have nd := sc_stationary_distribution.nd
  refine has_mk T.f_stationary_distribution sc_stationary_distribution (fun _ => rfl) (fun _ _ _ _ _ _ us hl => match us, hl with | [_, _], _ => rfl) (fun cdv E outer s H X hr a G vs Q sm ha hok k => ⟨_, (pss_cons (ps_set (i := 2) nd rfl (.inl rfl) (pe_call F_stationary_numbers (hr.mono (by decide)) (by rfl) T.g_stationary_numbers kp_stationary_numbers b_stationary_numbers .nil pass0 (pa_cons (pv 0) (pa_cons (pv 1) pa_nil))))
      (pss_cons (ps_set (i := 3) nd rfl (.inl rfl) (pe_callB (k_sum K rfl rfl) (by rfl) T.z_sum (by decide +kernel) (pa_cons (pv 2) pa_nil)))
      (pss_cons (ps_set (i := 4) nd rfl (.inl rfl) (pe_op op_rep (pe_lst (pa_cons (pe_tup (pa_cons pe_int (pa_cons pe_int pa_nil))) pa_nil)) (pe_meth0 (pv 0) T.c_Chain T.h_Chain_state_count F_Chain_state_count (hr.mono (by decide)) b_Chain_state_count .nil pass0)))
      (pss_cons (ps_for PassesOwn.never rfl (k_piz K rfl (by rfl) T.z_zip (pa_cons (pv 2) (pa_cons (pv 1) pa_nil))) (k_pgt K rfl (n := 2) rfl (pgs_cons (pg_name (i := 5) nd rfl (.inl rfl)) (pgs_cons (pg_name (i := 6) nd rfl (.inl rfl)) pgs_nil))) (pss_one (ps_asg (pe_call F_ratio (hr.mono (by decide)) (by rfl) T.g_ratio kp_ratio b_ratio .nil pass0 (pa_cons (pv 5) (pa_cons (pv 3) pa_nil))) (pg_sub (pv 4) (pv 6) set_list))))
      (pss_one (ps_ret (pv 4))))))), ?_⟩)
  obtain ⟨v1, _, rfl, h1, v2, _, rfl, h2, rfl⟩ := ha
  obtain ⟨ok, cc⟩ := hok
  obtain ⟨c, f, o⟩ := a
  dsimp only at ok cc h1 h2 k ⊢
  have l7 := EC.CC_len ok cc
  have s8 := ok.le
  have tp := EC.totI_pos ok cc
  have tl := EC.totI_low ok cc
  let X := (List.range (o.length + 1)).map (xI c f o)
  refine sq_set sm (ev_call (c, f, o) (ea_R (ev_vR rfl h1) (ea_R (ev_vR rfl h2) ea_nil)) ⟨ok, cc⟩) fun v3 G1 H1 e1 p3 => ?_
  refine sq_set e1.sub (ev_sum (ev_vR rfl p3)) fun v G2 H2 e2 p => ?_
  have ev : v = .int (totI c f o) := p
  subst ev
  have e12 := e1.trans e2
  refine sq_set e2.sub (ev_rep (R := qF) (xs := [zero]) (n := size c) (ev_lst1 ev_fr0) (ev_meth c (ev_vR rfl (Mo.mo e12.g h1)) ea_nil rfl trivial) (by simp; omega) (by omega)) fun v G3 H3 e3 n3 => ?_
  obtain ⟨p5, rfl, l3⟩ := locl_of n3
  have e13 := e12.trans e3
  rw [rep_flat, states_rep] at l3
  have l3 := l3.back e12.h
  refine sq (fo_zip (S := qI) (S' := qN) (xs := X) (ys := f :: o) e3.sub (ea_R (ev_vR rfl (Mo.mo (e2.trans e3).g p3)) (ea_R (ev_vR rfl (Mo.mo e13.g h2)) ea_nil)) (fun m σ G4 H4 => ∃ r6 r7, σ = [some v1, some v2, some v3, some (.int (totI c f o)), some (.ref p5), r6, r7] ∧ Ext G H G4 H4 ∧ LocL qF ((states c).map (valTo (f :: o) (statF c f o) m)) H p5 G4 H4) (fun G4 H4 e4 => ⟨none, none, rfl, e13.trans e4, ?_⟩) ?_ ?_)
  · have z : (states c).map (valTo (f :: o) (statF c f o) 0) = (states c).map fun _ => zero := List.map_congr_left fun j _ => by simp [valTo]
    rw [z]
    exact l3.ext e4
  · rintro m x y v w σ G4 H4 H4' hx hy sg s4 rx ry ⟨r6, r7, rfl, e4', l4'⟩ jk
    have ex : v = .int x := rx
    have ey : w = .int (y : Int) := ry
    subst ex ey
    have e4 := e4'.jk jk
    have l4 := l4'.jk jk
    have yl : y < size c := cc.lt y (List.mem_of_getElem? hy)
    have hm : m < o.length + 1 := by
      have := (List.getElem?_eq_some_iff.mp hy).1
      simpa using this
    rw [List.getElem?_map, List.getElem?_range hm] at hx
    have ex : xI c f o m = x := Option.some.inj hx
    subst ex
    have et : ((totI c f o).toNat : Int) = totI c f o := Int.toNat_of_nonneg (by omega)
    refine st_put (a := statF c f o m) (i := y) l4 e4.sub (ev_call (xI c f o m, (totI c f o).toNat) (ea_V (ev_var rfl) (ea_V (ev_V (ev_var rfl) (by rw [et])) ea_nil)) ⟨by show 0 < (totI c f o).toNat; omega, 3226, by decide, by decide, by show (totI c f o).toNat < _; omega⟩) (ev_var rfl) (ev_var rfl) (by rw [List.length_map, states_len]; exact yl) fun G5 H5 vs e5 l5 => ?_
    have E5 := l5.up (e4.trans e5)
    refine ⟨G5, e5.g, E5.sub, some (.int (xI c f o m)), some (.int (y : Int)), rfl, E5, ?_⟩
    have g : ((states c).map (valTo (f :: o) (statF c f o) m)).set y (statF c f o m) = (states c).map (valTo (f :: o) (statF c f o) (m + 1)) := by
      refine states_set yl ?_ fun j hj => ?_
      · unfold valTo
        rw [if_pos (by rw [take_step hy]; simp)]
        have := EC.valAt_at cc.nd (statF c f o) (q := m) (by simpa using hm)
        rw [getD_at hy] at this
        exact this
      · unfold valTo
        rw [take_step hy]
        simp [hj]
    rw [← g]
    exact l5
  · rintro σ G4 H4 sg s4 ⟨r6, r7, rfl, e4, l4⟩
    have ml : min X.length (f :: o).length = (f :: o).length := by simp [X]
    have z : (states c).map (valTo (f :: o) (statF c f o) (f :: o).length) = stationaryOf c (f :: o) := by
      rw [EC.stationary_is ok cc]
      refine List.map_congr_left fun j _ => ?_
      unfold valTo
      rw [List.take_length]
      split
      · rfl
      · exact (EC.valAt_out _ (by assumption)).symm
    rw [ml, z] at l4
    obtain ⟨G5, s5, e5, q5, _⟩ := l4.frz e4
    exact st_ret e5.sub (ev_vR rfl q5) fun v G6 H6 e6 p => k v G6 H6 (e5.trans e6) p
def aroundF (c : Chain) (i : Nat) : Option (List Fraction) := if isClosed c i = true then some (stationaryOf c (classOf c i)) else none
abbrev sp_stationary_around (K : PySem.W.Frag) : Sp := spG (α := Chain × Nat) (fun a => [aR (qC K) a.1, aV (.int (a.2 : Int))]) RowOk fun a => isR (qO (qL qF)) (aroundF a.1 a.2)
abbrev N_stationary_around : List Str := ["chain", "i", "members"]
abbrev P_stationary_around : List Str := ["chain", "i"]
theorem sc_stationary_around : FnScope N_stationary_around P_stationary_around (defScope s_stationary_around) := ⟨rfl, rfl, rfl, by decide +kernel, rfl, by decide +kernel, by decide +kernel⟩
theorem ok_stationary_around (T : Tx K mg) : Has P w K mg base 6 (He.ga K "stationary_around") P_stationary_around (sp_stationary_around K) := by
  obtain ⟨⟨_, F_class_of, b_class_of⟩, kp_class_of⟩ := ok_class_of (P := P) (w := w) (base := base) T
  obtain ⟨⟨_, F_is_closed, b_is_closed⟩, kp_is_closed⟩ := ok_is_closed (P := P) (w := w) (base := base) T
  obtain ⟨⟨_, F_stationary_distribution, b_stationary_distribution⟩, kp_stationary_distribution⟩ := ok_stationary_distribution (P := P) (w := w) (base := base) T
  have nd := sc_stationary_around.nd
  refine has_mk T.f_stationary_around sc_stationary_around (fun _ => rfl) (fun _ _ _ _ _ _ us hl => match us, hl with | [_, _], _ => rfl) (fun cdv E outer s H X hr a G vs Q sm ha hok k => ⟨_, (pss_cons (ps_set (i := 2) nd rfl (.inl rfl) (pe_call F_class_of (hr.mono (by decide)) (by rfl) T.g_class_of kp_class_of b_class_of .nil pass0 (pa_cons (k_fld K rfl (pv 0)) (pa_cons (pv 1) pa_nil))))
      (pss_cons (ps_if (pt_not (pt_val (pe_call F_is_closed (hr.mono (by decide)) (by rfl) T.g_is_closed kp_is_closed b_is_closed .nil pass0 (pa_cons (k_fld K rfl (pv 0)) (pa_cons (pv 2) pa_nil))))) (pss_one (ps_ret pe_non)) pss_nil)
      (pss_one (ps_ret (pe_call F_stationary_distribution (hr.mono (by decide)) (by rfl) T.g_stationary_distribution kp_stationary_distribution b_stationary_distribution .nil pass0 (pa_cons (pv 0) (pa_cons (pv 2) pa_nil))))))), ?_⟩)
  obtain ⟨v1, _, rfl, h1, _, _, rfl, rfl, rfl⟩ := ha
  obtain ⟨ok, hi⟩ := hok
  obtain ⟨c, i⟩ := a
  dsimp only at ok hi h1 k ⊢
  refine sq_set sm (ev_call (c, i) (ea_R (ev_rows T (ev_vR rfl h1)) (ea_V (ev_var rfl) ea_nil)) ⟨ok, hi⟩) fun v3 G1 H1 e1 p3 => ?_
  refine sq_ifN e1.sub (et_not (et_B (ev_call (c, i) (ea_R (ev_rows T (ev_vR rfl (Mo.mo e1.g h1))) (ea_R (ev_vR rfl p3) ea_nil)) ⟨ok, hi⟩))) (fun b G2 H2 e2 => ?_) fun b G2 H2 e2 => ?_
  · have b' : isClosed c i = false := by simpa using b
    refine st_ret e2.sub (ev_a (ev_optN (R := qL qF)) ?_) fun v G3 H3 e3 p => k v G3 H3 ((e1.trans e2).trans e3) p
    unfold aroundF
    rw [b', if_neg Bool.false_ne_true]
  · have b' : isClosed c i = true := by simpa using b
    obtain ⟨f, o, ec, cc⟩ := EC.class_CC ok hi b'
    have p3' : qL qN G1 v3 (f :: o) := ec ▸ p3
    refine st_ret e2.sub (ev_a (ev_optS (ev_call (c, f, o) (ea_R (ev_vR rfl (Mo.mo (e1.trans e2).g h1)) (ea_R (ev_vR rfl (Mo.mo e2.g p3')) ea_nil)) ⟨ok, cc⟩)) ?_) fun v G3 H3 e3 p => k v G3 H3 ((e1.trans e2).trans e3) p
    unfold aroundF
    rw [if_pos b', ec]
abbrev sp_long_run_shares (K : PySem.W.Frag) : Sp := spG (α := Chain × Nat) (fun a => [aR (qC K) a.1, aV (.int (a.2 : Int))]) RowOk fun a => isR (qL qF) (longRun a.1 a.2)
abbrev N_long_run_shares : List Str := ["chain", "i", "shares", "members", "chance", "values", "j"]
abbrev P_long_run_shares : List Str := ["chain", "i"]
theorem sc_long_run_shares : FnScope N_long_run_shares P_long_run_shares (defScope s_long_run_shares) := ⟨rfl, rfl, rfl, by decide +kernel, rfl, by decide +kernel, by decide +kernel⟩
theorem ok_long_run_shares (T : Tx K mg) : Has P w K mg base 7 (He.ga K "long_run_shares") P_long_run_shares (sp_long_run_shares K) := by
  obtain ⟨⟨_, F_Chain_state_count, b_Chain_state_count⟩, kp_Chain_state_count⟩ := ok_Chain_state_count (P := P) (w := w) (base := base) T
  obtain ⟨⟨_, F_closed_classes, b_closed_classes⟩, kp_closed_classes⟩ := ok_closed_classes (P := P) (w := w) (base := base) T
  obtain ⟨⟨_, F_hitting_probabilities, b_hitting_probabilities⟩, kp_hitting_probabilities⟩ := ok_hitting_probabilities (P := P) (w := w) (base := base) T
  obtain ⟨⟨_, F_product, b_product⟩, kp_product⟩ := ok_product (P := P) (w := w) (base := base) T
  obtain ⟨⟨_, F_stationary_distribution, b_stationary_distribution⟩, kp_stationary_distribution⟩ := ok_stationary_distribution (P := P) (w := w) (base := base) T
  have nd := sc_long_run_shares.nd
  refine has_mk T.f_long_run_shares sc_long_run_shares (fun _ => rfl) (fun _ _ _ _ _ _ us hl => match us, hl with | [_, _], _ => rfl) (fun cdv E outer s H X hr a G vs Q sm ha hok k => ⟨_, (pss_cons (ps_set (i := 2) nd rfl (.inl rfl) (pe_op op_rep (pe_lst (pa_cons (pe_tup (pa_cons pe_int (pa_cons pe_int pa_nil))) pa_nil)) (pe_meth0 (pv 0) T.c_Chain T.h_Chain_state_count F_Chain_state_count (hr.mono (by decide)) b_Chain_state_count .nil pass0)))
      (pss_cons (ps_for PassesOwn.never rfl (k_pil K rfl (pe_call F_closed_classes (hr.mono (by decide)) (by rfl) T.g_closed_classes kp_closed_classes b_closed_classes .nil pass0 (pa_cons (k_fld K rfl (pv 0)) pa_nil))) (pg_name (i := 3) nd rfl (.inl rfl)) (pss_cons (ps_set (i := 4) nd rfl (.inl rfl) (pe_ix (k_ixl K rfl) (pe_call F_hitting_probabilities (hr.mono (by decide)) (by rfl) T.g_hitting_probabilities kp_hitting_probabilities b_hitting_probabilities .nil pass0 (pa_cons (pv 0) (pa_cons (pv 3) pa_nil))) (pv 1) (fun _ _ => rfl)))
      (pss_cons (ps_set (i := 5) nd rfl (.inl rfl) (pe_call F_stationary_distribution (hr.mono (by decide)) (by rfl) T.g_stationary_distribution kp_stationary_distribution b_stationary_distribution .nil pass0 (pa_cons (pv 0) (pa_cons (pv 3) pa_nil))))
      (pss_one (ps_for PassesOwn.never rfl (k_pil K rfl (pv 3)) (pg_name (i := 6) nd rfl (.inl rfl)) (pss_one (ps_asg (pe_call F_product (hr.mono (by decide)) (by rfl) T.g_product kp_product b_product .nil pass0 (pa_cons (pv 4) (pa_cons (pe_ix (k_ixl K rfl) (pv 5) (pv 6) (fun _ _ => rfl)) pa_nil))) (pg_sub (pv 2) (pv 6) set_list))))))))
      (pss_one (ps_ret (pv 2))))), ?_⟩)
  obtain ⟨v1, _, rfl, h1, _, _, rfl, rfl, rfl⟩ := ha
  obtain ⟨ok, hi⟩ := hok
  obtain ⟨c, i⟩ := a
  dsimp only at ok hi h1 k ⊢
  have s8 := ok.le
  refine sq_set sm (ev_rep (R := qF) (xs := [zero]) (n := size c) (ev_lst1 ev_fr0) (ev_meth c (ev_vR rfl h1) ea_nil rfl trivial) (by simp; omega) (by omega)) fun v G1 H1 e1 n1 => ?_
  obtain ⟨p3, rfl, l1⟩ := locl_of n1
  rw [rep_flat, states_rep] at l1
  refine sq (fo_list (S := qL qN) (xs := (closedClasses c).map (classOf c)) e1.sub (ev_call c (ea_R (ev_rows T (ev_vR rfl (Mo.mo e1.g h1))) ea_nil) ok) (fun m σ G2 H2 => ∃ r4 r5 r6 r7, σ = [some v1, some (.int (i : Int)), some (.ref p3), r4, r5, r6, r7] ∧ Ext G H G2 H2 ∧ LocL qF ((states c).map (shareTo c i m)) H p3 G2 H2) (fun G2 H2 e2 => ⟨none, none, none, none, rfl, e1.trans e2, ?_⟩) ?_ ?_)
  · have z : (states c).map (shareTo c i 0) = (states c).map fun _ => zero := List.map_congr_left fun j _ => EC.share_zero c i j
    rw [z]
    exact l1.ext e2
  · rintro m L v σ G2 H2 hx sg s2 rv ⟨r4, r5, r6, r7, rfl, e2, l2⟩
    rw [List.getElem?_map] at hx
    cases hcl : (closedClasses c)[m]? with
    | none => rw [hcl] at hx; cases hx
    | some cl =>
      rw [hcl] at hx
      have eL : classOf c cl = L := Option.some.inj hx
      subst eL
      obtain ⟨cl1, cl2, cl3⟩ := (EC.closed_mem ok).mp (List.mem_of_getElem? hcl)
      obtain ⟨f, o, ec, cc⟩ := EC.class_CC ok cl1 cl3
      have so : SetOk c (classOf c cl) := EC.class_set cl
      have hat : (hitting c (classOf c cl))[i]? = some (entry (hitting c (classOf c cl)) i) := at_getD zero (by rw [EC.hitting_is ok so, List.length_map, states_len]; exact hi)
      refine sq_set s2 (ev_ixL (ev_call (c, classOf c cl) (ea_R (ev_vR rfl (Mo.mo e2.g h1)) (ea_R (ev_vR rfl rv) ea_nil)) ⟨ok, so⟩) (ev_var rfl) hat) fun v5 G3 H3 e3 p5 => ?_
      have rv' : qL qN G3 v (f :: o) := ec ▸ Mo.mo e3.g rv
      refine sq_set e3.sub (ev_call (c, f, o) (ea_R (ev_vR rfl (Mo.mo (e2.trans e3).g h1)) (ea_R (ev_vR rfl rv') ea_nil)) ⟨ok, cc⟩) fun v6 G4 H4 e4 p6 => ?_
      have e24 := (e2.trans e3).trans e4
      have p6' : qL qF G4 v6 (stationaryOf c (classOf c cl)) := by rw [ec]; exact p6
      let g : Nat → Nat → Fraction := fun n j => if j ∈ (classOf c cl).take n then partF c i j cl else shareTo c i m j
      refine fo_list (S := qN) (xs := classOf c cl) e4.sub (ev_vR rfl (Mo.mo (e3.trans e4).g rv)) (fun n σ G5 H5 => ∃ r7, σ = [some v1, some (.int (i : Int)), some (.ref p3), some v, some v5, some v6, r7] ∧ Ext G H G5 H5 ∧ Same G4 G5 ∧ LocL qF ((states c).map (g n)) H p3 G5 H5) (fun G5 H5 e5 => ⟨_, rfl, e24.trans e5, e5.g, ?_⟩) ?_ ?_
      · have z : (states c).map (g 0) = (states c).map (shareTo c i m) := List.map_congr_left fun j _ => by simp [g]
        rw [z]
        exact l2.ext ((e3.trans e4).trans e5)
      · rintro n j v σ G5 H5 hy sg5 s5 rj ⟨r7, rfl, e5, sg4, l5⟩
        have ev : v = .int (j : Int) := rj
        subst ev
        have jm := List.mem_of_getElem? hy
        have jl := EC.class_lt j jm
        have sat : (stationaryOf c (classOf c cl))[j]? = some (statV c cl j) := at_getD zero (by rw [EC.stat_len]; exact jl)
        obtain ⟨D, d1, d2, d3⟩ := EC.hit_dens ok so (EC.class_ne ok cl1)
        refine st_put (a := partF c i j cl) (i := j) l5 s5 (ev_call (entry (hitting c (classOf c cl)) i, statV c cl j) (ea_R (ev_vR rfl (Mo.mo (e4.g.trans sg4) p5)) (ea_R (ev_ixL (ev_vR rfl (Mo.mo sg4 p6')) (ev_var rfl) sat) ea_nil)) ⟨3199, 3226, by decide, by decide, by decide, (d3 i hi).2, EC.frOk_statV ok cl1 cl3 jl⟩) (ev_var rfl) (ev_var rfl) (by rw [List.length_map, states_len]; exact jl) fun G6 H6 vs e6 l6 => ?_
        have E6 := l6.up (e5.trans e6)
        refine ⟨G6, e6.g, E6.sub, some (.int (j : Int)), rfl, E6, sg4.trans e6.g, ?_⟩
        have z : ((states c).map (g n)).set j (partF c i j cl) = (states c).map (g (n + 1)) := by
          refine states_set jl ?_ fun x hx => ?_
          · show (if _ then _ else _) = _
            rw [if_pos (by rw [take_step hy]; simp)]
          · show (if _ then _ else _) = (if _ then _ else _)
            rw [take_step hy]
            simp [hx]
        rw [← z]
        exact l6
      · rintro σ G5 H5 sg5 s5 ⟨r7, rfl, e5, sg4, l5⟩
        refine ⟨G5, (e3.trans e4).g.trans sg4, s5, some v, some v5, some v6, r7, rfl, e5, ?_⟩
        have z : (states c).map (g (classOf c cl).length) = (states c).map (shareTo c i (m + 1)) := List.map_congr_left fun j hj => by
          rw [EC.share_succ ok hi (List.mem_range.mp hj) hcl]
          show (if j ∈ (classOf c cl).take _ then _ else _) = _
          rw [List.take_length]
        rw [← z]
        exact l5
  · rintro σ G2 H2 sg s2 ⟨r4, r5, r6, r7, rfl, e2, l2⟩
    rw [List.length_map, ← EC.longRun_is] at l2
    obtain ⟨G3, s3, e3, q3, _⟩ := l2.frz e2
    exact st_ret e3.sub (ev_vR rfl q3) fun v G4 H4 e4 p => k v G4 H4 (e3.trans e4) p
end
end ER
/-! ## ErH -/
/-! the operations that tell how states and sets are reached -/
namespace ER
open PySem PySem.Spec PyProof.Rows
open L2 hiding St
open Lrx1 (Fraction Chain reduce size weight rowSum jump greatestRate one zero states entry hitting hittingTime classOf isClosed closedClasses stationaryOf longRun isSet isState)
open EC (Red FrOk COk CC SetOk valAt statV firstF backF chanceF)
/-! how many different ones -/
theorem nodup_eraseDups : ∀ (n : Nat) (l : List Nat), l.length ≤ n → l.eraseDups.Nodup
  | _, [], _ => by simp
  | 0, _ :: _, h => by simp at h
  | n + 1, a :: r, h => by
    rw [List.eraseDups_cons, List.nodup_cons]
    refine ⟨fun z => ?_, nodup_eraseDups n _ (Nat.le_trans (List.length_filter_le _ _) (by simpa using h))⟩
    rw [List.mem_eraseDups, List.mem_filter] at z
    simp at z
theorem firstMet_ok (val : Nat → Int) : ∀ i, (PyProof.Rows.firstMet val i).Nodup ∧ ∀ x, x ∈ PyProof.Rows.firstMet val i ↔ ∃ k, k < i ∧ val k = x
  | 0 => by rw [PyProof.Rows.firstMet_zero]; simp
  | i + 1 => by
    obtain ⟨h1, h2⟩ := firstMet_ok val i
    rw [PyProof.Rows.firstMet_succ]
    unfold step_dedup
    by_cases m : val i ∈ PyProof.Rows.firstMet val i
    · have ee : ((PyProof.Rows.firstMet val i).any fun x => x == val i) = true := by rw [List.any_eq_true]; exact ⟨_, m, by simp⟩
      rw [if_pos ee]
      refine ⟨h1, fun x => ?_⟩
      rw [h2]
      constructor
      · rintro ⟨k, hk, e⟩; exact ⟨k, by omega, e⟩
      · rintro ⟨k, hk, e⟩
        by_cases q : k = i
        · subst q; rw [e] at m; exact (h2 x).mp m
        · exact ⟨k, by omega, e⟩
    · have ee : ¬ ((PyProof.Rows.firstMet val i).any fun x => x == val i) = true := by
        rw [List.any_eq_true]
        rintro ⟨x, hx, q⟩
        have : x = val i := by simpa using q
        exact m (this ▸ hx)
      rw [if_neg ee]
      refine ⟨?_, fun x => ?_⟩
      · rw [List.nodup_append]
        refine ⟨h1, by simp, ?_⟩
        rintro a ha b hb rfl
        rw [List.mem_singleton] at hb
        exact m (hb ▸ ha)
      · rw [List.mem_append, List.mem_singleton, h2]
        constructor
        · rintro (⟨k, hk, e⟩ | e)
          · exact ⟨k, by omega, e⟩
          · exact ⟨i, by omega, e.symm⟩
        · rintro ⟨k, hk, e⟩
          by_cases q : k = i
          · subst q; exact .inr e.symm
          · exact .inl ⟨k, by omega, e⟩
def castL (T : List Nat) : List Int := T.map fun (n : Nat) => (n : Int)
theorem met_count {T U : List Nat} (hU : U.Nodup) (h : ∀ x, x ∈ U ↔ x ∈ T) : met (castL T) = U.length := by
  obtain ⟨h1, h2⟩ := firstMet_ok (fun i => (castL T).getD i 0) (castL T).length
  have hm : ∀ x, x ∈ PyProof.Rows.firstMet (fun i => (castL T).getD i 0) (castL T).length ↔ x ∈ castL T := fun x => by
    rw [h2]
    constructor
    · rintro ⟨k, hk, e⟩
      rw [← e, List.getD_eq_getElem?_getD, List.getElem?_eq_getElem hk]
      exact List.getElem_mem hk
    · intro hx
      obtain ⟨k, hk, e⟩ := List.mem_iff_getElem.mp hx
      refine ⟨k, hk, ?_⟩
      show (castL T).getD k 0 = x
      rw [List.getD_eq_getElem?_getD, List.getElem?_eq_getElem hk, e]
      rfl
  have nU : (castL U).Nodup := by
    unfold castL List.Nodup
    rw [List.pairwise_map]
    exact hU.imp fun {a b} (hab : a ≠ b) => by
      intro z
      exact hab (by omega)
  have mU : ∀ x, x ∈ castL U ↔ x ∈ castL T := fun x => by
    unfold castL
    rw [List.mem_map, List.mem_map]
    constructor
    · rintro ⟨a, ha, e⟩; exact ⟨a, (h a).mp ha, e⟩
    · rintro ⟨a, ha, e⟩; exact ⟨a, (h a).mpr ha, e⟩
  have lU : (castL U).length = U.length := by simp [castL]
  rw [← lU]
  exact Nat.le_antisymm (h1.length_le_of_subset fun x hx => (mU x).mpr ((hm x).mp hx)) (nU.length_le_of_subset fun x hx => (hm x).mpr ((mU x).mp hx))
theorem dups_nodup : ∀ (l : List Nat), l.eraseDups.length = l.length → l.Nodup
  | [], _ => by simp
  | a :: r, h => by
    rw [List.eraseDups_cons, List.length_cons, List.length_cons] at h
    have h0 : (r.filter fun b => !b == a).eraseDups.length ≤ (r.filter fun b => !b == a).length := (nodup_eraseDups _ _ (Nat.le_refl _)).length_le_of_subset fun x hx => by rwa [List.mem_eraseDups] at hx
    have h1 := List.length_filter_le (fun b => !b == a) r
    have nm : a ∉ r := fun z => by
      have := List.length_filter_lt_length_iff_exists (p := fun b => !b == a) (l := r)
      have := this.mpr ⟨a, z, by simp⟩
      omega
    have e : (r.filter fun b => !b == a) = r := by
      rw [List.filter_eq_self]
      intro x hx
      have : x ≠ a := fun e => nm (e ▸ hx)
      simpa using this
    rw [e] at h
    exact List.nodup_cons.mpr ⟨nm, dups_nodup r (by omega)⟩
theorem isSet_ok {c : Chain} {T : List Nat} (h : isSet c T = true) : SetOk c T ∧ T ≠ [] := by
  unfold isSet at h
  rw [Bool.and_eq_true, Bool.and_eq_true] at h
  obtain ⟨h1, h2, h3⟩ := h
  refine ⟨⟨dups_nodup T (of_decide_eq_true h3), fun x hx => ?_⟩, by simpa using h1⟩
  have := List.all_eq_true.mp h2 x hx
  exact of_decide_eq_true this
/-! what an operation answers -/
def toL (r : Lrx1.Result) : List Int := r.num :: r.nums
def opR (c : Chain) (x : Lrx1.Call) : List Int := toL (Lrx1.step (some c) x).2
def frR (f : Fraction) : List Int := [0, f.num, (f.den : Int)]
theorem op_hit (c : Chain) (i : Nat) (T : List Nat) : opR c (.hitting i T) = if isState c i = false then [-2] else if isSet c T = false then [-22] else frR (entry (hitting c T) i) := by
  show toL (if isState c i = false then Lrx1.error (-2) else if isSet c T = false then Lrx1.error (-22) else Lrx1.fractionResult (entry (hitting c T) i)) = _
  rw [apply_ite toL, apply_ite toL]
  rfl
theorem op_hitTime (c : Chain) (i : Nat) (T : List Nat) : opR c (.hittingTime i T) = if isState c i = false then [-2] else if isSet c T = false then [-22] else match hittingTime c T i with
    | none => [-33]
    | some t => frR t := by
  show toL (if isState c i = false then Lrx1.error (-2) else if isSet c T = false then Lrx1.error (-22) else match hittingTime c T i with
          | none => Lrx1.error (-33)
          | some time => Lrx1.fractionResult time) = _
  rw [apply_ite toL, apply_ite toL]
  cases hittingTime c T i <;> rfl
theorem op_absorb (c : Chain) (i : Nat) : opR c (.absorption i) = if isState c i = false then [-2] else ((closedClasses c).length : Int) :: (closedClasses c).flatMap fun (x : Nat) => [((x : Nat) : Int)] ++ Lrx1.ints (entry (hitting c (classOf c x)) i) := by
  show toL (if isState c i = false then Lrx1.error (-2) else ⟨((closedClasses c).length : Int), (closedClasses c).flatMap fun (x : Nat) => [((x : Nat) : Int)] ++ Lrx1.ints (entry (hitting c (classOf c x)) i)⟩) = _
  rw [apply_ite toL]
  rfl
theorem op_visits (c : Chain) (i j : Nat) : opR c (.visits i j) = if isState c i = false ∨ isState c j = false then [-2] else match Lrx1.visits c i j with
    | none => [-33]
    | some t => frR t := by
  show toL (if isState c i = false ∨ isState c j = false then Lrx1.error (-2) else match Lrx1.visits c i j with
          | none => Lrx1.error (-33)
          | some count => Lrx1.fractionResult count) = _
  rw [apply_ite toL]
  cases Lrx1.visits c i j <;> rfl
theorem op_watched (c : Chain) (i j : Nat) (T : List Nat) : opR c (.watched i j T) = if isState c i = false ∨ isState c j = false then [-2] else if isSet c T = false then [-22] else if T.contains i = false ∨ T.contains j = false then [-33] else frR (Lrx1.watched c T i j) := by
  show toL (if isState c i = false ∨ isState c j = false then Lrx1.error (-2) else if isSet c T = false then Lrx1.error (-22) else if T.contains i = false ∨ T.contains j = false then Lrx1.error (-33) else Lrx1.fractionResult (Lrx1.watched c T i j)) = _
  rw [apply_ite toL, apply_ite toL, apply_ite toL]
  rfl
section
variable {P : Program} {w : World} {K : PySem.W.Frag} {mg : Str → Option Value} {base : Heap}
section
variable {σ : L2.St} {G H : Hp} {ta tb : TE} {t u : TT}
theorem ev_lenSetN {T : List Nat} (h : Ev ta σ G H (isR (qL qN) T)) (hl : T.length ≤ 4000) : Ev (tLenSetA K ta) σ G H (isV (.int (met (castL T) : Nat))) := fun G1 H1 e Q q =>
  h G1 H1 e _ fun v G2 H2 e2 ⟨p, vs, hv, hp, pr⟩ => ⟨p, castL T, hv, SqL.of (e2.sub _ _ (by rw [hp, qN_list pr]; unfold castL; rw [List.map_map]; rfl)), by unfold castL; rw [List.length_map]; exact hl, q _ G2 H2 e2 rfl⟩
/-- list(a fraction) -/
theorem ev_listF {f : Fraction} (h : Ev ta σ G H (isR qF f)) : Ev (tCB (rListQ K) (tCons ta tNil)) σ G H (isN qI [f.num, (f.den : Int)]) := fun G1 H1 e Q q =>
  h G1 H1 e _ fun v G2 H2 e2 ⟨p, hv, hp⟩ => ⟨p, _, by rw [hv], .inr (SqT.of (e2.sub _ _ hp)), fun l hl => by
    have g := none_of e2.sub hl
    exact q _ G2 _ (e2.loc (none_of e2.h hl) g) ⟨l, _, rfl, none_of e2.h hl, g, upd_same, .cons rfl (.cons rfl .nil)⟩⟩
theorem ev_res0 {f : Fraction} (h : Ev ta σ G H (isR qF f)) : Ev (tOp rCat (tLst (tCons (tC (.int 0)) tNil)) (tCB (rListQ K) (tCons ta tNil))) σ G H (isR (qL qI) (frR f)) :=
  ev_NL (ev_cat (R := qI) (xs := [0]) (ys := [f.num, (f.den : Int)]) (ev_NL (ev_lst1 (R := qI) (ev_Z ev_c))) (ev_NL (ev_listF h)) (by show 3 ≤ 1000; decide))
theorem ev_fun {α : Type} {R : Rel α} {a : α} (h : Ev ta σ G H (isR R a)) : Ev ta σ G H (fun _ v G _ => R G v a) := h
theorem et_state {c : Chain} {i : Nat} (h : Ev ta σ G H (isV (.bl (decide (i < size c))))) : EvT (tNot (tB ta)) σ G H (!isState c i) := et_not (et_B h)
end
abbrev sp_refusal (n : Int) : Sp := spG (α := Unit) (fun _ => []) (fun _ => True) fun _ => isR (qL qI) [n]
abbrev sp_no_instance (K : PySem.W.Frag) : Sp := sp_refusal (-11)
abbrev sp_no_such_state (K : PySem.W.Frag) : Sp := sp_refusal (-2)
abbrev sp_out_of_range (K : PySem.W.Frag) : Sp := sp_refusal (-22)
abbrev sp_no_result (K : PySem.W.Frag) : Sp := sp_refusal (-33)
abbrev sp_weight_too_large (K : PySem.W.Frag) : Sp := sp_refusal (-75)
abbrev N_no_instance : List Str := []
abbrev P_no_instance : List Str := []
theorem sc_no_instance : FnScope N_no_instance P_no_instance (defScope s_no_instance) := ⟨rfl, rfl, rfl, by decide +kernel, rfl, by decide +kernel, by decide +kernel⟩
theorem ok_no_instance (T : Tx K mg) : Has P w K mg base 1 (He.ga K "no_instance") P_no_instance (sp_no_instance K) := by
  have nd := sc_no_instance.nd
  refine has_mk T.f_no_instance sc_no_instance (fun _ => rfl) (fun _ _ _ _ _ _ us hl => match us, hl with | [], _ => rfl) (fun cdv E outer s H X hr a G vs Q sm ha hok k => ⟨_, (pss_one (ps_ret (pe_lst (pa_cons (pe_un un_neg pe_int) pa_nil)))), ?_⟩)
  cases ha
  exact st_ret sm (ev_NL (ev_lst1 (R := qI) (ev_Z (ev_neg ev_c)))) k
abbrev N_no_such_state : List Str := []
abbrev P_no_such_state : List Str := []
theorem sc_no_such_state : FnScope N_no_such_state P_no_such_state (defScope s_no_such_state) := ⟨rfl, rfl, rfl, by decide +kernel, rfl, by decide +kernel, by decide +kernel⟩
theorem ok_no_such_state (T : Tx K mg) : Has P w K mg base 1 (He.ga K "no_such_state") P_no_such_state (sp_no_such_state K) := by
  have nd := sc_no_such_state.nd
  refine has_mk T.f_no_such_state sc_no_such_state (fun _ => rfl) (fun _ _ _ _ _ _ us hl => match us, hl with | [], _ => rfl) (fun cdv E outer s H X hr a G vs Q sm ha hok k => ⟨_, (pss_one (ps_ret (pe_lst (pa_cons (pe_un un_neg pe_int) pa_nil)))), ?_⟩)
  cases ha
  exact st_ret sm (ev_NL (ev_lst1 (R := qI) (ev_Z (ev_neg ev_c)))) k
abbrev N_out_of_range : List Str := []
abbrev P_out_of_range : List Str := []
theorem sc_out_of_range : FnScope N_out_of_range P_out_of_range (defScope s_out_of_range) := ⟨rfl, rfl, rfl, by decide +kernel, rfl, by decide +kernel, by decide +kernel⟩
theorem ok_out_of_range (T : Tx K mg) : Has P w K mg base 1 (He.ga K "out_of_range") P_out_of_range (sp_out_of_range K) := by
  have nd := sc_out_of_range.nd
  refine has_mk T.f_out_of_range sc_out_of_range (fun _ => rfl) (fun _ _ _ _ _ _ us hl => match us, hl with | [], _ => rfl) (fun cdv E outer s H X hr a G vs Q sm ha hok k => ⟨_, (pss_one (ps_ret (pe_lst (pa_cons (pe_un un_neg pe_int) pa_nil)))), ?_⟩)
  cases ha
  exact st_ret sm (ev_NL (ev_lst1 (R := qI) (ev_Z (ev_neg ev_c)))) k
abbrev N_no_result : List Str := []
abbrev P_no_result : List Str := []
theorem sc_no_result : FnScope N_no_result P_no_result (defScope s_no_result) := ⟨rfl, rfl, rfl, by decide +kernel, rfl, by decide +kernel, by decide +kernel⟩
theorem ok_no_result (T : Tx K mg) : Has P w K mg base 1 (He.ga K "no_result") P_no_result (sp_no_result K) := by
  have nd := sc_no_result.nd
  refine has_mk T.f_no_result sc_no_result (fun _ => rfl) (fun _ _ _ _ _ _ us hl => match us, hl with | [], _ => rfl) (fun cdv E outer s H X hr a G vs Q sm ha hok k => ⟨_, (pss_one (ps_ret (pe_lst (pa_cons (pe_un un_neg pe_int) pa_nil)))), ?_⟩)
  cases ha
  exact st_ret sm (ev_NL (ev_lst1 (R := qI) (ev_Z (ev_neg ev_c)))) k
abbrev N_weight_too_large : List Str := []
abbrev P_weight_too_large : List Str := []
theorem sc_weight_too_large : FnScope N_weight_too_large P_weight_too_large (defScope s_weight_too_large) := ⟨rfl, rfl, rfl, by decide +kernel, rfl, by decide +kernel, by decide +kernel⟩
theorem ok_weight_too_large (T : Tx K mg) : Has P w K mg base 1 (He.ga K "weight_too_large") P_weight_too_large (sp_weight_too_large K) := by
  have nd := sc_weight_too_large.nd
  refine has_mk T.f_weight_too_large sc_weight_too_large (fun _ => rfl) (fun _ _ _ _ _ _ us hl => match us, hl with | [], _ => rfl) (fun cdv E outer s H X hr a G vs Q sm ha hok k => ⟨_, (pss_one (ps_ret (pe_lst (pa_cons (pe_un un_neg pe_int) pa_nil)))), ?_⟩)
  cases ha
  exact st_ret sm (ev_NL (ev_lst1 (R := qI) (ev_Z (ev_neg ev_c)))) k
abbrev sp_is_set (K : PySem.W.Frag) : Sp := spG (α := Chain × List Nat) (fun a => [aR (qC K) a.1, aR (qL qN) a.2]) (fun a => a.2.length ≤ 1000) fun a => isV (.bl (isSet a.1 a.2))
abbrev N_is_set : List Str := ["chain", "states", "i"]
abbrev P_is_set : List Str := ["chain", "states"]
theorem sc_is_set : FnScope N_is_set P_is_set (defScope s_is_set) := ⟨rfl, rfl, rfl, by decide +kernel, rfl, by decide +kernel, by decide +kernel⟩
theorem ok_is_set (T : Tx K mg) : Has P w K mg base 2 (He.ga K "is_set") P_is_set (sp_is_set K) := by
  obtain ⟨⟨_, F_Chain_has_state, b_Chain_has_state⟩, kp_Chain_has_state⟩ := ok_Chain_has_state (P := P) (w := w) (base := base) T
  have nd := sc_is_set.nd
  refine has_mk T.f_is_set sc_is_set (fun _ => rfl) (fun _ _ _ _ _ _ us hl => match us, hl with | [_, _], _ => rfl) (fun cdv E outer s H X hr a G vs Q sm ha hok k => ⟨_, (pss_cons (ps_if (PW.pt (pw_or (pt_cmpR op_eq (pe_callB (k_len K rfl) (by rfl) T.z_len PySem.boot_len (pa_cons (pv 1) pa_nil)) pe_int (by rfl)) (pw_or1 (pt_cmpR op_ne (pe_lenSetA (by rfl) T.z_len (by rfl) T.z_set (pv 1)) (pe_callB (k_len K rfl) (by rfl) T.z_len PySem.boot_len (pa_cons (pv 1) pa_nil)) (by rfl))))) (pss_one (ps_ret pe_bl)) pss_nil)
      (pss_one (ps_ret (pe_callB (k_all K rfl rfl) (by rfl) T.z_all (by decide +kernel) (pa_cons (pe_lc (own := [("i", 2)]) rfl nd (k_pil K rfl (pv 1)) (blkOk_by (own := [("i", 2)]) (N := N_is_set) (sc := defScope s_is_set) (by decide +kernel)) (fun _ _ _ _ _ => (pg_name (i := 2) nd rfl (.inl rfl))) (fun _ _ _ _ _ => pts_nil) (fun _ _ _ _ _ => (pe_meth (pv 0) T.c_Chain T.h_Chain_has_state F_Chain_has_state (hr.mono (by decide)) b_Chain_has_state .nil pass0 (pa_cons (pv 2) pa_nil)))) pa_nil))))), ?_⟩)
  obtain ⟨v1, _, rfl, h1, v2, _, rfl, h2, rfl⟩ := ha
  obtain ⟨c, U⟩ := a
  dsimp only at hok h1 h2 k ⊢
  have em : met (castL U) = U.eraseDups.length := met_count (nodup_eraseDups _ _ (Nat.le_refl _)) fun x => List.mem_eraseDups
  refine sq_ifN sm (et_or (et_test (ev_eq (ev_lenL (ev_vR rfl h2)) ev_c rfl)) fun _ => et_test (ev_ne (ev_lenSetN (ev_vR rfl h2) (by omega)) (ev_lenL (ev_vR rfl h2)) rfl)) (fun b G2 H2 e2 => ?_) fun b G2 H2 e2 => ?_
  · refine st_ret e2.sub ev_c fun v G3 H3 e3 p => k v G3 H3 (e2.trans e3) ?_
    rw [show v = V.bl false from p]
    have e : isSet c U = false := by
      unfold isSet
      rw [Bool.or_eq_true] at b
      rcases b with b | b
      · rw [dec_int] at b
        have b' : (U.length : Int) = 0 := by simpa using b
        have : U = [] := List.eq_nil_of_length_eq_zero (by omega)
        subst this
        rfl
      · rw [dec_int_nat, em] at b
        have b' : ¬ U.eraseDups.length = U.length := by simpa using b
        rw [decide_eq_false b', Bool.and_false, Bool.and_false]
    rw [e]
    rfl
  · rw [Bool.or_eq_false_iff] at b
    obtain ⟨b1, b2⟩ := b
    rw [dec_int] at b1
    rw [dec_int_nat, em] at b2
    have b2' : U.eraseDups.length = U.length := by simpa using b2
    refine st_ret e2.sub (ev_V (ev_all (ev_NL (ev_mapL (K := K) (R := qB) (S := qN) (f := fun i => decide (i < size c)) (ev_vR rfl (Mo.mo e2.g h2)) (by omega) (fun _ => rfl) fun i hi v G' H' e rv => ?_))) ?_) fun v G3 H3 e3 p => k v G3 H3 (e2.trans e3) p
    · have ev : v = .int (i : Int) := rv
      subst ev
      exact ev_Y (ev_meth (c, i) (ev_vR rfl (Mo.mo (e2.trans e).g h1)) (ea_V (ev_var rfl) ea_nil) rfl trivial)
    · congr 1
      unfold isSet
      rw [decide_eq_true b2', Bool.and_true, List.all_map]
      have ne : (U != []) = true := by
        cases U with
        | nil => simp at b1
        | cons _ _ => rfl
      rw [ne, Bool.true_and]
      rfl
abbrev OpArgT : Type := Chain × Nat × List Nat
abbrev OpOkT (a : OpArgT) : Prop := COk a.1 ∧ a.2.2.length ≤ 1000
abbrev sp_hitting_probability (K : PySem.W.Frag) : Sp := spG (α := OpArgT) (fun a => [aR (qC K) a.1, aV (.int (a.2.1 : Int)), aR (qL qN) a.2.2]) OpOkT fun a => isR (qL qI) (opR a.1 (.hitting a.2.1 a.2.2))
abbrev N_hitting_probability : List Str := ["chain", "i", "targets"]
abbrev P_hitting_probability : List Str := ["chain", "i", "targets"]
theorem sc_hitting_probability : FnScope N_hitting_probability P_hitting_probability (defScope s_hitting_probability) := ⟨rfl, rfl, rfl, by decide +kernel, rfl, by decide +kernel, by decide +kernel⟩
theorem ok_hitting_probability (T : Tx K mg) : Has P w K mg base 5 (He.ga K "hitting_probability") P_hitting_probability (sp_hitting_probability K) := by
  obtain ⟨⟨_, F_Chain_has_state, b_Chain_has_state⟩, kp_Chain_has_state⟩ := ok_Chain_has_state (P := P) (w := w) (base := base) T
  obtain ⟨⟨_, F_hitting_probabilities, b_hitting_probabilities⟩, kp_hitting_probabilities⟩ := ok_hitting_probabilities (P := P) (w := w) (base := base) T
  obtain ⟨⟨_, F_is_set, b_is_set⟩, kp_is_set⟩ := ok_is_set (P := P) (w := w) (base := base) T
  obtain ⟨⟨_, F_no_such_state, b_no_such_state⟩, kp_no_such_state⟩ := ok_no_such_state (P := P) (w := w) (base := base) T
  obtain ⟨⟨_, F_out_of_range, b_out_of_range⟩, kp_out_of_range⟩ := ok_out_of_range (P := P) (w := w) (base := base) T
  have nd := sc_hitting_probability.nd
  refine has_mk T.f_hitting_probability sc_hitting_probability (fun _ => rfl) (fun _ _ _ _ _ _ us hl => match us, hl with | [_, _, _], _ => rfl) (fun cdv E outer s H X hr a G vs Q sm ha hok k => ⟨_, (pss_cons (ps_if (pt_not (pt_val (pe_meth (pv 0) T.c_Chain T.h_Chain_has_state F_Chain_has_state (hr.mono (by decide)) b_Chain_has_state .nil pass0 (pa_cons (pv 1) pa_nil)))) (pss_one (ps_ret (pe_call0 F_no_such_state (hr.mono (by decide)) (by rfl) T.g_no_such_state kp_no_such_state b_no_such_state .nil pass0))) pss_nil)
      (pss_cons (ps_if (pt_not (pt_val (pe_call F_is_set (hr.mono (by decide)) (by rfl) T.g_is_set kp_is_set b_is_set .nil pass0 (pa_cons (pv 0) (pa_cons (pv 2) pa_nil))))) (pss_one (ps_ret (pe_call0 F_out_of_range (hr.mono (by decide)) (by rfl) T.g_out_of_range kp_out_of_range b_out_of_range .nil pass0))) pss_nil)
      (pss_one (ps_ret (pe_op op_cat (pe_lst (pa_cons pe_int pa_nil)) (pe_callTy (k_list K rfl) (by rfl) T.z_list (by decide +kernel) (pa_cons (pe_ix (k_ixl K rfl) (pe_call F_hitting_probabilities (hr.mono (by decide)) (by rfl) T.g_hitting_probabilities kp_hitting_probabilities b_hitting_probabilities .nil pass0 (pa_cons (pv 0) (pa_cons (pv 2) pa_nil))) (pv 1) (fun _ _ => rfl)) pa_nil))))))), ?_⟩)
  obtain ⟨v1, _, rfl, h1, _, _, rfl, rfl, v3, _, rfl, h3, rfl⟩ := ha
  obtain ⟨ok, hl⟩ := hok
  obtain ⟨c, i, U⟩ := a
  dsimp only at ok hl h1 h3 k ⊢
  rw [op_hit] at k
  refine sq_ifN sm (et_state (c := c) (i := i) (ev_meth (c, i) (ev_vR rfl h1) (ea_V (ev_var rfl) ea_nil) rfl trivial)) (fun b G2 H2 e2 => ?_) fun b G2 H2 e2 => ?_
  · have b' : isState c i = false := by simpa using b
    rw [if_pos b'] at k
    exact st_ret e2.sub (ev_call () ea_nil trivial) fun v G3 H3 e3 p => k v G3 H3 (e2.trans e3) p
  · have b' : isState c i = true := by simpa using b
    have hi : i < size c := of_decide_eq_true b'
    rw [b', if_neg (by decide)] at k
    refine sq_ifN e2.sub (et_not (et_B (ev_call (c, U) (ea_R (ev_vR rfl (Mo.mo e2.g h1)) (ea_R (ev_vR rfl (Mo.mo e2.g h3)) ea_nil)) hl))) (fun d G3 H3 e3 => ?_) fun d G3 H3 e3 => ?_
    · have d' : isSet c U = false := by simpa using d
      rw [if_pos d'] at k
      exact st_ret e3.sub (ev_call () ea_nil trivial) fun v G4 H4 e4 p => k v G4 H4 ((e2.trans e3).trans e4) p
    · have d' : isSet c U = true := by simpa using d
      rw [d', if_neg (by decide)] at k
      have so := (isSet_ok d').1
      have e23 := e2.trans e3
      exact st_ret e3.sub (ev_res0 (ev_ixL (ev_call (c, U) (ea_R (ev_vR rfl (Mo.mo e23.g h1)) (ea_R (ev_vR rfl (Mo.mo e23.g h3)) ea_nil)) ⟨ok, so⟩) (ev_var rfl) (at_getD zero (by rw [EC.hitting_is ok so, List.length_map, states_len]; exact hi)))) fun v G4 H4 e4 p => k v G4 H4 (e23.trans e4) p
abbrev sp_hitting_time (K : PySem.W.Frag) : Sp := spG (α := OpArgT) (fun a => [aR (qC K) a.1, aV (.int (a.2.1 : Int)), aR (qL qN) a.2.2]) OpOkT fun a => isR (qL qI) (opR a.1 (.hittingTime a.2.1 a.2.2))
abbrev N_hitting_time : List Str := ["chain", "i", "targets", "mean"]
abbrev P_hitting_time : List Str := ["chain", "i", "targets"]
theorem sc_hitting_time : FnScope N_hitting_time P_hitting_time (defScope s_hitting_time) := ⟨rfl, rfl, rfl, by decide +kernel, rfl, by decide +kernel, by decide +kernel⟩
theorem ok_hitting_time (T : Tx K mg) : Has P w K mg base 6 (He.ga K "hitting_time") P_hitting_time (sp_hitting_time K) := by
  obtain ⟨⟨_, F_Chain_has_state, b_Chain_has_state⟩, kp_Chain_has_state⟩ := ok_Chain_has_state (P := P) (w := w) (base := base) T
  obtain ⟨⟨_, F_hitting_times, b_hitting_times⟩, kp_hitting_times⟩ := ok_hitting_times (P := P) (w := w) (base := base) T
  obtain ⟨⟨_, F_is_set, b_is_set⟩, kp_is_set⟩ := ok_is_set (P := P) (w := w) (base := base) T
  obtain ⟨⟨_, F_no_result, b_no_result⟩, kp_no_result⟩ := ok_no_result (P := P) (w := w) (base := base) T
  obtain ⟨⟨_, F_no_such_state, b_no_such_state⟩, kp_no_such_state⟩ := ok_no_such_state (P := P) (w := w) (base := base) T
  obtain ⟨⟨_, F_out_of_range, b_out_of_range⟩, kp_out_of_range⟩ := ok_out_of_range (P := P) (w := w) (base := base) T
  have nd := sc_hitting_time.nd
  refine has_mk T.f_hitting_time sc_hitting_time (fun _ => rfl) (fun _ _ _ _ _ _ us hl => match us, hl with | [_, _, _], _ => rfl) (fun cdv E outer s H X hr a G vs Q sm ha hok k => ⟨_, (pss_cons (ps_if (pt_not (pt_val (pe_meth (pv 0) T.c_Chain T.h_Chain_has_state F_Chain_has_state (hr.mono (by decide)) b_Chain_has_state .nil pass0 (pa_cons (pv 1) pa_nil)))) (pss_one (ps_ret (pe_call0 F_no_such_state (hr.mono (by decide)) (by rfl) T.g_no_such_state kp_no_such_state b_no_such_state .nil pass0))) pss_nil)
      (pss_cons (ps_if (pt_not (pt_val (pe_call F_is_set (hr.mono (by decide)) (by rfl) T.g_is_set kp_is_set b_is_set .nil pass0 (pa_cons (pv 0) (pa_cons (pv 2) pa_nil))))) (pss_one (ps_ret (pe_call0 F_out_of_range (hr.mono (by decide)) (by rfl) T.g_out_of_range kp_out_of_range b_out_of_range .nil pass0))) pss_nil)
      (pss_cons (ps_set (i := 3) nd rfl (.inl rfl) (pe_ix (k_ixl K rfl) (pe_call F_hitting_times (hr.mono (by decide)) (by rfl) T.g_hitting_times kp_hitting_times b_hitting_times .nil pass0 (pa_cons (pv 0) (pa_cons (pv 2) pa_nil))) (pv 1) (fun _ _ => rfl)))
      (pss_cons (ps_if (pt_cmpR op_isN (pv 3) pe_non (by rfl)) (pss_one (ps_ret (pe_call0 F_no_result (hr.mono (by decide)) (by rfl) T.g_no_result kp_no_result b_no_result .nil pass0))) pss_nil)
      (pss_one (ps_ret (pe_op op_cat (pe_lst (pa_cons pe_int pa_nil)) (pe_callTy (k_list K rfl) (by rfl) T.z_list (by decide +kernel) (pa_cons (pv 3) pa_nil))))))))), ?_⟩)
  obtain ⟨v1, _, rfl, h1, _, _, rfl, rfl, v3, _, rfl, h3, rfl⟩ := ha
  obtain ⟨ok, hl⟩ := hok
  obtain ⟨c, i, U⟩ := a
  dsimp only at ok hl h1 h3 k ⊢
  rw [op_hitTime] at k
  refine sq_ifN sm (et_state (c := c) (i := i) (ev_meth (c, i) (ev_vR rfl h1) (ea_V (ev_var rfl) ea_nil) rfl trivial)) (fun b G2 H2 e2 => ?_) fun b G2 H2 e2 => ?_
  · have b' : isState c i = false := by simpa using b
    rw [if_pos b'] at k
    exact st_ret e2.sub (ev_call () ea_nil trivial) fun v G3 H3 e3 p => k v G3 H3 (e2.trans e3) p
  · have b' : isState c i = true := by simpa using b
    have hi : i < size c := of_decide_eq_true b'
    rw [b', if_neg (by decide)] at k
    refine sq_ifN e2.sub (et_not (et_B (ev_call (c, U) (ea_R (ev_vR rfl (Mo.mo e2.g h1)) (ea_R (ev_vR rfl (Mo.mo e2.g h3)) ea_nil)) hl))) (fun d G3 H3 e3 => ?_) fun d G3 H3 e3 => ?_
    · have d' : isSet c U = false := by simpa using d
      rw [if_pos d'] at k
      exact st_ret e3.sub (ev_call () ea_nil trivial) fun v G4 H4 e4 p => k v G4 H4 ((e2.trans e3).trans e4) p
    · have d' : isSet c U = true := by simpa using d
      rw [d', if_neg (by decide)] at k
      have so := (isSet_ok d').1
      have e23 := e2.trans e3
      refine sq_set e3.sub (ev_ixL (ev_call (c, U) (ea_R (ev_vR rfl (Mo.mo e23.g h1)) (ea_R (ev_vR rfl (Mo.mo e23.g h3)) ea_nil)) ⟨ok, so⟩) (ev_var rfl) (states_at hi)) fun v4 G4 H4 e4 p4 => ?_
      have p4' : qO qF G4 v4 (hittingTime c U i) := p4
      have e24 := e23.trans e4
      refine sq_ifN e4.sub (et_test (ev_isN nn_F (ev_vR rfl p4'))) (fun f G5 H5 e5 => ?_) fun f G5 H5 e5 => ?_
      · have f' : hittingTime c U i = none := by simpa using f
        rw [f'] at k
        exact st_ret e5.sub (ev_call () ea_nil trivial) fun v G6 H6 e6 p => k v G6 H6 ((e24.trans e5).trans e6) p
      · cases ht : hittingTime c U i with
        | none => rw [ht] at f; cases f
        | some t =>
          rw [ht] at k p4'
          exact st_ret e5.sub (ev_res0 (ev_some (ev_vR (R := qO qF) rfl (Mo.mo e5.g p4')))) fun v G6 H6 e6 p => k v G6 H6 ((e24.trans e5).trans e6) p
abbrev sp_absorption (K : PySem.W.Frag) : Sp := spG (α := Chain × Nat) (fun a => [aR (qC K) a.1, aV (.int (a.2 : Int))]) (fun a => COk a.1) fun a => isR (qL qI) (opR a.1 (.absorption a.2))
abbrev N_absorption : List Str := ["chain", "i", "found", "told", "members"]
abbrev P_absorption : List Str := ["chain", "i"]
theorem sc_absorption : FnScope N_absorption P_absorption (defScope s_absorption) := ⟨rfl, rfl, rfl, by decide +kernel, rfl, by decide +kernel, by decide +kernel⟩
theorem ok_absorption (T : Tx K mg) : Has P w K mg base 7 (He.ga K "absorption") P_absorption (sp_absorption K) := by
  obtain ⟨⟨_, F_Chain_has_state, b_Chain_has_state⟩, kp_Chain_has_state⟩ := ok_Chain_has_state (P := P) (w := w) (base := base) T
  obtain ⟨⟨_, F_closed_classes, b_closed_classes⟩, kp_closed_classes⟩ := ok_closed_classes (P := P) (w := w) (base := base) T
  obtain ⟨⟨_, F_hitting_probabilities, b_hitting_probabilities⟩, kp_hitting_probabilities⟩ := ok_hitting_probabilities (P := P) (w := w) (base := base) T
  obtain ⟨⟨_, F_no_such_state, b_no_such_state⟩, kp_no_such_state⟩ := ok_no_such_state (P := P) (w := w) (base := base) T
  have nd := sc_absorption.nd
  refine has_mk T.f_absorption sc_absorption (fun _ => rfl) (fun _ _ _ _ _ _ us hl => match us, hl with | [_, _], _ => rfl) (fun cdv E outer s H X hr a G vs Q sm ha hok k => ⟨_, (pss_cons (ps_if (pt_not (pt_val (pe_meth (pv 0) T.c_Chain T.h_Chain_has_state F_Chain_has_state (hr.mono (by decide)) b_Chain_has_state .nil pass0 (pa_cons (pv 1) pa_nil)))) (pss_one (ps_ret (pe_call0 F_no_such_state (hr.mono (by decide)) (by rfl) T.g_no_such_state kp_no_such_state b_no_such_state .nil pass0))) pss_nil)
      (pss_cons (ps_set (i := 2) nd rfl (.inl rfl) (pe_call F_closed_classes (hr.mono (by decide)) (by rfl) T.g_closed_classes kp_closed_classes b_closed_classes .nil pass0 (pa_cons (k_fld K rfl (pv 0)) pa_nil)))
      (pss_cons (ps_set (i := 3) nd rfl (.inl rfl) (pe_lst (pa_cons (pe_callB (k_len K rfl) (by rfl) T.z_len PySem.boot_len (pa_cons (pv 2) pa_nil)) pa_nil)))
      (pss_cons (ps_for PassesOwn.never rfl (k_pil K rfl (pv 2)) (pg_name (i := 4) nd rfl (.inl rfl)) (pss_cons (ps_expr (k_bm K rfl PySem.F.plainAttrs_list PySem.F.slot_list_append PySem.F.type_list_append mt_append (pv 3) (pa_cons (pe_ix (k_ixl K rfl) (pv 4) pe_int (fun _ _ => rfl)) pa_nil)))
      (pss_one (ps_expr (k_bm K rfl PySem.F.plainAttrs_list PySem.F.slot_list_extend PySem.F.type_list_extend (k_extT K rfl) (pv 3) (pa_cons (pe_ix (k_ixl K rfl) (pe_call F_hitting_probabilities (hr.mono (by decide)) (by rfl) T.g_hitting_probabilities kp_hitting_probabilities b_hitting_probabilities .nil pass0 (pa_cons (pv 0) (pa_cons (pv 4) pa_nil))) (pv 1) (fun _ _ => rfl)) pa_nil))))))
      (pss_one (ps_ret (pv 3))))))), ?_⟩)
  obtain ⟨v1, _, rfl, h1, _, _, rfl, rfl, rfl⟩ := ha
  have ok := hok
  obtain ⟨c, i⟩ := a
  dsimp only at ok h1 k ⊢
  rw [op_absorb] at k
  refine sq_ifN sm (et_state (c := c) (i := i) (ev_meth (c, i) (ev_vR rfl h1) (ea_V (ev_var rfl) ea_nil) rfl trivial)) (fun b G2 H2 e2 => ?_) fun b G2 H2 e2 => ?_
  · have b' : isState c i = false := by simpa using b
    rw [if_pos b'] at k
    exact st_ret e2.sub (ev_call () ea_nil trivial) fun v G3 H3 e3 p => k v G3 H3 (e2.trans e3) p
  · have b' : isState c i = true := by simpa using b
    have hi : i < size c := of_decide_eq_true b'
    rw [b', if_neg (by decide)] at k
    have cl8 := Nat.le_trans (EC.closed_len (c := c)) ok.le
    refine sq_set e2.sub (ev_call c (ea_R (ev_rows T (ev_vR rfl (Mo.mo e2.g h1))) ea_nil) ok) fun v3 G3 H3 e3 p3 => ?_
    have e23 := e2.trans e3
    refine sq_set e3.sub (ev_lst1 (R := qI) (ev_Z (ev_lenL (ev_vR rfl p3)))) fun v G4 H4 e4 n4 => ?_
    obtain ⟨p4, rfl, l4⟩ := locl_of n4
    have l4 := l4.back e23.h
    have e24 := e23.trans e4
    let one' : Nat → List Int := fun x => [((x : Nat) : Int)] ++ Lrx1.ints (entry (hitting c (classOf c x)) i)
    let told : Nat → List Int := fun m => ((closedClasses c).length : Int) :: ((closedClasses c).take m).flatMap one'
    have tl : ∀ m, (told m).length ≤ 1 + 3 * m := fun m => by
      show (((closedClasses c).take m).flatMap one').length + 1 ≤ _
      rw [List.length_flatMap]
      have : (((closedClasses c).take m).map fun x => (one' x).length) = List.replicate ((closedClasses c).take m).length 3 := by
        rw [List.eq_replicate_iff]
        exact ⟨by simp, fun b hb => by obtain ⟨x, _, rfl⟩ := List.mem_map.mp hb; rfl⟩
      rw [this, List.sum_replicate_nat, List.length_take]
      have : min m (closedClasses c).length ≤ m := Nat.min_le_left _ _
      omega
    refine sq (fo_list (S := qL qN) (xs := (closedClasses c).map (classOf c)) e4.sub (ev_vR rfl (Mo.mo e4.g p3)) (fun m σ G5 H5 => ∃ r5, σ = [some v1, some (.int (i : Int)), some v3, some (.ref p4), r5] ∧ Ext G H G5 H5 ∧ LocL qI (told m) H p4 G5 H5) (fun G5 H5 e5 => ⟨none, rfl, e24.trans e5, ?_⟩) ?_ ?_)
    · have z : told 0 = [(((closedClasses c).map (classOf c)).length : Int)] := by
        show _ :: ((closedClasses c).take 0).flatMap one' = _
        rw [List.take_zero, List.length_map]
        rfl
      rw [z]
      exact l4.ext e5
    · rintro m L v σ G5 H5 hx sg s5 rv ⟨r5, rfl, e5, l5⟩
      rw [List.getElem?_map] at hx
      cases hcl : (closedClasses c)[m]? with
      | none => rw [hcl] at hx; cases hx
      | some cl =>
        rw [hcl] at hx
        have eL : classOf c cl = L := Option.some.inj hx
        subst eL
        have hm : m < (closedClasses c).length := (List.getElem?_eq_some_iff.mp hcl).1
        obtain ⟨cl1, cl2, cl3⟩ := (EC.closed_mem ok).mp (List.mem_of_getElem? hcl)
        have so : SetOk c (classOf c cl) := EC.class_set cl
        have hat : (hitting c (classOf c cl))[i]? = some (entry (hitting c (classOf c cl)) i) := at_getD zero (by rw [EC.hitting_is ok so, List.length_map, states_len]; exact hi)
        have hd := (EC.class_head ok cl1).1
        rw [cl2] at hd
        refine sq (st_app (a := (cl : Int)) l5 s5 (ev_var rfl) (ev_Z (ev_ofN (ev_ixL (i := 0) (ev_vR rfl rv) ev_c hd))) (by have := tl m; omega) fun G6 H6 vs e6 l6 => ?_)
        have E6 := l6.up (e5.trans e6)
        refine st_extT (ys := [(entry (hitting c (classOf c cl)) i).num, ((entry (hitting c (classOf c cl)) i).den : Int)]) (f := fun G v => qF G v (entry (hitting c (classOf c cl)) i)) l6 E6.sub (ev_var rfl) (ev_fun (ev_ixL (ev_call (c, classOf c cl) (ea_R (ev_vR rfl (Mo.mo E6.g h1)) (ea_R (ev_vR rfl (Mo.mo e6.g rv)) ea_nil)) ⟨ok, so⟩) (ev_var rfl) hat)) (fun G H v s ⟨p, hv, hp⟩ => ⟨p, _, hv, SqT.of (s _ _ hp), .cons rfl (.cons rfl .nil)⟩) (by have := tl m; rw [List.length_append]; show _ + 1 + 2 ≤ 1000; omega) fun G7 H7 vs7 e7 l7 => ?_
        have E7 := l7.up (E6.trans e7)
        refine ⟨G7, e6.g.trans e7.g, E7.sub, _, rfl, E7, ?_⟩
        have z : told (m + 1) = told m ++ [(cl : Int)] ++ [(entry (hitting c (classOf c cl)) i).num, ((entry (hitting c (classOf c cl)) i).den : Int)] := by
          show _ :: ((closedClasses c).take (m + 1)).flatMap one' = _
          rw [take_step hcl, List.flatMap_append]
          simp [told, one', Lrx1.ints]
        rw [z]
        exact l7
    · rintro σ G5 H5 sg s5 ⟨r5, rfl, e5, l5⟩
      obtain ⟨G6, s6, e6, q6, _⟩ := l5.frz e5
      refine st_ret e6.sub (ev_vR rfl q6) fun v G7 H7 e7 p => k v G7 H7 (e6.trans e7) ?_
      have z : told ((closedClasses c).map (classOf c)).length = ((closedClasses c).length : Int) :: (closedClasses c).flatMap one' := by
        show _ :: ((closedClasses c).take _).flatMap one' = _
        rw [List.length_map, List.take_length]
      rw [z] at p
      exact p
abbrev OpArg2 : Type := Chain × Nat × Nat
theorem state_or1 {c : Chain} {i j : Nat} (h : (!isState c i || !isState c j) = true) : isState c i = false ∨ isState c j = false := by simpa using h
theorem state_or0 {c : Chain} {i j : Nat} (h : (!isState c i || !isState c j) = false) : (i < size c ∧ j < size c) ∧ ¬ (isState c i = false ∨ isState c j = false) := by
  have h' : isState c i = true ∧ isState c j = true := by simpa using h
  refine ⟨⟨of_decide_eq_true h'.1, of_decide_eq_true h'.2⟩, ?_⟩
  rw [h'.1, h'.2]
  simp
theorem ev_list1N {σ : L2.St} {G H : Hp} {ta : TE} {j : Nat} (h : Ev ta σ G H (isV (.int (j : Int)))) : Ev (tLst (tCons ta tNil)) σ G H (isR (qL qN) [j]) := ev_NL (ev_lst1 (R := qN) (ev_N h))
abbrev sp_visits (K : PySem.W.Frag) : Sp := spG (α := OpArg2) (fun a => [aR (qC K) a.1, aV (.int (a.2.1 : Int)), aV (.int (a.2.2 : Int))]) (fun a => COk a.1) fun a => isR (qL qI) (opR a.1 (.visits a.2.1 a.2.2))
abbrev N_visits : List Str := ["chain", "i", "j", "chances", "back", "k", "chance"]
abbrev P_visits : List Str := ["chain", "i", "j"]
theorem sc_visits : FnScope N_visits P_visits (defScope s_visits) := ⟨rfl, rfl, rfl, by decide +kernel, rfl, by decide +kernel, by decide +kernel⟩
theorem ok_visits (T : Tx K mg) : Has P w K mg base 5 (He.ga K "visits") P_visits (sp_visits K) := by
  obtain ⟨⟨_, F_Chain_chance_of, b_Chain_chance_of⟩, kp_Chain_chance_of⟩ := ok_Chain_chance_of (P := P) (w := w) (base := base) T
  obtain ⟨⟨_, F_Chain_has_state, b_Chain_has_state⟩, kp_Chain_has_state⟩ := ok_Chain_has_state (P := P) (w := w) (base := base) T
  obtain ⟨⟨_, F_added, b_added⟩, kp_added⟩ := ok_added (P := P) (w := w) (base := base) T
  obtain ⟨⟨_, F_class_of, b_class_of⟩, kp_class_of⟩ := ok_class_of (P := P) (w := w) (base := base) T
  obtain ⟨⟨_, F_hitting_probabilities, b_hitting_probabilities⟩, kp_hitting_probabilities⟩ := ok_hitting_probabilities (P := P) (w := w) (base := base) T
  obtain ⟨⟨_, F_is_closed, b_is_closed⟩, kp_is_closed⟩ := ok_is_closed (P := P) (w := w) (base := base) T
  obtain ⟨⟨_, F_no_result, b_no_result⟩, kp_no_result⟩ := ok_no_result (P := P) (w := w) (base := base) T
  obtain ⟨⟨_, F_no_such_state, b_no_such_state⟩, kp_no_such_state⟩ := ok_no_such_state (P := P) (w := w) (base := base) T
  obtain ⟨⟨_, F_product, b_product⟩, kp_product⟩ := ok_product (P := P) (w := w) (base := base) T
  obtain ⟨⟨_, F_quotient, b_quotient⟩, kp_quotient⟩ := ok_quotient (P := P) (w := w) (base := base) T
  obtain ⟨⟨_, F_reaches, b_reaches⟩, kp_reaches⟩ := ok_reaches (P := P) (w := w) (base := base) T
  obtain ⟨⟨_, F_rest_to_one, b_rest_to_one⟩, kp_rest_to_one⟩ := ok_rest_to_one (P := P) (w := w) (base := base) T
  have nd := sc_visits.nd
  refine has_mk T.f_visits sc_visits (fun _ => rfl) (fun _ _ _ _ _ _ us hl => match us, hl with | [_, _, _], _ => rfl) (fun cdv E outer s H X hr a G vs Q sm ha hok k => ⟨_, (pss_cons (ps_if (PW.pt (pw_or (pt_not (pt_val (pe_meth (pv 0) T.c_Chain T.h_Chain_has_state F_Chain_has_state (hr.mono (by decide)) b_Chain_has_state .nil pass0 (pa_cons (pv 1) pa_nil)))) (pw_or1 (pt_not (pt_val (pe_meth (pv 0) T.c_Chain T.h_Chain_has_state F_Chain_has_state (hr.mono (by decide)) b_Chain_has_state .nil pass0 (pa_cons (pv 2) pa_nil))))))) (pss_one (ps_ret (pe_call0 F_no_such_state (hr.mono (by decide)) (by rfl) T.g_no_such_state kp_no_such_state b_no_such_state .nil pass0))) pss_nil)
      (pss_cons (ps_if (pt_not (pt_val (pe_call F_reaches (hr.mono (by decide)) (by rfl) T.g_reaches kp_reaches b_reaches .nil pass0 (pa_cons (k_fld K rfl (pv 0)) (pa_cons (pv 1) (pa_cons (pv 2) pa_nil)))))) (pss_one (ps_ret (pe_lst (pa_cons pe_int (pa_cons pe_int (pa_cons pe_int pa_nil)))))) pss_nil)
      (pss_cons (ps_if (pt_val (pe_call F_is_closed (hr.mono (by decide)) (by rfl) T.g_is_closed kp_is_closed b_is_closed .nil pass0 (pa_cons (k_fld K rfl (pv 0)) (pa_cons (pe_call F_class_of (hr.mono (by decide)) (by rfl) T.g_class_of kp_class_of b_class_of .nil pass0 (pa_cons (k_fld K rfl (pv 0)) (pa_cons (pv 2) pa_nil))) pa_nil)))) (pss_one (ps_ret (pe_call0 F_no_result (hr.mono (by decide)) (by rfl) T.g_no_result kp_no_result b_no_result .nil pass0))) pss_nil)
      (pss_cons (ps_set (i := 3) nd rfl (.inl rfl) (pe_call F_hitting_probabilities (hr.mono (by decide)) (by rfl) T.g_hitting_probabilities kp_hitting_probabilities b_hitting_probabilities .nil pass0 (pa_cons (pv 0) (pa_cons (pe_lst (pa_cons (pv 2) pa_nil)) pa_nil))))
      (pss_cons (ps_set (i := 4) nd rfl (.inl rfl) (pe_call F_added (hr.mono (by decide)) (by rfl) T.g_added kp_added b_added .nil pass0 (pa_cons (pe_lc (own := [("k", 5), ("chance", 6)]) rfl nd (k_pie K rfl (by rfl) T.z_enumerate (pa_cons (pv 3) pa_nil)) (blkOk_by (own := [("k", 5), ("chance", 6)]) (N := N_visits) (sc := defScope s_visits) (by decide +kernel)) (fun _ _ _ _ _ => (k_pgt K rfl (n := 2) rfl (pgs_cons (pg_name (i := 5) nd rfl (.inl rfl)) (pgs_cons (pg_name (i := 6) nd rfl (.inl rfl)) pgs_nil)))) (fun _ _ _ _ _ => pts_nil) (fun _ _ _ _ _ => (pe_call F_product (hr.mono (by decide)) (by rfl) T.g_product kp_product b_product .nil pass0 (pa_cons (pe_meth (pv 0) T.c_Chain T.h_Chain_chance_of F_Chain_chance_of (hr.mono (by decide)) b_Chain_chance_of .nil pass0 (pa_cons (pv 2) (pa_cons (pe_lst (pa_cons (pv 5) pa_nil)) pa_nil))) (pa_cons (pv 6) pa_nil))))) pa_nil)))
      (pss_one (ps_ret (pe_op op_cat (pe_lst (pa_cons pe_int pa_nil)) (pe_callTy (k_list K rfl) (by rfl) T.z_list (by decide +kernel) (pa_cons (pe_call F_quotient (hr.mono (by decide)) (by rfl) T.g_quotient kp_quotient b_quotient .nil pass0 (pa_cons (pe_ix (k_ixl K rfl) (pv 3) (pv 1) (fun _ _ => rfl)) (pa_cons (pe_call F_rest_to_one (hr.mono (by decide)) (by rfl) T.g_rest_to_one kp_rest_to_one b_rest_to_one .nil pass0 (pa_cons (pv 4) pa_nil)) pa_nil))) pa_nil)))))))))), ?_⟩)
  obtain ⟨v1, _, rfl, h1, _, _, rfl, rfl, _, _, rfl, rfl, rfl⟩ := ha
  have ok := hok
  obtain ⟨c, i, j⟩ := a
  dsimp only at ok h1 k ⊢
  rw [op_visits] at k
  refine sq_ifN sm (et_or (et_state (c := c) (i := i) (ev_meth (c, i) (ev_vR rfl h1) (ea_V (ev_var rfl) ea_nil) rfl trivial)) fun _ => et_state (c := c) (i := j) (ev_meth (c, j) (ev_vR rfl h1) (ea_V (ev_var rfl) ea_nil) rfl trivial)) (fun b G2 H2 e2 => ?_) fun b G2 H2 e2 => ?_
  · rw [if_pos (state_or1 b)] at k
    exact st_ret e2.sub (ev_call () ea_nil trivial) fun v G3 H3 e3 p => k v G3 H3 (e2.trans e3) p
  · obtain ⟨⟨hi, hj⟩, b'⟩ := state_or0 b
    rw [if_neg b'] at k
    refine sq_ifN e2.sub (et_not (et_B (ev_call (c, i, j) (ea_R (ev_rows T (ev_vR rfl (Mo.mo e2.g h1))) (ea_V (ev_var rfl) (ea_V (ev_var rfl) ea_nil))) ⟨ok, hi, hj⟩))) (fun d G3 H3 e3 => ?_) fun d G3 H3 e3 => ?_
    · have d' : Lrx1.reaches c i j = false := by simpa using d
      unfold Lrx1.visits at k
      rw [if_pos d'] at k
      exact st_ret e3.sub (ev_NL (ev_lstR (R := qI) (xs := [0, 0, 1]) (ea_R (ev_Z ev_c) (ea_R (ev_Z ev_c) (ea_R (ev_Z ev_c) ea_nil))) (by show 3 ≤ 1000; decide))) fun v G4 H4 e4 p => k v G4 H4 ((e2.trans e3).trans e4) p
    · have d' : Lrx1.reaches c i j = true := by simpa using d
      unfold Lrx1.visits at k
      rw [d', if_neg (by decide)] at k
      have e23 := e2.trans e3
      refine sq_ifN e3.sub (et_B (ev_call (c, j) (ea_R (ev_rows T (ev_vR rfl (Mo.mo e23.g h1))) (ea_R (ev_call (c, j) (ea_R (ev_rows T (ev_vR rfl (Mo.mo e23.g h1))) (ea_V (ev_var rfl) ea_nil)) ⟨ok, hj⟩) ea_nil)) ⟨ok, hj⟩)) (fun f G4 H4 e4 => ?_) fun f G4 H4 e4 => ?_
      · have f' : isClosed c j = true := f
        rw [if_pos f'] at k
        exact st_ret e4.sub (ev_call () ea_nil trivial) fun v G5 H5 e5 p => k v G5 H5 ((e23.trans e4).trans e5) p
      · have f' : isClosed c j = false := f
        rw [f', if_neg (by decide)] at k
        have e24 := e23.trans e4
        have so := EC.setOne hj
        have hlen : (hitting c [j]).length = size c := by rw [EC.hitting_is ok so, List.length_map, states_len]
        have hat : ∀ x, x < size c → (hitting c [j])[x]? = some (entry (hitting c [j]) x) := fun x hx => at_getD zero (by rw [hlen]; exact hx)
        obtain ⟨D, d1, d2, d3⟩ := EC.hit_dens ok so (by simp)
        obtain ⟨B, b1, b2, b3⟩ := EC.back_dens ok hj
        refine sq_set e4.sub (ev_call (c, [j]) (ea_R (ev_vR rfl (Mo.mo e24.g h1)) (ea_R (ev_list1N (ev_var rfl)) ea_nil)) ⟨ok, so⟩) fun v4 G5 H5 e5 p5 => ?_
        have e25 := e24.trans e5
        have eb : (hitting c [j]).zipIdx.map (fun p => Lrx1.mul (jump c j p.2) p.1) = (states c).map fun x => Lrx1.mul (jump c j x) (entry (hitting c [j]) x) := by
          apply List.ext_getElem?
          intro x
          rw [List.getElem?_map, List.getElem?_zipIdx]
          by_cases hx : x < size c
          · rw [hat x hx, states_at hx]
            simp
          · rw [List.getElem?_eq_none (by omega), List.getElem?_eq_none (by simp [states]; omega)]
            rfl
        refine sq_set e5.sub (ev_call ((states c).map fun x => Lrx1.mul (jump c j x) (entry (hitting c [j]) x)) (ea_R (ev_a (ev_NL (ev_mapE (K := K) (R := qF) (S := qF) (xs := hitting c [j]) (f := fun p => Lrx1.mul (jump c j p.2) p.1) (ea_R (ev_vR rfl p5) ea_nil) (by rw [hlen]; exact size_small ok) (fun _ _ => rfl) fun x y hy v G' H' e rv => ?_)) eb) ea_nil) ⟨by rw [List.length_map, states_len]; exact size_small ok, ⟨3223, by decide, by decide, fun f hf => ?_⟩, B, 3223, b1, b2, by decide, by decide, fun f hf => ?_⟩) fun v5 G6 H6 e6 p6 => ?_
        · have hy' : y < size c := by rw [← hlen]; exact (List.getElem?_eq_some_iff.mp hy).1
          have ex : entry (hitting c [j]) y = x := getD_at hy
          refine ev_call (jump c j y, x) (ea_R (ev_a (ev_meth (c, j, [y]) (ev_vR rfl (Mo.mo (e25.trans e).g h1)) (ea_V (ev_var rfl) (ea_R (ev_list1N (ev_var rfl)) ea_nil)) rfl ⟨ok, hj, by simpa using hy', by show 1 ≤ 1000; decide⟩) (EC.chance_one ok j y)) (ea_R (ev_vR rfl rv) ea_nil)) ⟨24, 3199, by decide, by decide, by decide, EC.frOk_jump ok j y, by rw [← ex]; exact (d3 y hy').2⟩
        · obtain ⟨x, hx, rfl⟩ := List.mem_map.mp hf
          have := (b3 x (List.mem_range.mp hx)).1
          exact ⟨this.1, this.2.1⟩
        · obtain ⟨x, hx, rfl⟩ := List.mem_map.mp hf
          exact (b3 x (List.mem_range.mp hx)).2
        have p6' : qF G6 v5 (backF c j) := p6
        refine st_ret e6.sub (ev_res0 (ev_call (entry (hitting c [j]) i, Lrx1.sub one (backF c j)) (ea_R (ev_ixL (ev_vR rfl (Mo.mo e6.g p5)) (ev_var rfl) (hat i hi)) (ea_R (ev_call (backF c j) (ea_R (ev_vR rfl p6') ea_nil) (EC.red_backF ok hj)) ea_nil)) ⟨3199, 3223, by decide, by decide, by decide, (d3 i hi).2, EC.frOk_rest ok hj f', EC.back_num ok hj f'⟩)) fun v G7 H7 e7 p => k v G7 H7 ((e25.trans e6).trans e7) p
theorem watched_sum {c : Chain} (ok : COk c) {U : List Nat} (so : SetOk c U) (i j : Nat) : Lrx1.sum (jump c i j :: (states c).map fun x => Lrx1.mul (jump c i x) (firstF c U j x)) = Lrx1.watched c U i j := by
  have rm : ∀ f ∈ (states c).map (fun x => Lrx1.mul (jump c i x) (firstF c U j x)), Red f := fun f hf => by
    obtain ⟨x, hx, rfl⟩ := List.mem_map.mp hf
    exact EC.red_mul (EC.red_jump ok i x).pos (EC.red_firstF ok so j x).pos
  have rs := EC.red_sum rm
  rw [EC.watched_is ok so]
  have z1 := EC.fold_add (jump c i j :: (states c).map fun x => Lrx1.mul (jump c i x) (firstF c U j x)) zero EC.red_zero fun f hf => by
    rcases List.mem_cons.mp hf with rfl | hf
    · exact EC.red_jump ok i j
    · exact rm f hf
  have z2 := EC.fold_add ((states c).map fun x => Lrx1.mul (jump c i x) (firstF c U j x)) zero EC.red_zero rm
  refine EC.red_ext z1.1 (EC.red_add (EC.red_jump ok i j).pos rs.pos) ?_
  rw [EC.val_add (EC.red_jump ok i j).pos rs.pos]
  rw [show EC.val (Lrx1.sum (jump c i j :: _)) = _ from z1.2, show EC.val (Lrx1.sum ((states c).map _)) = _ from z2.2, List.map_cons, List.foldr_cons, EC.val_zero]
  grind
abbrev OpArg3 : Type := Chain × Nat × Nat × List Nat
abbrev sp_watched (K : PySem.W.Frag) : Sp := spG (α := OpArg3) (fun a => [aR (qC K) a.1, aV (.int (a.2.1 : Int)), aV (.int (a.2.2.1 : Int)), aR (qL qN) a.2.2.2]) (fun a => COk a.1 ∧ a.2.2.2.length ≤ 1000) fun a => isR (qL qI) (opR a.1 (.watched a.2.1 a.2.2.1 a.2.2.2))
abbrev N_watched : List Str := ["chain", "i", "j", "members", "entries", "unseen", "k", "entry"]
abbrev P_watched : List Str := ["chain", "i", "j", "members"]
theorem sc_watched : FnScope N_watched P_watched (defScope s_watched) := ⟨rfl, rfl, rfl, by decide +kernel, rfl, by decide +kernel, by decide +kernel⟩
theorem ok_watched (T : Tx K mg) : Has P w K mg base 5 (He.ga K "watched") P_watched (sp_watched K) := by
  obtain ⟨⟨_, F_Chain_chance_of, b_Chain_chance_of⟩, kp_Chain_chance_of⟩ := ok_Chain_chance_of (P := P) (w := w) (base := base) T
  obtain ⟨⟨_, F_Chain_has_state, b_Chain_has_state⟩, kp_Chain_has_state⟩ := ok_Chain_has_state (P := P) (w := w) (base := base) T
  obtain ⟨⟨_, F_added, b_added⟩, kp_added⟩ := ok_added (P := P) (w := w) (base := base) T
  obtain ⟨⟨_, F_first_entries, b_first_entries⟩, kp_first_entries⟩ := ok_first_entries (P := P) (w := w) (base := base) T
  obtain ⟨⟨_, F_is_set, b_is_set⟩, kp_is_set⟩ := ok_is_set (P := P) (w := w) (base := base) T
  obtain ⟨⟨_, F_no_result, b_no_result⟩, kp_no_result⟩ := ok_no_result (P := P) (w := w) (base := base) T
  obtain ⟨⟨_, F_no_such_state, b_no_such_state⟩, kp_no_such_state⟩ := ok_no_such_state (P := P) (w := w) (base := base) T
  obtain ⟨⟨_, F_out_of_range, b_out_of_range⟩, kp_out_of_range⟩ := ok_out_of_range (P := P) (w := w) (base := base) T
  obtain ⟨⟨_, F_product, b_product⟩, kp_product⟩ := ok_product (P := P) (w := w) (base := base) T
  have nd := sc_watched.nd
  refine has_mk T.f_watched sc_watched (fun _ => rfl) (fun _ _ _ _ _ _ us hl => match us, hl with | [_, _, _, _], _ => rfl) (fun cdv E outer s H X hr a G vs Q sm ha hok k => ⟨_, (pss_cons (ps_if (PW.pt (pw_or (pt_not (pt_val (pe_meth (pv 0) T.c_Chain T.h_Chain_has_state F_Chain_has_state (hr.mono (by decide)) b_Chain_has_state .nil pass0 (pa_cons (pv 1) pa_nil)))) (pw_or1 (pt_not (pt_val (pe_meth (pv 0) T.c_Chain T.h_Chain_has_state F_Chain_has_state (hr.mono (by decide)) b_Chain_has_state .nil pass0 (pa_cons (pv 2) pa_nil))))))) (pss_one (ps_ret (pe_call0 F_no_such_state (hr.mono (by decide)) (by rfl) T.g_no_such_state kp_no_such_state b_no_such_state .nil pass0))) pss_nil)
      (pss_cons (ps_if (pt_not (pt_val (pe_call F_is_set (hr.mono (by decide)) (by rfl) T.g_is_set kp_is_set b_is_set .nil pass0 (pa_cons (pv 0) (pa_cons (pv 3) pa_nil))))) (pss_one (ps_ret (pe_call0 F_out_of_range (hr.mono (by decide)) (by rfl) T.g_out_of_range kp_out_of_range b_out_of_range .nil pass0))) pss_nil)
      (pss_cons (ps_if (PW.pt (pw_or (pt_cmpR (k_notIn K rfl) (pv 1) (pv 3) (by rfl)) (pw_or1 (pt_cmpR (k_notIn K rfl) (pv 2) (pv 3) (by rfl))))) (pss_one (ps_ret (pe_call0 F_no_result (hr.mono (by decide)) (by rfl) T.g_no_result kp_no_result b_no_result .nil pass0))) pss_nil)
      (pss_cons (ps_set (i := 4) nd rfl (.inl rfl) (pe_call F_first_entries (hr.mono (by decide)) (by rfl) T.g_first_entries kp_first_entries b_first_entries .nil pass0 (pa_cons (pv 0) (pa_cons (pv 3) (pa_cons (pv 2) pa_nil)))))
      (pss_cons (ps_setLc (i := 5) (own := [("k", 6), ("entry", 7)]) rfl nd rfl rfl (sw_true rfl rfl rfl (by decide +kernel)) (k_pie K rfl (by rfl) T.z_enumerate (pa_cons (pv 4) pa_nil)) (blkOk_by (own := [("k", 6), ("entry", 7)]) (N := N_watched) (sc := defScope s_watched) (by decide +kernel)) (fun _ _ _ _ _ => (k_pgt K rfl (n := 2) rfl (pgs_cons (pg_name (i := 6) nd rfl (.inl rfl)) (pgs_cons (pg_name (i := 7) nd rfl (.inl rfl)) pgs_nil)))) (fun _ _ _ _ _ => pts_nil) (fun _ _ _ _ _ => (pe_call F_product (hr.mono (by decide)) (by rfl) T.g_product kp_product b_product .nil pass0 (pa_cons (pe_meth (pv 0) T.c_Chain T.h_Chain_chance_of F_Chain_chance_of (hr.mono (by decide)) b_Chain_chance_of .nil pass0 (pa_cons (pv 1) (pa_cons (pe_lst (pa_cons (pv 6) pa_nil)) pa_nil))) (pa_cons (pv 7) pa_nil)))))
      (pss_one (ps_ret (pe_op op_cat (pe_lst (pa_cons pe_int pa_nil)) (pe_callTy (k_list K rfl) (by rfl) T.z_list (by decide +kernel) (pa_cons (pe_call F_added (hr.mono (by decide)) (by rfl) T.g_added kp_added b_added .nil pass0 (pa_cons (pe_op op_cat (pe_lst (pa_cons (pe_meth (pv 0) T.c_Chain T.h_Chain_chance_of F_Chain_chance_of (hr.mono (by decide)) b_Chain_chance_of .nil pass0 (pa_cons (pv 1) (pa_cons (pe_lst (pa_cons (pv 2) pa_nil)) pa_nil))) pa_nil)) (pv 5)) pa_nil)) pa_nil)))))))))), ?_⟩)
  obtain ⟨v1, _, rfl, h1, _, _, rfl, rfl, _, _, rfl, rfl, v4, _, rfl, h4, rfl⟩ := ha
  obtain ⟨ok, hl⟩ := hok
  obtain ⟨c, i, j, U⟩ := a
  dsimp only at ok hl h1 h4 k ⊢
  rw [op_watched] at k
  refine sq_ifN sm (et_or (et_state (c := c) (i := i) (ev_meth (c, i) (ev_vR rfl h1) (ea_V (ev_var rfl) ea_nil) rfl trivial)) fun _ => et_state (c := c) (i := j) (ev_meth (c, j) (ev_vR rfl h1) (ea_V (ev_var rfl) ea_nil) rfl trivial)) (fun b G2 H2 e2 => ?_) fun b G2 H2 e2 => ?_
  · rw [if_pos (state_or1 b)] at k
    exact st_ret e2.sub (ev_call () ea_nil trivial) fun v G3 H3 e3 p => k v G3 H3 (e2.trans e3) p
  · obtain ⟨⟨hi, hj⟩, b'⟩ := state_or0 b
    rw [if_neg b'] at k
    refine sq_ifN e2.sub (et_not (et_B (ev_call (c, U) (ea_R (ev_vR rfl (Mo.mo e2.g h1)) (ea_R (ev_vR rfl (Mo.mo e2.g h4)) ea_nil)) hl))) (fun d G3 H3 e3 => ?_) fun d G3 H3 e3 => ?_
    · have d' : isSet c U = false := by simpa using d
      rw [if_pos d'] at k
      exact st_ret e3.sub (ev_call () ea_nil trivial) fun v G4 H4 e4 p => k v G4 H4 ((e2.trans e3).trans e4) p
    · have d' : isSet c U = true := by simpa using d
      rw [d', if_neg (by decide)] at k
      obtain ⟨so, ne⟩ := isSet_ok d'
      have e23 := e2.trans e3
      refine sq_ifN e3.sub (et_or (et_test (ev_notIn (ev_var rfl) (ev_vR rfl (Mo.mo e23.g h4)))) fun _ => et_test (ev_notIn (ev_var rfl) (ev_vR rfl (Mo.mo e23.g h4)))) (fun f G4 H4 e4 => ?_) fun f G4 H4 e4 => ?_
      · have f' : U.contains i = false ∨ U.contains j = false := by simpa using f
        rw [if_pos f'] at k
        exact st_ret e4.sub (ev_call () ea_nil trivial) fun v G5 H5 e5 p => k v G5 H5 ((e23.trans e4).trans e5) p
      · have f' : ¬ (U.contains i = false ∨ U.contains j = false) := by simpa using f
        rw [if_neg f'] at k
        have e24 := e23.trans e4
        obtain ⟨D, d1, d2, d3⟩ := EC.first_dens ok so ne j
        obtain ⟨j1, j2⟩ := EC.js_low ok i
        refine sq_set e4.sub (ev_call (c, U, j) (ea_R (ev_vR rfl (Mo.mo e24.g h1)) (ea_R (ev_vR rfl (Mo.mo e24.g h4)) (ea_V (ev_var rfl) ea_nil))) ⟨ok, so, hj⟩) fun v5 G5 H5 e5 p5 => ?_
        have e25 := e24.trans e5
        have eb : ((states c).map (firstF c U j)).zipIdx.map (fun p => Lrx1.mul (jump c i p.2) p.1) = (states c).map fun x => Lrx1.mul (jump c i x) (firstF c U j x) := by
          apply List.ext_getElem?
          intro x
          rw [List.getElem?_map, List.getElem?_zipIdx]
          by_cases hx : x < size c
          · rw [states_at hx, states_at hx]
            simp
          · rw [List.getElem?_eq_none (by simp [states]; omega), List.getElem?_eq_none (by simp [states]; omega)]
            rfl
        refine sq_set e5.sub (ev_a (ev_NL (ev_mapE (K := K) (R := qF) (S := qF) (xs := (states c).map (firstF c U j)) (f := fun p => Lrx1.mul (jump c i p.2) p.1) (ea_R (ev_vR rfl p5) ea_nil) (by rw [List.length_map, states_len]; exact size_small ok) (fun _ _ => rfl) fun x y hy v G' H' e rv => ?_)) eb) fun v6 G6 H6 e6 p6 => ?_
        · have hy' : y < size c := by
            have := (List.getElem?_eq_some_iff.mp hy).1
            rw [List.length_map, states_len] at this
            exact this
          rw [states_at hy'] at hy
          have ex : firstF c U j y = x := Option.some.inj hy
          refine ev_call (jump c i y, x) (ea_R (ev_a (ev_meth (c, i, [y]) (ev_vR rfl (Mo.mo (e25.trans e).g h1)) (ea_V (ev_var rfl) (ea_R (ev_list1N (ev_var rfl)) ea_nil)) rfl ⟨ok, hi, by simpa using hy', by show 1 ≤ 1000; decide⟩) (EC.chance_one ok i y)) (ea_R (ev_vR rfl rv) ea_nil)) ⟨24, 3199, by decide, by decide, by decide, EC.frOk_jump ok i y, by rw [← ex]; exact (d3 y).2⟩
        have e26 := e25.trans e6
        have sl : ((states c).map fun x => Lrx1.mul (jump c i x) (firstF c U j x)).length ≤ 8 := by rw [List.length_map, states_len]; exact ok.le
        have mok : ∀ f ∈ jump c i j :: (states c).map (fun x => Lrx1.mul (jump c i x) (firstF c U j x)), FrOk 3223 f ∧ f.den ∣ (if rowSum c i = 0 then 1 else rowSum c i) * D := fun f hf => by
          rcases List.mem_cons.mp hf with rfl | hf
          · exact ⟨EC.frOk_mono (by decide) (EC.frOk_jump ok i j), Nat.dvd_trans (EC.jump_dvd c i j) (Nat.dvd_mul_right _ _)⟩
          · obtain ⟨x, hx, rfl⟩ := List.mem_map.mp hf
            exact ⟨EC.frOk_mul (EC.frOk_jump ok i x) (d3 x).2, Nat.dvd_trans (EC.mul_den_dvd _ _) (Nat.mul_dvd_mul (EC.jump_dvd c i x) (d3 x).1)⟩
        refine st_ret e6.sub (ev_res0 (ev_a (ev_call (jump c i j :: (states c).map fun x => Lrx1.mul (jump c i x) (firstF c U j x)) (ea_R (ev_NL (ev_cat (R := qF) (xs := [jump c i j]) (ev_NL (ev_lst1 (R := qF) (ev_a (ev_meth (c, i, [j]) (ev_vR rfl (Mo.mo e26.g h1)) (ea_V (ev_var rfl) (ea_R (ev_list1N (ev_var rfl)) ea_nil)) rfl ⟨ok, hi, by simpa using hj, by show 1 ≤ 1000; decide⟩) (EC.chance_one ok i j)))) (ev_vR rfl p6) (by show 1 + _ ≤ 1000; omega))) ea_nil) ⟨by rw [List.length_cons]; omega, ⟨3223, by decide, by decide, fun f hf => ⟨(mok f hf).1.1, (mok f hf).1.2.1⟩⟩, _, 3223, Nat.mul_pos j1 d1, ?_, by decide, by decide, fun f hf => (mok f hf).2⟩) (watched_sum ok so i j))) fun v G7 H7 e7 p => k v G7 H7 (e26.trans e7) p
        exact Nat.lt_of_lt_of_le (EC.two_mul j2 d2) (Nat.pow_le_pow_right (by decide) (by decide))
end
end ER
/-! ## ErI -/
/-! the operations that tell of distributions -/
namespace ER
open PySem PySem.Spec PyProof.Rows
open L2 hiding St
open Lrx1 (Fraction Chain reduce size weight rowSum jump greatestRate one zero states entry hitting classOf isClosed closedClasses stationaryOf longRun isState)
open EC (Red FrOk COk CC SetOk statV comS facS rowF rowS rowsS stepI axs astep Mx numS)
section
variable {P : Program} {w : World} {K : PySem.W.Frag} {mg : Str → Option Value} {base : Heap}
section
variable {σ : L2.St} {G H : Hp} {ta tb tc : TE} {D : Ends}
theorem ev_chainI {f g : Int → Int → Bool} {i j k : Int} (ha : Ev ta σ G H (isV (.int i))) (hb : Ev tb σ G H (isV (.int j))) (hc : Ev tc σ G H (isV (.int k))) : Ev (tChain (rI0 fun i j => .bl (f i j)) (rI0 fun i j => .bl (g i j)) ta tb tc) σ G H (isV (.bl (f i j && g j k))) := fun G1 H1 e Q q =>
  ha G1 H1 e _ fun x G2 H2 e2 hx => hb G2 H2 (e.trans e2) _ fun y G3 H3 e3 hy => ⟨i, j, hx, hy, f i j, rfl, by
    cases hf : f i j with
    | true =>
      rw [if_pos rfl]
      refine hc G3 H3 ((e.trans e2).trans e3) _ fun z G4 H4 e4 hz => ⟨j, k, hy, hz, ?_⟩
      exact q _ G4 H4 ((e2.trans e3).trans e4) (by rw [hf]; rfl)
    | false =>
      rw [if_neg Bool.false_ne_true]
      exact q _ G3 H3 (e2.trans e3) (by rw [hf]; rfl)⟩
theorem st_mulV {i : Nat} {x y : Int} (s : Same G H) (hv : σ[i]? = some (some (.int x))) (h : Ev ta σ G H (isV (.int y))) (c : CMulW x y) (k : ∀ G' H', Ext G H G' H' → D.nx (σ.set i (some (.int (x * y)))) H') : tAug i ta ipM D σ H :=
  ⟨_, hv, h G H (.refl s) _ fun v G' H' e p => ⟨x, y, rfl, p, c, k G' H' e⟩⟩
end
theorem com_is (c : Chain) : comS c = if c.isContinuous = true then greatestRate c else lcmF (EC.sumsP c) := rfl
abbrev sp_common_sum (K : PySem.W.Frag) : Sp := spG (α := Chain) (fun a => [aR (qC K) a]) COk fun a => isV (.int (comS a : Int))
abbrev N_common_sum : List Str := ["chain", "sums", "i", "total"]
abbrev P_common_sum : List Str := ["chain"]
theorem sc_common_sum : FnScope N_common_sum P_common_sum (defScope s_common_sum) := ⟨rfl, rfl, rfl, by decide +kernel, rfl, by decide +kernel, by decide +kernel⟩
theorem ok_common_sum (T : Tx K mg) : Has P w K mg base 3 (He.ga K "common_sum") P_common_sum (sp_common_sum K) := by
  obtain ⟨⟨_, F_Chain_greatest_sum, b_Chain_greatest_sum⟩, kp_Chain_greatest_sum⟩ := ok_Chain_greatest_sum (P := P) (w := w) (base := base) T
  obtain ⟨⟨_, F_Chain_state_count, b_Chain_state_count⟩, kp_Chain_state_count⟩ := ok_Chain_state_count (P := P) (w := w) (base := base) T
  obtain ⟨⟨_, F_Chain_sum_of, b_Chain_sum_of⟩, kp_Chain_sum_of⟩ := ok_Chain_sum_of (P := P) (w := w) (base := base) T
  obtain ⟨⟨_, F_common_multiple, b_common_multiple⟩, kp_common_multiple⟩ := ok_common_multiple (P := P) (w := w) (base := base) T
  have nd := sc_common_sum.nd
  refine has_mk T.f_common_sum sc_common_sum (fun _ => rfl) (fun _ _ _ _ _ _ us hl => match us, hl with | [_], _ => rfl) (fun cdv E outer s H X hr a G vs Q sm ha hok k => ⟨_, (pss_cons (ps_if (pt_cmpR op_eq (k_fld K rfl (pv 0)) pe_int (by rfl)) (pss_one (ps_ret (pe_meth0 (pv 0) T.c_Chain T.h_Chain_greatest_sum F_Chain_greatest_sum (hr.mono (by decide)) b_Chain_greatest_sum .nil pass0))) pss_nil)
      (pss_cons (ps_setLc (i := 1) (own := [("i", 2)]) rfl nd rfl rfl (sw_true rfl rfl rfl (by decide +kernel)) (pi_range1 (by rfl) T.z_range (pa_cons (pe_meth0 (pv 0) T.c_Chain T.h_Chain_state_count F_Chain_state_count (hr.mono (by decide)) b_Chain_state_count .nil pass0) pa_nil)) (blkOk_by (own := [("i", 2)]) (N := N_common_sum) (sc := defScope s_common_sum) (by decide +kernel)) (fun _ _ _ _ _ => (pg_name (i := 2) nd rfl (.inl rfl))) (fun _ _ _ _ _ => pts_nil) (fun _ _ _ _ _ => (pe_meth (pv 0) T.c_Chain T.h_Chain_sum_of F_Chain_sum_of (hr.mono (by decide)) b_Chain_sum_of .nil pass0 (pa_cons (pv 2) pa_nil))))
      (pss_one (ps_ret (pe_call F_common_multiple (hr.mono (by decide)) (by rfl) T.g_common_multiple kp_common_multiple b_common_multiple .nil pass0 (pa_cons (pe_lc (own := [("total", 3)]) rfl nd (k_pil K rfl (pv 1)) (blkOk_by (own := [("total", 3)]) (N := N_common_sum) (sc := defScope s_common_sum) (by decide +kernel)) (fun _ _ _ _ _ => (pg_name (i := 3) nd rfl (.inl rfl))) (fun _ _ _ _ _ => pts_one (pt_cmpR op_gt (pv 3) pe_int (by rfl))) (fun _ _ _ _ _ => (pv 3))) pa_nil)))))), ?_⟩)
  obtain ⟨v1, _, rfl, h1, rfl⟩ := ha
  have ok := hok
  refine sq_ifN sm (ev_kind1 T (ev_vR rfl h1)) (fun b G2 H2 e2 => ?_) fun b G2 H2 e2 => ?_
  · refine st_ret e2.sub (ev_V (ev_meth a (ev_vR rfl (Mo.mo e2.g h1)) ea_nil rfl ok) ?_) fun v G3 H3 e3 p => k v G3 H3 (e2.trans e3) p
    rw [com_is, if_pos b]
  · have b' : ¬ a.isContinuous = true := by rw [b]; decide
    refine sq_set e2.sub (ev_NL (ev_mapR (R := qN) (f := rowSum a) (ea_V (ev_meth a (ev_vR rfl (Mo.mo e2.g h1)) ea_nil rfl trivial) ea_nil) (size_small ok) (fun _ => rfl) fun i hi G' H' e => ev_N (ev_meth (a, i) (ev_vR rfl (Mo.mo (e2.trans e).g h1)) (ea_V (ev_var rfl) ea_nil) rfl ⟨ok, hi⟩))) fun v2 G3 H3 e3 p3 => ?_
    have e23 := e2.trans e3
    have sl := EC.sumsP_len (c := a)
    have s8 := ok.le
    refine st_ret e3.sub (ev_V (ev_call (EC.sumsP a) (ea_R (ev_a (ev_NL (ev_lcL (K := K) (R := qN) (S := qN) (f := fun i => i) (p := fun s => decide (0 < s)) (ev_vR rfl p3) (by rw [List.length_map, List.length_range]; omega) (fun _ => rfl) fun x hx v G' H' e rv => ?_)) ?_) ea_nil) ⟨by omega, EC.prodN (EC.sumsP a), 192, EC.prod_pos fun x hx => (EC.sumsP_mem.mp hx).1, EC.sumsP_prod ok, by decide, by decide, fun x hx => EC.dvd_prod hx⟩) ?_) fun v G4 H4 e4 p => k v G4 H4 (e23.trans e4) p
    · have ev : v = .int (x : Int) := rv
      subst ev
      refine ⟨et_is (et_test (ev_I0 (ev_var rfl) ev_c)) ?_, fun _ => ev_N (ev_var rfl)⟩
      exact decide_eq_decide.mpr ⟨fun h => by omega, fun h => by omega⟩
    · rw [List.map_id']
      rfl
    · rw [com_is, if_neg b']
abbrev SrArg : Type := Chain × Nat × Nat
abbrev sp_step_row (K : PySem.W.Frag) : Sp := spG (α := SrArg) (fun a => [aR (qC K) a.1, aV (.int (a.2.1 : Int)), aV (.int (a.2.2 : Int))]) (fun a => COk a.1 ∧ a.2.1 < size a.1 ∧ a.2.2 = comS a.1) fun a => isR (qL qI) (rowS a.1 a.2.1)
theorem fac_low {c : Chain} (ok : COk c) (i : Nat) : facS c i < 2 ^ 192 := by
  unfold facS
  split
  · exact Nat.lt_of_le_of_lt (Nat.div_le_self _ _) (EC.com_low ok)
  · decide
abbrev N_step_row : List Str := ["chain", "i", "common", "factor", "row", "weight"]
abbrev P_step_row : List Str := ["chain", "i", "common"]
theorem sc_step_row : FnScope N_step_row P_step_row (defScope s_step_row) := ⟨rfl, rfl, rfl, by decide +kernel, rfl, by decide +kernel, by decide +kernel⟩
theorem ok_step_row (T : Tx K mg) : Has P w K mg base 2 (He.ga K "step_row") P_step_row (sp_step_row K) := by
  obtain ⟨⟨_, F_Chain_sum_of, b_Chain_sum_of⟩, kp_Chain_sum_of⟩ := ok_Chain_sum_of (P := P) (w := w) (base := base) T
  have nd := sc_step_row.nd
  refine has_mk T.f_step_row sc_step_row (fun _ => rfl) (fun _ _ _ _ _ _ us hl => match us, hl with | [_, _, _], _ => rfl) (fun cdv E outer s H X hr a G vs Q sm ha hok k => ⟨_, (pss_cons (ps_set (i := 3) nd rfl (.inr rfl) pe_int)
      (pss_cons (ps_if (PW.pt (pw_and (pt_cmpR op_eq (k_fld K rfl (pv 0)) pe_int (by rfl)) (pw_and1 (pt_cmpR op_gt (pe_meth (pv 0) T.c_Chain T.h_Chain_sum_of F_Chain_sum_of (hr.mono (by decide)) b_Chain_sum_of .nil pass0 (pa_cons (pv 1) pa_nil)) pe_int (by rfl))))) (pss_one (ps_set (i := 3) nd rfl (.inr rfl) (pe_op op_fdivW (pv 2) (pe_meth (pv 0) T.c_Chain T.h_Chain_sum_of F_Chain_sum_of (hr.mono (by decide)) b_Chain_sum_of .nil pass0 (pa_cons (pv 1) pa_nil))))) pss_nil)
      (pss_cons (ps_setLc (i := 4) (own := [("weight", 5)]) rfl nd rfl rfl (sw_true rfl rfl rfl (by decide +kernel)) (k_pil K rfl (pe_ix (k_ixl K rfl) (k_fld K rfl (pv 0)) (pv 1) (fun _ _ => rfl))) (blkOk_by (own := [("weight", 5)]) (N := N_step_row) (sc := defScope s_step_row) (by decide +kernel)) (fun _ _ _ _ _ => (pg_name (i := 5) nd rfl (.inl rfl))) (fun _ _ _ _ _ => pts_nil) (fun _ _ _ _ _ => (pe_op op_mulW (pv 5) (pv 3))))
      (pss_cons (ps_augS (pv 4) (pv 1) (k_get K rfl) (pe_op op_sub (pv 2) (pe_callB (k_sum K rfl rfl) (by rfl) T.z_sum (by decide +kernel) (pa_cons (pv 4) pa_nil))) ip_add set_list)
      (pss_one (ps_ret (pv 4))))))), ?_⟩)
  obtain ⟨v1, _, rfl, h1, _, _, rfl, rfl, _, _, rfl, rfl, rfl⟩ := ha
  obtain ⟨c, i, m⟩ := a
  obtain ⟨ok, hi, hm⟩ := hok
  dsimp only at ok hi hm h1 k ⊢
  subst hm
  have s8 := ok.le
  have lo := EC.rowSum_low ok i
  refine sq_set sm ev_c fun v G1 H1 e1 p => ?_
  subst p
  have hi' : ∀ {G2 H2 : Hp}, Ext G H G2 H2 → tSeq (tAsg (tLc (iList K (tOp (rIxL K) (tFld K (tVar 0) "rows") (tVar 1))) (gName 5) tYes (tOp (L2.rI CMulW fun i j => .int (i * j)) (tVar 5) (tVar 3)) [5]) (gName 4)) (tSeq (tAugS (tVar 4) (tVar 1) (tOp (rI0 fun i j => .int (i - j)) (tVar 2) (tCB (rSum K) (tCons (tVar 4) tNil))) (rGetN K) (ipI fun i j => i + j) rSetL) (tRet (tVar 4))) { nx := fun _ H' => Q .non H', rt := Q } [some v1, some (.int (i : Int)), some (.int (comS c : Int)), some (.int (facS c i : Int)), none, none] H2 := fun {G2 H2} e2 => by
    refine sq_set e2.sub (ev_mapL (K := K) (R := qI) (S := qN) (xs := c.weights.getD i []) (f := fun (w : Nat) => (w : Int) * (facS c i : Int)) (ev_ixL (ev_rows T (ev_vR rfl (Mo.mo e2.g h1))) (ev_var rfl) (weights_at hi)) (by rw [ok.row i hi]; omega) (fun _ => rfl) fun x hx v G' H' e rv => ?_) fun v G3 H3 e3 n3 => ?_
    · have ev : v = .int (x : Int) := rv
      subst ev
      obtain ⟨j, hj, ex⟩ := List.mem_iff_getElem.mp hx
      have xw : x ≤ 1000000 := by
        have := ok.low i j
        unfold weight at this
        generalize c.weights.getD i [] = l at hj ex this
        rw [List.getD_eq_getElem?_getD, List.getElem?_eq_getElem hj, ex] at this
        exact this
      exact ev_Z (ev_I (ev_var rfl) (ev_var rfl) (wide_mul (a := 24) (b := 192) (by show x < _; omega) (fac_low ok i) (by decide) (by decide) (by decide)))
    obtain ⟨p4, rfl, l3⟩ := locl_of n3
    have l3 := l3.back e2.h
    have e23 := e2.trans e3
    have rl := EC.rowF_len ok hi
    have at_i : (rowF c i)[i]? = some ((rowF c i).getD i 0) := at_getD 0 (by rw [rl]; exact hi)
    have l3' : LocL qI (rowF c i) H p4 G3 H3 := l3
    refine sq (st_augI l3' e3.sub (ev_var rfl) (ev_var rfl) at_i (ev_I0 (ev_var rfl) (ev_sumL l3' (ev_var rfl))) fun G4 H4 vs e4 l4 => ?_)
    have E4 := l4.up (e23.trans e4)
    obtain ⟨G5, s5, e5, q5, _⟩ := l4.frz E4
    exact st_ret e5.sub (ev_vR rfl q5) fun v G6 H6 e6 p => k v G6 H6 (e5.trans e6) p
  have ek : ∀ {G2 H2 : Hp} {te : TE} {σ : L2.St}, Ev te σ G2 H2 (isR (qC K) c) → EvT (tTest (tOp rEq (tFld K te "is_continuous") (tC (.int 0)))) σ G2 H2 (!c.isContinuous) := fun {G2 H2 te σ} h => et_is (et_test (ev_eq (ev_kind T h) ev_c rfl)) (by unfold kc; cases c.isContinuous <;> decide)
  refine sq_if e1.sub (et_and (ek (ev_vR rfl (Mo.mo e1.g h1))) fun _ => et_test (ev_I0 (ev_meth (c, i) (ev_vR rfl (Mo.mo e1.g h1)) (ea_V (ev_var rfl) ea_nil) rfl ⟨ok, hi⟩) ev_c)) (fun b G2 H2 e2 => ?_) fun b G2 H2 e2 => ?_
  · have b' : c.isContinuous = false ∧ 0 < rowSum c i := by
      rw [Bool.and_eq_true] at b
      refine ⟨by simpa using b.1, ?_⟩
      have b2 := of_decide_eq_true b.2
      have b3 : (0 : Int) < (rowSum c i : Int) := b2
      omega
    refine st_set e2.sub (ev_I (ev_var rfl) (ev_meth (c, i) (ev_vR rfl (Mo.mo (e1.trans e2).g h1)) (ea_V (ev_var rfl) ea_nil) rfl ⟨ok, hi⟩) (wide_div (b := 24) ?_ ?_ (by decide) (by decide))) fun v G3 H3 e3 p => ?_
    · show (0 : Int) < (rowSum c i : Int); omega
    · show rowSum c i < _; omega
    · have ef : (comS c : Int) / (rowSum c i : Int) = (facS c i : Int) := by
        unfold facS
        rw [if_pos b', Int.natCast_ediv]
      have ev : v = .int (facS c i : Int) := by rw [← ef]; exact p
      subst ev
      exact hi' ((e1.trans e2).trans e3)
  · have b' : ¬ (c.isContinuous = false ∧ 0 < rowSum c i) := by
      rintro ⟨z1, z2⟩
      rw [z1] at b
      have z3 : decide ((rowSum c i : Int) > 0) = true := decide_eq_true (by omega)
      exact absurd (b.symm.trans z3) (by decide)
    have ef : facS c i = 1 := by unfold facS; rw [if_neg b']
    have := hi' (e1.trans e2)
    rw [ef] at this
    exact this
where
  ev_sumL {σ : L2.St} {G H H0 : Hp} {K : PySem.W.Frag} {ta : TE} {ns : List Int} {p : Addr} (l : LocL qI ns H0 p G H) (ha : Ev ta σ G H (isV (.ref p))) : Ev (tCB (rSum K) (tCons ta tNil)) σ G H (isV (.int ns.sum)) := fun G1 H1 e Q q =>
    ha G1 H1 e _ fun x G2 H2 e2 hx => by
      obtain ⟨vs, b, c, d, f⟩ := l.ext (e.trans e2)
      exact ⟨p, ns, by rw [show x = _ from hx], SqL.of (by rw [d, qI_list f]), q _ G2 H2 e2 rfl⟩
abbrev AsArg : Type := List Int × List (List Int)
structure AsOk (a : AsArg) : Prop where
  ex : ∃ n m b, n ≤ 1000 ∧ Mx n a.2 ∧ a.1.length = n ∧ 0 < m ∧ 0 < b ∧ m + b ≤ 1000000 ∧ (∀ i, i < n → (a.1.getD i 0).natAbs < 2 ^ m) ∧ ∀ i j, i < n → j < n → ((a.2.getD i []).getD j 0).natAbs < 2 ^ b
abbrev sp_after_step (K : PySem.W.Frag) : Sp := spG (α := AsArg) (fun a => [aR (qL qI) a.1, aR (qL (qL qI)) a.2]) AsOk fun a => isR (qL qI) (astep a.1 a.2)
abbrev N_after_step : List Str := ["numbers", "rows", "later", "number", "row", "old", "weight"]
abbrev P_after_step : List Str := ["numbers", "rows"]
theorem sc_after_step : FnScope N_after_step P_after_step (defScope s_after_step) := ⟨rfl, rfl, rfl, by decide +kernel, rfl, by decide +kernel, by decide +kernel⟩
theorem ok_after_step (T : Tx K mg) : Has P w K mg base 1 (He.ga K "after_step") P_after_step (sp_after_step K) := by
  have nd := sc_after_step.nd
  refine has_mk T.f_after_step sc_after_step (fun _ => rfl) (fun _ _ _ _ _ _ us hl => match us, hl with | [_, _], _ => rfl) (fun cdv E outer s H X hr a G vs Q sm ha hok k => ⟨_, (pss_cons (ps_set (i := 2) nd rfl (.inl rfl) (pe_op op_rep (pe_lst (pa_cons pe_int pa_nil)) (pe_callB (k_len K rfl) (by rfl) T.z_len PySem.boot_len (pa_cons (pv 0) pa_nil))))
      (pss_cons (ps_for PassesOwn.never rfl (k_piz K rfl (by rfl) T.z_zip (pa_cons (pv 0) (pa_cons (pv 1) pa_nil))) (k_pgt K rfl (n := 2) rfl (pgs_cons (pg_name (i := 3) nd rfl (.inr rfl)) (pgs_cons (pg_name (i := 4) nd rfl (.inl rfl)) pgs_nil))) (pss_one (ps_setLc (i := 2) (own := [("old", 5), ("weight", 6)]) rfl nd rfl rfl (sw_true rfl rfl rfl (by decide +kernel)) (k_piz K rfl (by rfl) T.z_zip (pa_cons (pv 2) (pa_cons (pv 4) pa_nil))) (blkOk_by (own := [("old", 5), ("weight", 6)]) (N := N_after_step) (sc := defScope s_after_step) (by decide +kernel)) (fun _ _ _ _ _ => (k_pgt K rfl (n := 2) rfl (pgs_cons (pg_name (i := 5) nd rfl (.inl rfl)) (pgs_cons (pg_name (i := 6) nd rfl (.inl rfl)) pgs_nil)))) (fun _ _ _ _ _ => pts_nil) (fun _ _ _ _ _ => (pe_op op_add (pv 5) (pe_op op_mulW (pv 3) (pv 6)))))))
      (pss_one (ps_ret (pv 2))))), ?_⟩)
  obtain ⟨v1, _, rfl, h1, v2, _, rfl, h2, rfl⟩ := ha
  obtain ⟨ns, rows⟩ := a
  obtain ⟨n, m, b, hn, mx, hl, m0, b0, mb, lo1, lo2⟩ := hok.ex
  dsimp only at mx hl lo1 lo2 h1 h2 k ⊢
  refine sq_set sm (ev_NL (ev_rep (R := qI) (xs := [0]) (n := ns.length) (ev_lst1 (R := qI) (ev_Z ev_c)) (ev_lenL (ev_vR rfl h1)) (by simp; omega) (by omega))) fun v3 G1 H1 e1 p1 => ?_
  rw [rep_flat] at p1
  refine sq (fo_zip (S := qI) (S' := qL qI) (xs := ns) (ys := rows) e1.sub (ea_R (ev_vR rfl (Mo.mo e1.g h1)) (ea_R (ev_vR rfl (Mo.mo e1.g h2)) ea_nil)) (fun i σ G2 H2 => ∃ v3 r4 r5, σ = [some v1, some v2, some v3, r4, r5, none, none] ∧ Ext G H G2 H2 ∧ qL qI G2 v3 (axs ns rows i)) (fun G2 H2 e2 => ⟨v3, none, none, rfl, e1.trans e2, Mo.mo e2.g p1⟩) ?_ ?_)
  · rintro i x row v w' σ G2 H2 H2' hx hy sg s2 rx ry ⟨v3, r4, r5, rfl, e2', q2⟩ jk
    have ex : v = .int x := rx
    subst ex
    have e2 := e2'.jk jk
    have hi : i < n := by rw [← hl]; exact (List.getElem?_eq_some_iff.mp hx).1
    have gx : ns.getD i 0 = x := getD_at hx
    have gy : rows.getD i [] = row := getD_at hy
    have al := EC.axs_len mx hl i (Nat.le_of_lt hi)
    have rl := mx.row i hi
    rw [gy] at rl
    refine st_set e2.sub (ev_a (b := axs ns rows (i + 1)) (ev_NL (ev_mapZ (K := K) (R := qI) (S := qI) (S' := qI) (xs := axs ns rows i) (ys := row) (f := fun p => p.1 + x * p.2) (ea_R (ev_vR rfl q2) (ea_R (ev_vR rfl ry) ea_nil)) (by omega) (fun _ _ => rfl) fun j a c hj hk v w G' H' e ra rc => ?_)) ?_) fun v G3 H3 e3 p3 => ?_
    · have ea : v = .int a := ra
      have ec : w = .int c := rc
      subst ea ec
      have hj' : j < n := by rw [← rl]; exact (List.getElem?_eq_some_iff.mp hk).1
      have l1 := lo1 i hi
      have l2 := lo2 i j hi hj'
      rw [gx] at l1
      rw [gy, getD_at hk] at l2
      exact ev_Z (ev_I0 (ev_var rfl) (ev_I (ev_var rfl) (ev_var rfl) (wide_mul l1 l2 m0 b0 mb)))
    · show _ = axs ns rows (i + 1)
      rw [EC.axs_succ mx hl hi, gx, gy]
      exact zip_map (fun a b => a + x * b) _ _
    · exact ⟨G3, e3.g, e3.sub, v, _, _, rfl, e2.trans e3, p3⟩
  · rintro σ G2 H2 sg s2 ⟨v3, r4, r5, rfl, e2, q2⟩
    have el : min ns.length rows.length = ns.length := by rw [mx.len, hl, Nat.min_self]
    rw [el] at q2
    exact st_ret s2 (ev_vR rfl q2) fun v G3 H3 e3 p => k v G3 H3 (e2.trans e3) p
def totS (c : Chain) (start : List Nat) (m : Nat) : Nat := start.sum * comS c ^ m
theorem start_sum {B : Nat} : ∀ l : List Nat, (∀ x ∈ l, x ≤ B) → l.sum ≤ l.length * B
  | [], _ => by simp
  | x :: r, h => by
    have := start_sum r fun y hy => h y (List.mem_cons_of_mem _ hy)
    have hx := h x (List.mem_cons_self ..)
    rw [List.sum_cons, List.length_cons, Nat.succ_mul]
    omega
theorem tot_low {c : Chain} (ok : COk c) {start : List Nat} (h : start.length = size c) (hw : ∀ x ∈ start, x ≤ 1000000) (m : Nat) : totS c start m < 2 ^ (24 + 192 * m) := by
  have s := start_sum start hw
  have s8 := ok.le
  have s1 : start.length * 1000000 ≤ 8 * 1000000 := Nat.mul_le_mul_right _ (by omega)
  have p : comS c ^ m ≤ (2 ^ 192) ^ m := Nat.pow_le_pow_left (Nat.le_of_lt (EC.com_low ok)) m
  rw [← Nat.pow_mul] at p
  unfold totS
  rw [Nat.pow_add]
  exact Nat.lt_of_le_of_lt (Nat.mul_le_mul_left _ p) (Nat.mul_lt_mul_of_pos_right (by omega) (Nat.two_pow_pos _))
structure DaOk (a : Chain × Nat × List Nat) : Prop where
  ok : COk a.1
  g : a.1.isContinuous = true → greatestRate a.1 ≠ 0
  len : a.2.2.length = size a.1
  low : ∀ x ∈ a.2.2, x ≤ 1000000
  pos : 0 < a.2.2.sum
  st : a.2.1 ≤ 24
def afterF (c : Chain) (k : Nat) (start : List Nat) : List Fraction := Lrx1.afterSteps c (greatestRate c) k (start.map fun (w : Nat) => reduce (w : Int) start.sum)
abbrev sp_distribution_after (K : PySem.W.Frag) : Sp := spG (α := Chain × Nat × List Nat) (fun a => [aR (qC K) a.1, aV (.int (a.2.1 : Int)), aR (qL qN) a.2.2]) DaOk fun a => isR (qL qF) (afterF a.1 a.2.1 a.2.2)
theorem castQ {G : Hp} {v : V} {l : List Nat} (h : qL qN G v l) : qL qI G v (l.map fun (n : Nat) => (n : Int)) := by
  obtain ⟨p, vs, hv, hp, pr⟩ := h
  refine ⟨p, vs, hv, hp, ?_⟩
  have e := qN_list pr
  subst e
  clear hp pr
  induction l with
  | nil => exact .nil
  | cons x r ih => exact .cons rfl ih
abbrev N_distribution_after : List Str := ["chain", "steps", "start", "common", "rows", "numbers", "total", "step", "i", "number"]
abbrev P_distribution_after : List Str := ["chain", "steps", "start"]
theorem sc_distribution_after : FnScope N_distribution_after P_distribution_after (defScope s_distribution_after) := ⟨rfl, rfl, rfl, by decide +kernel, rfl, by decide +kernel, by decide +kernel⟩
theorem ok_distribution_after (T : Tx K mg) : Has P w K mg base 4 (He.ga K "distribution_after") P_distribution_after (sp_distribution_after K) := by
  obtain ⟨⟨_, F_Chain_state_count, b_Chain_state_count⟩, kp_Chain_state_count⟩ := ok_Chain_state_count (P := P) (w := w) (base := base) T
  obtain ⟨⟨_, F_after_step, b_after_step⟩, kp_after_step⟩ := ok_after_step (P := P) (w := w) (base := base) T
  obtain ⟨⟨_, F_common_sum, b_common_sum⟩, kp_common_sum⟩ := ok_common_sum (P := P) (w := w) (base := base) T
  obtain ⟨⟨_, F_ratio, b_ratio⟩, kp_ratio⟩ := ok_ratio (P := P) (w := w) (base := base) T
  obtain ⟨⟨_, F_step_row, b_step_row⟩, kp_step_row⟩ := ok_step_row (P := P) (w := w) (base := base) T
  have nd := sc_distribution_after.nd
  refine has_mk T.f_distribution_after sc_distribution_after (fun _ => rfl) (fun _ _ _ _ _ _ us hl => match us, hl with | [_, _, _], _ => rfl) (fun cdv E outer s H X hr a G vs Q sm ha hok k => ⟨_, (pss_cons (ps_set (i := 3) nd rfl (.inr rfl) (pe_call F_common_sum (hr.mono (by decide)) (by rfl) T.g_common_sum kp_common_sum b_common_sum .nil pass0 (pa_cons (pv 0) pa_nil)))
      (pss_cons (ps_setLc (i := 4) (own := [("i", 8)]) rfl nd rfl rfl (sw_true rfl rfl rfl (by decide +kernel)) (pi_range1 (by rfl) T.z_range (pa_cons (pe_meth0 (pv 0) T.c_Chain T.h_Chain_state_count F_Chain_state_count (hr.mono (by decide)) b_Chain_state_count .nil pass0) pa_nil)) (blkOk_by (own := [("i", 8)]) (N := N_distribution_after) (sc := defScope s_distribution_after) (by decide +kernel)) (fun _ _ _ _ _ => (pg_name (i := 8) nd rfl (.inl rfl))) (fun _ _ _ _ _ => pts_nil) (fun _ _ _ _ _ => (pe_call F_step_row (hr.mono (by decide)) (by rfl) T.g_step_row kp_step_row b_step_row .nil pass0 (pa_cons (pv 0) (pa_cons (pv 8) (pa_cons (pv 3) pa_nil))))))
      (pss_cons (ps_set (i := 5) nd rfl (.inl rfl) (pe_callTy (k_list K rfl) (by rfl) T.z_list (by decide +kernel) (pa_cons (pv 2) pa_nil)))
      (pss_cons (ps_set (i := 6) nd rfl (.inr rfl) (pe_callB (k_sum K rfl rfl) (by rfl) T.z_sum (by decide +kernel) (pa_cons (pv 2) pa_nil)))
      (pss_cons (ps_for PassesOwn.never rfl (pi_range1 (by rfl) T.z_range (pa_cons (pv 1) pa_nil)) (pg_name (i := 7) nd rfl (.inl rfl)) (pss_cons (ps_set (i := 5) nd rfl (.inl rfl) (pe_call F_after_step (hr.mono (by decide)) (by rfl) T.g_after_step kp_after_step b_after_step .nil pass0 (pa_cons (pv 5) (pa_cons (pv 4) pa_nil))))
      (pss_one (ps_aug (i := 6) nd rfl (.inr rfl) (pv 3) ip_mulW))))
      (pss_one (ps_ret (pe_lc (own := [("number", 9)]) rfl nd (k_pil K rfl (pv 5)) (blkOk_by (own := [("number", 9)]) (N := N_distribution_after) (sc := defScope s_distribution_after) (by decide +kernel)) (fun _ _ _ _ _ => (pg_name (i := 9) nd rfl (.inl rfl))) (fun _ _ _ _ _ => pts_nil) (fun _ _ _ _ _ => (pe_call F_ratio (hr.mono (by decide)) (by rfl) T.g_ratio kp_ratio b_ratio .nil pass0 (pa_cons (pv 9) (pa_cons (pv 6) pa_nil)))))))))))), ?_⟩)
  obtain ⟨v1, _, rfl, h1, _, _, rfl, rfl, v3, _, rfl, h3, rfl⟩ := ha
  obtain ⟨c, n, start⟩ := a
  obtain ⟨ok, hg, hl, hw, hp, hst⟩ := hok
  dsimp only at ok hg hl hw hp hst h1 h3 k ⊢
  have s8 := ok.le
  have cp := EC.com_pos hg
  have cl := EC.com_low ok
  refine sq_set sm (ev_call c (ea_R (ev_vR rfl h1) ea_nil) ok) fun v G1 H1 e1 p => ?_
  subst p
  refine sq_set e1.sub (ev_NL (ev_mapR (R := qL qI) (f := rowS c) (ea_V (ev_meth c (ev_vR rfl (Mo.mo e1.g h1)) ea_nil rfl trivial) ea_nil) (size_small ok) (fun _ => rfl) fun i hi G' H' e => ev_call (c, i, comS c) (ea_R (ev_vR rfl (Mo.mo (e1.trans e).g h1)) (ea_V (ev_var rfl) (ea_V (ev_var rfl) ea_nil))) ⟨ok, hi, rfl⟩)) fun v5 G2 H2 e2 p5 => ?_
  have p5 : qL (qL qI) G2 v5 (rowsS c) := p5
  have e12 := e1.trans e2
  refine sq_set e2.sub (ev_NL (ev_listL (ev_vR (R := qL qI) rfl (castQ (Mo.mo e12.g h3))))) fun v6 G3 H3 e3 p6 => ?_
  have e13 := e12.trans e3
  refine sq_set e3.sub (ev_sumN (ev_vR rfl (Mo.mo e13.g h3))) fun v G4 H4 e4 p => ?_
  subst p
  have e14 := e13.trans e4
  have nl := EC.numS_len ok hl
  refine sq (fo_range (n := n) e4.sub (ea_V (ev_var rfl) ea_nil) (by omega) (fun m σ G5 H5 => ∃ v6 r8, σ = [some v1, some (.int (n : Int)), some v3, some (.int (comS c : Int)), some v5, some v6, some (.int (totS c start m : Int)), r8, none, none] ∧ Ext G H G5 H5 ∧ Same G4 G5 ∧ qL qI G5 v6 (numS c start m)) (fun G5 H5 e5 => ⟨v6, none, ?_, e14.trans e5, e5.g, Mo.mo (e4.trans e5).g p6⟩) ?_ ?_)
  · rw [show totS c start 0 = start.sum from Nat.mul_one _]
    rfl
  · rintro m σ G5 H5 hm sg s5 ⟨v6, r8, rfl, e5, sg4, q6⟩
    refine sq_set s5 (ev_call (numS c start m, rowsS c) (ea_R (ev_vR rfl q6) (ea_R (ev_vR rfl (Mo.mo ((e3.trans e4).g.trans sg4) p5)) ea_nil)) ⟨size c, 24 + 195 * m, 192, by omega, EC.mxS ok, nl m, by omega, by decide, by omega, fun i hi => EC.numS_low ok hl hw m i hi, fun i j hi hj => ?_⟩) fun v G6 H6 e6 p6 => ?_
    · rw [EC.rowsS_get hi, EC.rowS_get ok hi hj]
      have := EC.step_low ok hi hj
      omega
    refine st_mulV e6.sub rfl (ev_var rfl) (wide_mul (a := 24 + 192 * m) (b := 192) (tot_low ok hl hw m) cl (by omega) (by decide) (by omega)) fun G7 H7 e7 => ?_
    refine ⟨G7, (e6.trans e7).g, e7.sub, v, some (.int (m : Int)), ?_, (e5.trans e6).trans e7, sg4.trans (e6.trans e7).g, Mo.mo e7.g p6⟩
    have et : ((totS c start m : Nat) : Int) * (comS c : Int) = ((totS c start (m + 1) : Nat) : Int) := by
      unfold totS
      rw [Nat.pow_succ, ← Nat.mul_assoc, Int.natCast_mul (start.sum * comS c ^ m)]
    rw [← et]
    rfl
  · rintro σ G5 H5 sg s5 ⟨v6, r8, rfl, e5, sg4, q6⟩
    have tp : 0 < totS c start n := Nat.mul_pos hp (Nat.pow_pos cp)
    refine st_ret s5 (ev_a (ev_NL (ev_mapL (K := K) (R := qF) (S := qI) (f := fun x => reduce x (totS c start n)) (ev_vR rfl q6) (by rw [nl]; omega) (fun _ => rfl) fun x hx v G' H' e rv => ?_)) ?_) fun v G6 H6 e6 p => k v G6 H6 (e5.trans e6) p
    · have ev : v = .int x := rv
      subst ev
      exact ev_call (x, totS c start n) (ea_V (ev_var rfl) (ea_V (ev_var rfl) ea_nil)) ⟨tp, 24 + 192 * n, by omega, by omega, tot_low ok hl hw n⟩
    · unfold afterF
      rw [EC.after_is ok hg hl hp]
      rfl
def cntR (l : List Fraction) : List Int := (l.length : Int) :: l.flatMap Lrx1.ints
abbrev sp_with_count (K : PySem.W.Frag) : Sp := spG (α := List Fraction) (fun a => [aR (qL qF) a]) (fun a => a.length ≤ 100) fun a => isR (qL qI) (cntR a)
abbrev N_with_count : List Str := ["fractions", "told", "fraction"]
abbrev P_with_count : List Str := ["fractions"]
theorem sc_with_count : FnScope N_with_count P_with_count (defScope s_with_count) := ⟨rfl, rfl, rfl, by decide +kernel, rfl, by decide +kernel, by decide +kernel⟩
theorem ok_with_count (T : Tx K mg) : Has P w K mg base 1 (He.ga K "with_count") P_with_count (sp_with_count K) := by
  have nd := sc_with_count.nd
  refine has_mk T.f_with_count sc_with_count (fun _ => rfl) (fun _ _ _ _ _ _ us hl => match us, hl with | [_], _ => rfl) (fun cdv E outer s H X hr a G vs Q sm ha hok k => ⟨_, (pss_cons (ps_set (i := 1) nd rfl (.inl rfl) (pe_lst (pa_cons (pe_callB (k_len K rfl) (by rfl) T.z_len PySem.boot_len (pa_cons (pv 0) pa_nil)) pa_nil)))
      (pss_cons (ps_for PassesOwn.never rfl (k_pil K rfl (pv 0)) (pg_name (i := 2) nd rfl (.inl rfl)) (pss_one (ps_expr (k_bm K rfl PySem.F.plainAttrs_list PySem.F.slot_list_extend PySem.F.type_list_extend (k_extT K rfl) (pv 1) (pa_cons (pv 2) pa_nil)))))
      (pss_one (ps_ret (pv 1))))), ?_⟩)
  obtain ⟨v1, _, rfl, h1, rfl⟩ := ha
  let told : Nat → List Int := fun m => (a.length : Int) :: (a.take m).flatMap Lrx1.ints
  have tl : ∀ m, (told m).length ≤ 1 + 2 * m := fun m => by
    show ((a.take m).flatMap Lrx1.ints).length + 1 ≤ _
    rw [List.length_flatMap]
    have : ((a.take m).map fun x => (Lrx1.ints x).length) = List.replicate (a.take m).length 2 := by
      rw [List.eq_replicate_iff]
      exact ⟨by simp, fun b hb => by obtain ⟨x, _, rfl⟩ := List.mem_map.mp hb; rfl⟩
    rw [this, List.sum_replicate_nat, List.length_take]
    have : min m a.length ≤ m := Nat.min_le_left _ _
    omega
  refine sq_set sm (ev_lst1 (R := qI) (ev_Z (ev_lenL (ev_vR rfl h1)))) fun v G1 H1 e1 n1 => ?_
  obtain ⟨p2, rfl, l1⟩ := locl_of n1
  refine sq (fo_list (S := qF) (xs := a) e1.sub (ev_vR rfl (Mo.mo e1.g h1)) (fun m σ G2 H2 => ∃ r3, σ = [some v1, some (.ref p2), r3] ∧ Ext G H G2 H2 ∧ LocL qI (told m) H p2 G2 H2) (fun G2 H2 e2 => ⟨none, rfl, e1.trans e2, l1.ext e2⟩) ?_ ?_)
  · rintro m x v σ G2 H2 hx sg s2 rv ⟨r3, rfl, e2, l2⟩
    have hm : m < a.length := (List.getElem?_eq_some_iff.mp hx).1
    refine st_extT (ys := [x.num, (x.den : Int)]) (f := fun G v => qF G v x) l2 s2 (ev_var rfl) (ev_fun (ev_vR rfl rv)) (fun G H v s ⟨p, hv, hp⟩ => ⟨p, _, hv, SqT.of (s _ _ hp), .cons rfl (.cons rfl .nil)⟩) (by have := tl m; show _ + 2 ≤ 1000; omega) fun G3 H3 vs e3 l3 => ?_
    have E3 := l3.up (e2.trans e3)
    refine ⟨G3, e3.g, E3.sub, some v, rfl, E3, ?_⟩
    have z : told (m + 1) = told m ++ [x.num, (x.den : Int)] := by
      show _ :: (a.take (m + 1)).flatMap Lrx1.ints = _
      rw [take_step hx, List.flatMap_append]
      simp [told, Lrx1.ints]
    rw [z]
    exact l3
  · rintro σ G2 H2 sg s2 ⟨r3, rfl, e2, l2⟩
    obtain ⟨G3, s3, e3, q3, _⟩ := l2.frz e2
    refine st_ret e3.sub (ev_vR rfl q3) fun v G4 H4 e4 p => k v G4 H4 (e3.trans e4) ?_
    have z : told a.length = cntR a := by
      show _ :: (a.take a.length).flatMap Lrx1.ints = _
      rw [List.take_length]
      rfl
    rw [z] at p
    exact p
theorem op_stat (c : Chain) (i : Nat) : opR c (.stationary i) = if isState c i = false then [-2] else if isClosed c i = false then [-33] else cntR (stationaryOf c (classOf c i)) := by
  show toL (if isState c i = false then Lrx1.error (-2) else if isClosed c i = false then Lrx1.error (-33) else Lrx1.fractionsResult (stationaryOf c (classOf c i))) = _
  rw [apply_ite toL, apply_ite toL]
  rfl
theorem op_return (c : Chain) (i : Nat) : opR c (.returnTime i) = if isState c i = false then [-2] else if isClosed c i = false then [-33] else if rowSum c i = 0 ∧ c.isContinuous = true then [-33] else frR (Lrx1.divide (Lrx1.stay c i) (statV c i i)) := by
  show toL (if isState c i = false then Lrx1.error (-2) else if isClosed c i = false then Lrx1.error (-33) else if rowSum c i = 0 ∧ c.isContinuous = true then Lrx1.error (-33) else Lrx1.fractionResult (Lrx1.divide (Lrx1.stay c i) (entry (stationaryOf c (classOf c i)) i))) = _
  rw [apply_ite toL, apply_ite toL, apply_ite toL]
  rfl
theorem op_long (c : Chain) (i : Nat) : opR c (.longRun i) = if isState c i = false then [-2] else cntR (longRun c i) := by
  show toL (if isState c i = false then Lrx1.error (-2) else Lrx1.fractionsResult (longRun c i)) = _
  rw [apply_ite toL]
  rfl
theorem sum_fold (l : List Nat) : l.foldl (fun (a b : Nat) => a + b) 0 = l.sum := by
  have := EC.foldl_sum (fun x : Nat => x) l 0
  rw [this]
  simp
theorem op_after (c : Chain) (n : Nat) (start : List Nat) : opR c (.afterSteps n start) = if Lrx1.maxSteps < n ∨ start.length ≠ size c ∨ (start.all fun w => decide (w ≤ Lrx1.maxWeight)) = false ∨ start.foldl (fun (a b : Nat) => a + b) 0 = 0 then [-22] else if c.isContinuous = true ∧ greatestRate c = 0 then [-33] else cntR (afterF c n start) := by
  have e : afterF c n start = Lrx1.afterSteps c (greatestRate c) n (start.map fun (w : Nat) => reduce (w : Int) (start.foldl (fun (a b : Nat) => a + b) 0)) := by rw [sum_fold]; rfl
  rw [e]
  show toL (if Lrx1.maxSteps < n ∨ start.length ≠ size c ∨ (start.all fun w => decide (w ≤ Lrx1.maxWeight)) = false ∨ start.foldl (fun (a b : Nat) => a + b) 0 = 0 then Lrx1.error (-22) else if c.isContinuous = true ∧ greatestRate c = 0 then Lrx1.error (-33) else Lrx1.fractionsResult (Lrx1.afterSteps c (greatestRate c) n (start.map fun (w : Nat) => reduce (w : Int) (start.foldl (fun (a b : Nat) => a + b) 0)))) = _
  rw [apply_ite toL, apply_ite toL]
  rfl
theorem op_rev (c : Chain) (i : Nat) : opR c (.isReversible i) = if isState c i = false then [-2] else if isClosed c i = false then [-33] else [if Lrx1.isReversible c (classOf c i) then 1 else 0] := by
  show toL (if isState c i = false then Lrx1.error (-2) else if isClosed c i = false then Lrx1.error (-33) else Lrx1.number (if Lrx1.isReversible c (classOf c i) then 1 else 0)) = _
  rw [apply_ite toL, apply_ite toL]
  rfl
theorem op_reversed (c : Chain) (i j : Nat) : opR c (.reversed i j) = if isState c i = false ∨ isState c j = false then [-2] else if isClosed c i = false ∨ Lrx1.reaches c i j = false then [-33] else frR (Lrx1.divide (Lrx1.mul (statV c i j) (Lrx1.generator c j i)) (statV c i i)) := by
  show toL (if isState c i = false ∨ isState c j = false then Lrx1.error (-2) else if isClosed c i = false ∨ Lrx1.reaches c i j = false then Lrx1.error (-33) else Lrx1.fractionResult (Lrx1.divide (Lrx1.mul (entry (stationaryOf c (classOf c i)) j) (Lrx1.generator c j i)) (entry (stationaryOf c (classOf c i)) i))) = _
  rw [apply_ite toL, apply_ite toL]
  rfl
abbrev OpOk1 (a : Chain × Nat) : Prop := COk a.1
abbrev sp_stationary (K : PySem.W.Frag) : Sp := spG (α := Chain × Nat) (fun a => [aR (qC K) a.1, aV (.int (a.2 : Int))]) OpOk1 fun a => isR (qL qI) (opR a.1 (.stationary a.2))
theorem nn_LF (G : Hp) (v : V) (a : List Fraction) (h : qL qF G v a) : v ≠ .non := nn_L G v a h
abbrev N_stationary : List Str := ["chain", "i", "values"]
abbrev P_stationary : List Str := ["chain", "i"]
theorem sc_stationary : FnScope N_stationary P_stationary (defScope s_stationary) := ⟨rfl, rfl, rfl, by decide +kernel, rfl, by decide +kernel, by decide +kernel⟩
theorem ok_stationary (T : Tx K mg) : Has P w K mg base 7 (He.ga K "stationary") P_stationary (sp_stationary K) := by
  obtain ⟨⟨_, F_Chain_has_state, b_Chain_has_state⟩, kp_Chain_has_state⟩ := ok_Chain_has_state (P := P) (w := w) (base := base) T
  obtain ⟨⟨_, F_no_result, b_no_result⟩, kp_no_result⟩ := ok_no_result (P := P) (w := w) (base := base) T
  obtain ⟨⟨_, F_no_such_state, b_no_such_state⟩, kp_no_such_state⟩ := ok_no_such_state (P := P) (w := w) (base := base) T
  obtain ⟨⟨_, F_stationary_around, b_stationary_around⟩, kp_stationary_around⟩ := ok_stationary_around (P := P) (w := w) (base := base) T
  obtain ⟨⟨_, F_with_count, b_with_count⟩, kp_with_count⟩ := ok_with_count (P := P) (w := w) (base := base) T
  have nd := sc_stationary.nd
  refine has_mk T.f_stationary sc_stationary (fun _ => rfl) (fun _ _ _ _ _ _ us hl => match us, hl with | [_, _], _ => rfl) (fun cdv E outer s H X hr a G vs Q sm ha hok k => ⟨_, (pss_cons (ps_if (pt_not (pt_val (pe_meth (pv 0) T.c_Chain T.h_Chain_has_state F_Chain_has_state (hr.mono (by decide)) b_Chain_has_state .nil pass0 (pa_cons (pv 1) pa_nil)))) (pss_one (ps_ret (pe_call0 F_no_such_state (hr.mono (by decide)) (by rfl) T.g_no_such_state kp_no_such_state b_no_such_state .nil pass0))) pss_nil)
      (pss_cons (ps_set (i := 2) nd rfl (.inl rfl) (pe_call F_stationary_around (hr.mono (by decide)) (by rfl) T.g_stationary_around kp_stationary_around b_stationary_around .nil pass0 (pa_cons (pv 0) (pa_cons (pv 1) pa_nil))))
      (pss_cons (ps_if (pt_cmpR op_isN (pv 2) pe_non (by rfl)) (pss_one (ps_ret (pe_call0 F_no_result (hr.mono (by decide)) (by rfl) T.g_no_result kp_no_result b_no_result .nil pass0))) pss_nil)
      (pss_one (ps_ret (pe_call F_with_count (hr.mono (by decide)) (by rfl) T.g_with_count kp_with_count b_with_count .nil pass0 (pa_cons (pv 2) pa_nil))))))), ?_⟩)
  obtain ⟨v1, _, rfl, h1, _, _, rfl, rfl, rfl⟩ := ha
  obtain ⟨c, i⟩ := a
  have ok : COk c := hok
  dsimp only at h1 k ⊢
  rw [op_stat] at k
  refine sq_ifN sm (et_state (c := c) (i := i) (ev_meth (c, i) (ev_vR rfl h1) (ea_V (ev_var rfl) ea_nil) rfl trivial)) (fun b G2 H2 e2 => ?_) fun b G2 H2 e2 => ?_
  · have b' : isState c i = false := by simpa using b
    rw [if_pos b'] at k
    exact st_ret e2.sub (ev_call () ea_nil trivial) fun v G3 H3 e3 p => k v G3 H3 (e2.trans e3) p
  · have b' : isState c i = true := by simpa using b
    have hi : i < size c := of_decide_eq_true b'
    rw [b', if_neg (by decide)] at k
    refine sq_set e2.sub (ev_call (c, i) (ea_R (ev_vR rfl (Mo.mo e2.g h1)) (ea_V (ev_var rfl) ea_nil)) ⟨ok, hi⟩) fun v3 G3 H3 e3 p3 => ?_
    have e23 := e2.trans e3
    have p3' : qO (qL qF) G3 v3 (aroundF c i) := p3
    refine sq_ifN e3.sub (et_test (ev_isN nn_LF (ev_vR rfl p3'))) (fun d G4 H4 e4 => ?_) fun d G4 H4 e4 => ?_
    · have d' : isClosed c i = false := by
        unfold aroundF at d
        cases hc : isClosed c i with
        | true => rw [hc, if_pos rfl] at d; cases d
        | false => rfl
      rw [if_pos d'] at k
      exact st_ret e4.sub (ev_call () ea_nil trivial) fun v G5 H5 e5 p => k v G5 H5 ((e23.trans e4).trans e5) p
    · have d' : isClosed c i = true := by
        unfold aroundF at d
        cases hc : isClosed c i with
        | true => rfl
        | false => rw [hc, if_neg Bool.false_ne_true] at d; cases d
      rw [d', if_neg (by decide)] at k
      unfold aroundF at p3'
      rw [if_pos d'] at p3'
      exact st_ret e4.sub (ev_call (stationaryOf c (classOf c i)) (ea_R (ev_some (ev_vR (R := qO (qL qF)) rfl (Mo.mo e4.g p3'))) ea_nil) (by rw [EC.stat_len]; have := ok.le; omega)) fun v G5 H5 e5 p => k v G5 H5 ((e23.trans e4).trans e5) p
abbrev sp_return_time (K : PySem.W.Frag) : Sp := spG (α := Chain × Nat) (fun a => [aR (qC K) a.1, aV (.int (a.2 : Int))]) OpOk1 fun a => isR (qL qI) (opR a.1 (.returnTime a.2))
theorem ev_sumZero {σ : L2.St} {G H : Hp} {c : Chain} {i : Nat} {te : TE} (h : Ev te σ G H (isV (.int (rowSum c i : Int)))) : EvT (tTest (tOp rEq te (tC (.int 0)))) σ G H (decide (rowSum c i = 0)) := by
  refine et_is (et_test (ev_eq h ev_c rfl)) ?_
  rw [dec_int]
  by_cases q : rowSum c i = 0
  · simp [q]
  · have : ((rowSum c i : Int) == 0) = false := by simpa using q
    rw [this, decide_eq_false q]
abbrev N_return_time : List Str := ["chain", "i", "values"]
abbrev P_return_time : List Str := ["chain", "i"]
theorem sc_return_time : FnScope N_return_time P_return_time (defScope s_return_time) := ⟨rfl, rfl, rfl, by decide +kernel, rfl, by decide +kernel, by decide +kernel⟩
theorem ok_return_time (T : Tx K mg) : Has P w K mg base 7 (He.ga K "return_time") P_return_time (sp_return_time K) := by
  obtain ⟨⟨_, F_Chain_has_state, b_Chain_has_state⟩, kp_Chain_has_state⟩ := ok_Chain_has_state (P := P) (w := w) (base := base) T
  obtain ⟨⟨_, F_Chain_stay_in, b_Chain_stay_in⟩, kp_Chain_stay_in⟩ := ok_Chain_stay_in (P := P) (w := w) (base := base) T
  obtain ⟨⟨_, F_Chain_sum_of, b_Chain_sum_of⟩, kp_Chain_sum_of⟩ := ok_Chain_sum_of (P := P) (w := w) (base := base) T
  obtain ⟨⟨_, F_no_result, b_no_result⟩, kp_no_result⟩ := ok_no_result (P := P) (w := w) (base := base) T
  obtain ⟨⟨_, F_no_such_state, b_no_such_state⟩, kp_no_such_state⟩ := ok_no_such_state (P := P) (w := w) (base := base) T
  obtain ⟨⟨_, F_quotient, b_quotient⟩, kp_quotient⟩ := ok_quotient (P := P) (w := w) (base := base) T
  obtain ⟨⟨_, F_stationary_around, b_stationary_around⟩, kp_stationary_around⟩ := ok_stationary_around (P := P) (w := w) (base := base) T
  have nd := sc_return_time.nd
  refine has_mk T.f_return_time sc_return_time (fun _ => rfl) (fun _ _ _ _ _ _ us hl => match us, hl with | [_, _], _ => rfl) (fun cdv E outer s H X hr a G vs Q sm ha hok k => ⟨_, (pss_cons (ps_if (pt_not (pt_val (pe_meth (pv 0) T.c_Chain T.h_Chain_has_state F_Chain_has_state (hr.mono (by decide)) b_Chain_has_state .nil pass0 (pa_cons (pv 1) pa_nil)))) (pss_one (ps_ret (pe_call0 F_no_such_state (hr.mono (by decide)) (by rfl) T.g_no_such_state kp_no_such_state b_no_such_state .nil pass0))) pss_nil)
      (pss_cons (ps_set (i := 2) nd rfl (.inl rfl) (pe_call F_stationary_around (hr.mono (by decide)) (by rfl) T.g_stationary_around kp_stationary_around b_stationary_around .nil pass0 (pa_cons (pv 0) (pa_cons (pv 1) pa_nil))))
      (pss_cons (ps_if (PW.pt (pw_or (pt_cmpR op_isN (pv 2) pe_non (by rfl)) (pw_or1 (PW.pt (pw_and (pt_cmpR op_eq (k_fld K rfl (pv 0)) pe_int (by rfl)) (pw_and1 (pt_cmpR op_eq (pe_meth (pv 0) T.c_Chain T.h_Chain_sum_of F_Chain_sum_of (hr.mono (by decide)) b_Chain_sum_of .nil pass0 (pa_cons (pv 1) pa_nil)) pe_int (by rfl)))))))) (pss_one (ps_ret (pe_call0 F_no_result (hr.mono (by decide)) (by rfl) T.g_no_result kp_no_result b_no_result .nil pass0))) pss_nil)
      (pss_one (ps_ret (pe_op op_cat (pe_lst (pa_cons pe_int pa_nil)) (pe_callTy (k_list K rfl) (by rfl) T.z_list (by decide +kernel) (pa_cons (pe_call F_quotient (hr.mono (by decide)) (by rfl) T.g_quotient kp_quotient b_quotient .nil pass0 (pa_cons (pe_meth (pv 0) T.c_Chain T.h_Chain_stay_in F_Chain_stay_in (hr.mono (by decide)) b_Chain_stay_in .nil pass0 (pa_cons (pv 1) pa_nil)) (pa_cons (pe_ix (k_ixl K rfl) (pv 2) (pv 1) (fun _ _ => rfl)) pa_nil))) pa_nil)))))))), ?_⟩)
  obtain ⟨v1, _, rfl, h1, _, _, rfl, rfl, rfl⟩ := ha
  obtain ⟨c, i⟩ := a
  have ok : COk c := hok
  dsimp only at h1 k ⊢
  rw [op_return] at k
  refine sq_ifN sm (et_state (c := c) (i := i) (ev_meth (c, i) (ev_vR rfl h1) (ea_V (ev_var rfl) ea_nil) rfl trivial)) (fun b G2 H2 e2 => ?_) fun b G2 H2 e2 => ?_
  · have b' : isState c i = false := by simpa using b
    rw [if_pos b'] at k
    exact st_ret e2.sub (ev_call () ea_nil trivial) fun v G3 H3 e3 p => k v G3 H3 (e2.trans e3) p
  · have b' : isState c i = true := by simpa using b
    have hi : i < size c := of_decide_eq_true b'
    rw [b', if_neg (by decide)] at k
    refine sq_set e2.sub (ev_call (c, i) (ea_R (ev_vR rfl (Mo.mo e2.g h1)) (ea_V (ev_var rfl) ea_nil)) ⟨ok, hi⟩) fun v3 G3 H3 e3 p3 => ?_
    have e23 := e2.trans e3
    have p3' : qO (qL qF) G3 v3 (aroundF c i) := p3
    refine sq_ifN e3.sub (et_or (et_test (ev_isN nn_LF (ev_vR rfl p3'))) fun _ => et_and (ev_kind1 T (ev_vR rfl (Mo.mo e23.g h1))) fun _ => ev_sumZero (c := c) (i := i) (ev_meth (c, i) (ev_vR rfl (Mo.mo e23.g h1)) (ea_V (ev_var rfl) ea_nil) rfl ⟨ok, hi⟩)) (fun d G4 H4 e4 => ?_) fun d G4 H4 e4 => ?_
    · refine st_ret e4.sub (ev_call () ea_nil trivial) fun v G5 H5 e5 p => k v G5 H5 ((e23.trans e4).trans e5) ?_
      cases hc : isClosed c i with
      | false => rw [if_pos rfl]; exact p
      | true =>
        rw [if_neg (by decide), if_pos]
        · exact p
        · unfold aroundF at d
          rw [hc, if_pos rfl] at d
          have d' : c.isContinuous = true ∧ rowSum c i = 0 := by simpa using d
          exact ⟨d'.2, d'.1⟩
    · rw [Bool.or_eq_false_iff] at d
      have d' : isClosed c i = true := by
        have d1 := d.1
        unfold aroundF at d1
        cases hc : isClosed c i with
        | true => rfl
        | false => rw [hc, if_neg Bool.false_ne_true] at d1; cases d1
      have dn : ¬ (rowSum c i = 0 ∧ c.isContinuous = true) := by
        rintro ⟨z1, z2⟩
        have d2 := d.2
        rw [z2, decide_eq_true z1] at d2
        exact absurd d2 (by decide)
      rw [d', if_neg (by decide), if_neg dn] at k
      unfold aroundF at p3'
      rw [if_pos d'] at p3'
      obtain ⟨es, fs⟩ := EC.frOk_stay ok i fun hc z => dn ⟨z, hc⟩
      have self := EC.class_self ok hi
      have e24 := e23.trans e4
      exact st_ret e4.sub (ev_res0 (ev_call (Lrx1.stay c i, statV c i i) (ea_R (ev_a (ev_meth (c, i) (ev_vR rfl (Mo.mo e24.g h1)) (ea_V (ev_var rfl) ea_nil) rfl ⟨ok, hi⟩) es.symm) (ea_R (ev_ixL (ev_some (ev_vR (R := qO (qL qF)) rfl (Mo.mo e4.g p3'))) (ev_var rfl) (at_getD zero (by rw [EC.stat_len]; exact hi))) ea_nil)) ⟨24, 3226, by decide, by decide, by decide, fs, EC.frOk_statV ok hi d' hi, EC.statV_pos ok hi d' self⟩)) fun v G5 H5 e5 p => k v G5 H5 (e24.trans e5) p
abbrev sp_long_run (K : PySem.W.Frag) : Sp := spG (α := Chain × Nat) (fun a => [aR (qC K) a.1, aV (.int (a.2 : Int))]) OpOk1 fun a => isR (qL qI) (opR a.1 (.longRun a.2))
abbrev N_long_run : List Str := ["chain", "i"]
abbrev P_long_run : List Str := ["chain", "i"]
theorem sc_long_run : FnScope N_long_run P_long_run (defScope s_long_run) := ⟨rfl, rfl, rfl, by decide +kernel, rfl, by decide +kernel, by decide +kernel⟩
theorem ok_long_run (T : Tx K mg) : Has P w K mg base 8 (He.ga K "long_run") P_long_run (sp_long_run K) := by
  obtain ⟨⟨_, F_Chain_has_state, b_Chain_has_state⟩, kp_Chain_has_state⟩ := ok_Chain_has_state (P := P) (w := w) (base := base) T
  obtain ⟨⟨_, F_long_run_shares, b_long_run_shares⟩, kp_long_run_shares⟩ := ok_long_run_shares (P := P) (w := w) (base := base) T
  obtain ⟨⟨_, F_no_such_state, b_no_such_state⟩, kp_no_such_state⟩ := ok_no_such_state (P := P) (w := w) (base := base) T
  obtain ⟨⟨_, F_with_count, b_with_count⟩, kp_with_count⟩ := ok_with_count (P := P) (w := w) (base := base) T
  have nd := sc_long_run.nd
  refine has_mk T.f_long_run sc_long_run (fun _ => rfl) (fun _ _ _ _ _ _ us hl => match us, hl with | [_, _], _ => rfl) (fun cdv E outer s H X hr a G vs Q sm ha hok k => ⟨_, (pss_cons (ps_if (pt_not (pt_val (pe_meth (pv 0) T.c_Chain T.h_Chain_has_state F_Chain_has_state (hr.mono (by decide)) b_Chain_has_state .nil pass0 (pa_cons (pv 1) pa_nil)))) (pss_one (ps_ret (pe_call0 F_no_such_state (hr.mono (by decide)) (by rfl) T.g_no_such_state kp_no_such_state b_no_such_state .nil pass0))) pss_nil)
      (pss_one (ps_ret (pe_call F_with_count (hr.mono (by decide)) (by rfl) T.g_with_count kp_with_count b_with_count .nil pass0 (pa_cons (pe_call F_long_run_shares (hr.mono (by decide)) (by rfl) T.g_long_run_shares kp_long_run_shares b_long_run_shares .nil pass0 (pa_cons (pv 0) (pa_cons (pv 1) pa_nil))) pa_nil))))), ?_⟩)
  obtain ⟨v1, _, rfl, h1, _, _, rfl, rfl, rfl⟩ := ha
  obtain ⟨c, i⟩ := a
  have ok : COk c := hok
  dsimp only at h1 k ⊢
  rw [op_long] at k
  refine sq_ifN sm (et_state (c := c) (i := i) (ev_meth (c, i) (ev_vR rfl h1) (ea_V (ev_var rfl) ea_nil) rfl trivial)) (fun b G2 H2 e2 => ?_) fun b G2 H2 e2 => ?_
  · have b' : isState c i = false := by simpa using b
    rw [if_pos b'] at k
    exact st_ret e2.sub (ev_call () ea_nil trivial) fun v G3 H3 e3 p => k v G3 H3 (e2.trans e3) p
  · have b' : isState c i = true := by simpa using b
    have hi : i < size c := of_decide_eq_true b'
    rw [b', if_neg (by decide)] at k
    exact st_ret e2.sub (ev_call (longRun c i) (ea_R (ev_call (c, i) (ea_R (ev_vR rfl (Mo.mo e2.g h1)) (ea_V (ev_var rfl) ea_nil)) ⟨ok, hi⟩) ea_nil) (by rw [EC.longRun_is, List.length_map, states_len]; have := ok.le; omega)) fun v G3 H3 e3 p => k v G3 H3 (e2.trans e3) p
def startB (c : Chain) (start : List Nat) : Bool := decide (start.length = size c) && (start.all (fun w => decide (w ≤ Lrx1.maxWeight)) && decide (0 < start.sum))
abbrev sp_is_start (K : PySem.W.Frag) : Sp := spG (α := Chain × List Nat) (fun a => [aR (qC K) a.1, aR (qL qN) a.2]) (fun a => COk a.1) fun a => isV (.bl (startB a.1 a.2))
theorem max_ex : ∀ l : List Nat, l ≠ [] → ∃ m ∈ l, ∀ x ∈ l, x ≤ m
  | [x], _ => ⟨x, by simp, by simp⟩
  | x :: y :: r, _ => by
    obtain ⟨m, hm, h⟩ := max_ex (y :: r) (by simp)
    by_cases q : x ≤ m
    · exact ⟨m, List.mem_cons_of_mem _ hm, fun z hz => by
        rcases List.mem_cons.mp hz with rfl | hz
        · exact q
        · exact h z hz⟩
    · exact ⟨x, List.mem_cons_self .., fun z hz => by
        rcases List.mem_cons.mp hz with rfl | hz
        · exact Nat.le_refl _
        · exact Nat.le_trans (h z hz) (by omega)⟩
theorem mem_le_sum : ∀ {l : List Nat} {x : Nat}, x ∈ l → x ≤ l.sum
  | y :: r, x, h => by
    rw [List.sum_cons]
    rcases List.mem_cons.mp h with rfl | h
    · omega
    · have := mem_le_sum h; omega
abbrev N_is_start : List Str := ["chain", "start"]
abbrev P_is_start : List Str := ["chain", "start"]
theorem sc_is_start : FnScope N_is_start P_is_start (defScope s_is_start) := ⟨rfl, rfl, rfl, by decide +kernel, rfl, by decide +kernel, by decide +kernel⟩
theorem ok_is_start (T : Tx K mg) : Has P w K mg base 2 (He.ga K "is_start") P_is_start (sp_is_start K) := by
  obtain ⟨⟨_, F_Chain_state_count, b_Chain_state_count⟩, kp_Chain_state_count⟩ := ok_Chain_state_count (P := P) (w := w) (base := base) T
  obtain ⟨_, h_GREATEST_START⟩ := T.i_GREATEST_START
  have nd := sc_is_start.nd
  refine has_mk T.f_is_start sc_is_start (fun _ => rfl) (fun _ _ _ _ _ _ us hl => match us, hl with | [_, _], _ => rfl) (fun cdv E outer s H X hr a G vs Q sm ha hok k => ⟨_, (pss_cons (ps_if (pt_cmpR op_ne (pe_callB (k_len K rfl) (by rfl) T.z_len PySem.boot_len (pa_cons (pv 1) pa_nil)) (pe_meth0 (pv 0) T.c_Chain T.h_Chain_state_count F_Chain_state_count (hr.mono (by decide)) b_Chain_state_count .nil pass0) (by rfl)) (pss_one (ps_ret pe_bl)) pss_nil)
      (pss_one (ps_ret (pe_chain op_lt op_le pe_int (pe_callB (k_max K rfl rfl) (by rfl) T.z_max (by decide +kernel) (pa_cons (pv 1) pa_nil)) (pe_glob (v := .int 1000000) (by rfl) h_GREATEST_START ⟨_, rfl⟩))))), ?_⟩)
  obtain ⟨v1, _, rfl, h1, v2, _, rfl, h2, rfl⟩ := ha
  obtain ⟨c, start⟩ := a
  have ok : COk c := hok
  dsimp only at h1 h2 k ⊢
  have pos := ok.pos
  refine sq_ifN sm (et_is (et_test (ev_ne (ev_lenL (ev_vR rfl h2)) (ev_meth c (ev_vR rfl h1) ea_nil rfl trivial) rfl)) (show _ = !decide (start.length = size c) from by rw [dec_int_nat])) (fun b G2 H2 e2 => ?_) fun b G2 H2 e2 => ?_
  · have b' : ¬ start.length = size c := by simpa using b
    refine st_ret e2.sub ev_c fun v G3 H3 e3 p => k v G3 H3 (e2.trans e3) ?_
    rw [show v = V.bl false from p]
    unfold startB
    rw [decide_eq_false b', Bool.false_and]
    rfl
  · have b' : start.length = size c := by simpa using b
    obtain ⟨m, hm, hmax⟩ := max_ex start (fun z => by rw [z] at b'; simp at b'; omega)
    refine st_ret e2.sub (ev_V (ev_chainI (f := fun i j => decide (i < j)) (g := fun i j => decide (i ≤ j)) ev_c (ev_maxN (ev_vR rfl (Mo.mo e2.g h2)) hm hmax) ev_c) ?_) fun v G3 H3 e3 p => k v G3 H3 (e2.trans e3) p
    congr 1
    unfold startB
    rw [decide_eq_true b', Bool.true_and, Bool.eq_iff_iff, Bool.and_eq_true, Bool.and_eq_true, decide_eq_true_iff, decide_eq_true_iff, decide_eq_true_iff, List.all_eq_true]
    constructor
    · rintro ⟨z1, z2⟩
      refine ⟨fun x hx => decide_eq_true ?_, ?_⟩
      · have := hmax x hx
        show x ≤ 1000000
        omega
      · have := mem_le_sum hm
        omega
    · rintro ⟨z1, z2⟩
      have z3 := of_decide_eq_true (z1 m hm)
      have z3 : m ≤ 1000000 := z3
      refine ⟨?_, by omega⟩
      have := start_sum start hmax
      refine Classical.byContradiction fun z => ?_
      have m0 : m = 0 := by omega
      subst m0
      simp at this
      omega
abbrev OpArgS : Type := Chain × Nat × List Nat
abbrev sp_after_steps (K : PySem.W.Frag) : Sp := spG (α := OpArgS) (fun a => [aR (qC K) a.1, aV (.int (a.2.1 : Int)), aR (qL qN) a.2.2]) (fun a => COk a.1) fun a => isR (qL qI) (opR a.1 (.afterSteps a.2.1 a.2.2))
abbrev N_after_steps : List Str := ["chain", "steps", "start"]
abbrev P_after_steps : List Str := ["chain", "steps", "start"]
theorem sc_after_steps : FnScope N_after_steps P_after_steps (defScope s_after_steps) := ⟨rfl, rfl, rfl, by decide +kernel, rfl, by decide +kernel, by decide +kernel⟩
theorem ok_after_steps (T : Tx K mg) : Has P w K mg base 5 (He.ga K "after_steps") P_after_steps (sp_after_steps K) := by
  obtain ⟨⟨_, F_Chain_greatest_sum, b_Chain_greatest_sum⟩, kp_Chain_greatest_sum⟩ := ok_Chain_greatest_sum (P := P) (w := w) (base := base) T
  obtain ⟨⟨_, F_distribution_after, b_distribution_after⟩, kp_distribution_after⟩ := ok_distribution_after (P := P) (w := w) (base := base) T
  obtain ⟨⟨_, F_is_start, b_is_start⟩, kp_is_start⟩ := ok_is_start (P := P) (w := w) (base := base) T
  obtain ⟨⟨_, F_no_result, b_no_result⟩, kp_no_result⟩ := ok_no_result (P := P) (w := w) (base := base) T
  obtain ⟨⟨_, F_out_of_range, b_out_of_range⟩, kp_out_of_range⟩ := ok_out_of_range (P := P) (w := w) (base := base) T
  obtain ⟨⟨_, F_with_count, b_with_count⟩, kp_with_count⟩ := ok_with_count (P := P) (w := w) (base := base) T
  obtain ⟨_, h_GREATEST_STEPS⟩ := T.i_GREATEST_STEPS
  have nd := sc_after_steps.nd
  refine has_mk T.f_after_steps sc_after_steps (fun _ => rfl) (fun _ _ _ _ _ _ us hl => match us, hl with | [_, _, _], _ => rfl) (fun cdv E outer s H X hr a G vs Q sm ha hok k => ⟨_, (pss_cons (ps_if (PW.pt (pw_or (pt_cmpR op_gt (pv 1) (pe_glob (v := .int 24) (by rfl) h_GREATEST_STEPS ⟨_, rfl⟩) (by rfl)) (pw_or1 (pt_not (pt_val (pe_call F_is_start (hr.mono (by decide)) (by rfl) T.g_is_start kp_is_start b_is_start .nil pass0 (pa_cons (pv 0) (pa_cons (pv 2) pa_nil)))))))) (pss_one (ps_ret (pe_call0 F_out_of_range (hr.mono (by decide)) (by rfl) T.g_out_of_range kp_out_of_range b_out_of_range .nil pass0))) pss_nil)
      (pss_cons (ps_if (PW.pt (pw_and (pt_cmpR op_eq (k_fld K rfl (pv 0)) pe_int (by rfl)) (pw_and1 (pt_cmpR op_eq (pe_meth0 (pv 0) T.c_Chain T.h_Chain_greatest_sum F_Chain_greatest_sum (hr.mono (by decide)) b_Chain_greatest_sum .nil pass0) pe_int (by rfl))))) (pss_one (ps_ret (pe_call0 F_no_result (hr.mono (by decide)) (by rfl) T.g_no_result kp_no_result b_no_result .nil pass0))) pss_nil)
      (pss_one (ps_ret (pe_call F_with_count (hr.mono (by decide)) (by rfl) T.g_with_count kp_with_count b_with_count .nil pass0 (pa_cons (pe_call F_distribution_after (hr.mono (by decide)) (by rfl) T.g_distribution_after kp_distribution_after b_distribution_after .nil pass0 (pa_cons (pv 0) (pa_cons (pv 1) (pa_cons (pv 2) pa_nil)))) pa_nil)))))), ?_⟩)
  obtain ⟨v1, _, rfl, h1, _, _, rfl, rfl, v3, _, rfl, h3, rfl⟩ := ha
  obtain ⟨c, n, start⟩ := a
  have ok : COk c := hok
  dsimp only at h1 h3 k ⊢
  rw [op_after] at k
  refine sq_ifN sm (et_or (et_test (ev_I0 (ev_var rfl) ev_c)) fun _ => et_not (et_B (ev_call (c, start) (ea_R (ev_vR rfl h1) (ea_R (ev_vR rfl h3) ea_nil)) ok))) (fun b G2 H2 e2 => ?_) fun b G2 H2 e2 => ?_
  · have b' : Lrx1.maxSteps < n ∨ start.length ≠ size c ∨ (start.all fun w => decide (w ≤ Lrx1.maxWeight)) = false ∨ start.foldl (fun (a b : Nat) => a + b) 0 = 0 := by
      rw [Bool.or_eq_true] at b
      rcases b with b | b
      · left
        have := of_decide_eq_true b
        have : (n : Int) > 24 := this
        show 24 < n
        omega
      · right
        unfold startB at b
        rw [sum_fold]
        by_cases q1 : start.length = size c
        · right
          cases q2 : start.all fun w => decide (w ≤ Lrx1.maxWeight) with
          | false => exact .inl rfl
          | true =>
            rw [q2, decide_eq_true q1] at b
            right
            have : ¬ 0 < start.sum := by simpa using b
            omega
        · exact .inl q1
    rw [if_pos b'] at k
    exact st_ret e2.sub (ev_call () ea_nil trivial) fun v G3 H3 e3 p => k v G3 H3 (e2.trans e3) p
  · rw [Bool.or_eq_false_iff] at b
    obtain ⟨b1, b2⟩ := b
    have b1' : n ≤ 24 := by
      have := of_decide_eq_false b1
      have : ¬ (n : Int) > 24 := this
      omega
    have b2' : startB c start = true := by simpa using b2
    unfold startB at b2'
    rw [Bool.and_eq_true, Bool.and_eq_true] at b2'
    obtain ⟨q1, q2, q3⟩ := b2'
    have q1 := of_decide_eq_true q1
    have q3 := of_decide_eq_true q3
    have bn : ¬ (Lrx1.maxSteps < n ∨ start.length ≠ size c ∨ (start.all fun w => decide (w ≤ Lrx1.maxWeight)) = false ∨ start.foldl (fun (a b : Nat) => a + b) 0 = 0) := by
      rw [sum_fold]
      rintro (z | z | z | z)
      · have : 24 < n := z
        omega
      · exact z q1
      · rw [q2] at z; cases z
      · omega
    rw [if_neg bn] at k
    have eg : ∀ {G2 H2 : Hp} {te : TE} {σ : L2.St}, Ev te σ G2 H2 (isV (.int (greatestRate c : Int))) → EvT (tTest (tOp rEq te (tC (.int 0)))) σ G2 H2 (decide (greatestRate c = 0)) := fun {G2 H2 te σ} h => et_is (et_test (ev_eq h ev_c rfl)) (dec_int_nat (greatestRate c) 0)
    refine sq_ifN e2.sub (et_and (ev_kind1 T (ev_vR rfl (Mo.mo e2.g h1))) fun _ => eg (ev_meth c (ev_vR rfl (Mo.mo e2.g h1)) ea_nil rfl ok)) (fun d G3 H3 e3 => ?_) fun d G3 H3 e3 => ?_
    · have d' : c.isContinuous = true ∧ greatestRate c = 0 := by simpa using d
      rw [if_pos d'] at k
      exact st_ret e3.sub (ev_call () ea_nil trivial) fun v G4 H4 e4 p => k v G4 H4 ((e2.trans e3).trans e4) p
    · have d' : ¬ (c.isContinuous = true ∧ greatestRate c = 0) := by
        rintro ⟨z1, z2⟩
        rw [z1, decide_eq_true z2] at d
        exact absurd d (by decide)
      rw [if_neg d'] at k
      have e23 := e2.trans e3
      have g : c.isContinuous = true → greatestRate c ≠ 0 := fun z1 z2 => d' ⟨z1, z2⟩
      have al : (afterF c n start).length = size c := by
        unfold afterF
        rw [EC.after_is ok g q1 q3, List.length_map, EC.numS_len ok q1]
      exact st_ret e3.sub (ev_call (afterF c n start) (ea_R (ev_call (c, n, start) (ea_R (ev_vR rfl (Mo.mo e23.g h1)) (ea_V (ev_var rfl) (ea_R (ev_vR rfl (Mo.mo e23.g h3)) ea_nil))) ⟨ok, g, q1, fun x hx => of_decide_eq_true (List.all_eq_true.mp q2 x hx), q3, b1'⟩) ea_nil) (by rw [al]; have := ok.le; omega)) fun v G4 H4 e4 p => k v G4 H4 (e23.trans e4) p
def revB (c : Chain) (i x y : Nat) : Bool := decide (Lrx1.mul (statV c i x) (Lrx1.generator c x y) = Lrx1.mul (statV c i y) (Lrx1.generator c y x))
theorem rev_is (c : Chain) (i : Nat) : Lrx1.isReversible c (classOf c i) = true ↔ ∀ x ∈ classOf c i, ∀ y ∈ classOf c i, revB c i x y = true := by
  unfold Lrx1.isReversible revB statV
  dsimp only
  rw [List.all_eq_true]
  constructor
  · intro h x hx y hy
    have := List.all_eq_true.mp (h x hx) y hy
    rw [Bool.or_eq_true] at this
    rcases this with z | z
    · have : x = y := by simpa using z
      subst this
      exact decide_eq_true rfl
    · exact decide_eq_true (by simpa using z)
  · intro h x hx
    rw [List.all_eq_true]
    intro y hy
    rw [Bool.or_eq_true]
    right
    have := of_decide_eq_true (h x hx y hy)
    simpa using this
abbrev sp_is_reversible (K : PySem.W.Frag) : Sp := spG (α := Chain × Nat) (fun a => [aR (qC K) a.1, aV (.int (a.2 : Int))]) OpOk1 fun a => isR (qL qI) (opR a.1 (.isReversible a.2))
abbrev N_is_reversible : List Str := ["chain", "i", "values", "members", "j", "k", "there"]
abbrev P_is_reversible : List Str := ["chain", "i"]
theorem sc_is_reversible : FnScope N_is_reversible P_is_reversible (defScope s_is_reversible) := ⟨rfl, rfl, rfl, by decide +kernel, rfl, by decide +kernel, by decide +kernel⟩
theorem ok_is_reversible (T : Tx K mg) : Has P w K mg base 7 (He.ga K "is_reversible") P_is_reversible (sp_is_reversible K) := by
  obtain ⟨⟨_, F_Chain_generator_value, b_Chain_generator_value⟩, kp_Chain_generator_value⟩ := ok_Chain_generator_value (P := P) (w := w) (base := base) T
  obtain ⟨⟨_, F_Chain_has_state, b_Chain_has_state⟩, kp_Chain_has_state⟩ := ok_Chain_has_state (P := P) (w := w) (base := base) T
  obtain ⟨⟨_, F_class_of, b_class_of⟩, kp_class_of⟩ := ok_class_of (P := P) (w := w) (base := base) T
  obtain ⟨⟨_, F_no_result, b_no_result⟩, kp_no_result⟩ := ok_no_result (P := P) (w := w) (base := base) T
  obtain ⟨⟨_, F_no_such_state, b_no_such_state⟩, kp_no_such_state⟩ := ok_no_such_state (P := P) (w := w) (base := base) T
  obtain ⟨⟨_, F_product, b_product⟩, kp_product⟩ := ok_product (P := P) (w := w) (base := base) T
  obtain ⟨⟨_, F_stationary_around, b_stationary_around⟩, kp_stationary_around⟩ := ok_stationary_around (P := P) (w := w) (base := base) T
  have nd := sc_is_reversible.nd
  refine has_mk T.f_is_reversible sc_is_reversible (fun _ => rfl) (fun _ _ _ _ _ _ us hl => match us, hl with | [_, _], _ => rfl) (fun cdv E outer s H X hr a G vs Q sm ha hok k => ⟨_, (pss_cons (ps_if (pt_not (pt_val (pe_meth (pv 0) T.c_Chain T.h_Chain_has_state F_Chain_has_state (hr.mono (by decide)) b_Chain_has_state .nil pass0 (pa_cons (pv 1) pa_nil)))) (pss_one (ps_ret (pe_call0 F_no_such_state (hr.mono (by decide)) (by rfl) T.g_no_such_state kp_no_such_state b_no_such_state .nil pass0))) pss_nil)
      (pss_cons (ps_set (i := 2) nd rfl (.inl rfl) (pe_call F_stationary_around (hr.mono (by decide)) (by rfl) T.g_stationary_around kp_stationary_around b_stationary_around .nil pass0 (pa_cons (pv 0) (pa_cons (pv 1) pa_nil))))
      (pss_cons (ps_if (pt_cmpR op_isN (pv 2) pe_non (by rfl)) (pss_one (ps_ret (pe_call0 F_no_result (hr.mono (by decide)) (by rfl) T.g_no_result kp_no_result b_no_result .nil pass0))) pss_nil)
      (pss_cons (ps_set (i := 3) nd rfl (.inl rfl) (pe_call F_class_of (hr.mono (by decide)) (by rfl) T.g_class_of kp_class_of b_class_of .nil pass0 (pa_cons (k_fld K rfl (pv 0)) (pa_cons (pv 1) pa_nil))))
      (pss_cons (ps_for PassesOwn.never rfl (k_pil K rfl (pv 3)) (pg_name (i := 4) nd rfl (.inl rfl)) (pss_one (ps_for PassesOwn.never rfl (k_pil K rfl (pv 3)) (pg_name (i := 5) nd rfl (.inl rfl)) (pss_cons (ps_set (i := 6) nd rfl (.inl rfl) (pe_call F_product (hr.mono (by decide)) (by rfl) T.g_product kp_product b_product .nil pass0 (pa_cons (pe_ix (k_ixl K rfl) (pv 2) (pv 4) (fun _ _ => rfl)) (pa_cons (pe_meth (pv 0) T.c_Chain T.h_Chain_generator_value F_Chain_generator_value (hr.mono (by decide)) b_Chain_generator_value .nil pass0 (pa_cons (pv 4) (pa_cons (pv 5) pa_nil))) pa_nil))))
      (pss_one (ps_if (pt_cmpR (k_neD K rfl hr.units) (pv 6) (pe_call F_product (hr.mono (by decide)) (by rfl) T.g_product kp_product b_product .nil pass0 (pa_cons (pe_ix (k_ixl K rfl) (pv 2) (pv 5) (fun _ _ => rfl)) (pa_cons (pe_meth (pv 0) T.c_Chain T.h_Chain_generator_value F_Chain_generator_value (hr.mono (by decide)) b_Chain_generator_value .nil pass0 (pa_cons (pv 5) (pa_cons (pv 4) pa_nil))) pa_nil))) (by rfl)) (pss_one (ps_ret (pe_lst (pa_cons pe_int pa_nil)))) pss_nil))))))
      (pss_one (ps_ret (pe_lst (pa_cons pe_int pa_nil))))))))), ?_⟩)
  obtain ⟨v1, _, rfl, h1, _, _, rfl, rfl, rfl⟩ := ha
  obtain ⟨c, i⟩ := a
  have ok : COk c := hok
  dsimp only at h1 k ⊢
  rw [op_rev] at k
  refine sq_ifN sm (et_state (c := c) (i := i) (ev_meth (c, i) (ev_vR rfl h1) (ea_V (ev_var rfl) ea_nil) rfl trivial)) (fun b G2 H2 e2 => ?_) fun b G2 H2 e2 => ?_
  · have b' : isState c i = false := by simpa using b
    rw [if_pos b'] at k
    exact st_ret e2.sub (ev_call () ea_nil trivial) fun v G3 H3 e3 p => k v G3 H3 (e2.trans e3) p
  · have b' : isState c i = true := by simpa using b
    have hi : i < size c := of_decide_eq_true b'
    rw [b', if_neg (by decide)] at k
    refine sq_set e2.sub (ev_call (c, i) (ea_R (ev_vR rfl (Mo.mo e2.g h1)) (ea_V (ev_var rfl) ea_nil)) ⟨ok, hi⟩) fun v3 G3 H3 e3 p3 => ?_
    have e23 := e2.trans e3
    have p3' : qO (qL qF) G3 v3 (aroundF c i) := p3
    refine sq_ifN e3.sub (et_test (ev_isN nn_LF (ev_vR rfl p3'))) (fun d G4 H4 e4 => ?_) fun d G4 H4 e4 => ?_
    · have d' : isClosed c i = false := by
        unfold aroundF at d
        cases hc : isClosed c i with
        | true => rw [hc, if_pos rfl] at d; cases d
        | false => rfl
      rw [if_pos d'] at k
      exact st_ret e4.sub (ev_call () ea_nil trivial) fun v G5 H5 e5 p => k v G5 H5 ((e23.trans e4).trans e5) p
    · have d' : isClosed c i = true := by
        unfold aroundF at d
        cases hc : isClosed c i with
        | true => rfl
        | false => rw [hc, if_neg Bool.false_ne_true] at d; cases d
      rw [d', if_neg (by decide)] at k
      unfold aroundF at p3'
      rw [if_pos d'] at p3'
      have e24 := e23.trans e4
      refine sq_set e4.sub (ev_call (c, i) (ea_R (ev_rows T (ev_vR rfl (Mo.mo e24.g h1))) (ea_V (ev_var rfl) ea_nil)) ⟨ok, hi⟩) fun v4 G5 H5 e5 p4 => ?_
      have e25 := e24.trans e5
      have q3 : qL qF G5 v3 (stationaryOf c (classOf c i)) := Mo.mo (e4.trans e5).g p3'
      have sat : ∀ x, x < size c → (stationaryOf c (classOf c i))[x]? = some (statV c i x) := fun x hx => at_getD zero (by rw [EC.stat_len]; exact hx)
      refine sq (fo_list (S := qN) (xs := classOf c i) e5.sub (ev_vR rfl p4) (fun m σ G6 H6 => ∃ r5 r6 r7, σ = [some v1, some (.int (i : Int)), some v3, some v4, r5, r6, r7] ∧ Ext G H G6 H6 ∧ Same G5 G6 ∧ ∀ x ∈ (classOf c i).take m, ∀ y ∈ classOf c i, revB c i x y = true) (fun G6 H6 e6 => ⟨none, none, none, rfl, e25.trans e6, e6.g, fun x hx => by simp at hx⟩) ?_ ?_)
      · rintro m x v σ G6 H6 hx sg s6 rv ⟨r5, r6, r7, rfl, e6, sg5, inv⟩
        have ev : v = .int (x : Int) := rv
        subst ev
        have xm := List.mem_of_getElem? hx
        have xl := EC.class_lt x xm
        refine fo_list (S := qN) (xs := classOf c i) s6 (ev_vR rfl (Mo.mo sg5 p4)) (fun n σ G7 H7 => ∃ r6 r7, σ = [some v1, some (.int (i : Int)), some v3, some v4, some (.int (x : Int)), r6, r7] ∧ Ext G H G7 H7 ∧ Same G6 G7 ∧ ∀ y ∈ (classOf c i).take n, revB c i x y = true) (fun G7 H7 e7 => ⟨_, _, rfl, e6.trans e7, e7.g, fun y hy => by simp at hy⟩) ?_ ?_
        · rintro n y v σ G7 H7 hy sg7 s7 rv7 ⟨r6', r7', rfl, e7, sg6, inv2⟩
          have ev : v = .int (y : Int) := rv7
          subst ev
          have ym := List.mem_of_getElem? hy
          have yl := EC.class_lt y ym
          have q37 := Mo.mo (R := qL qF) (sg5.trans sg6) q3
          have mk : ∀ {a b : Nat}, a < size c → b < size c → MulOk (statV c i a, Lrx1.generator c a b) := fun {a b} ha hb => ⟨3226, 25, by decide, by decide, by decide, EC.frOk_statV ok hi d' ha, EC.frOk_gen ok a b⟩
          refine sq_set s7 (ev_call (statV c i x, Lrx1.generator c x y) (ea_R (ev_ixL (ev_vR rfl q37) (ev_var rfl) (sat x xl)) (ea_R (ev_meth (c, x, y) (ev_vR rfl (Mo.mo e7.g h1)) (ea_V (ev_var rfl) (ea_V (ev_var rfl) ea_nil)) rfl ⟨ok, xl, yl⟩) ea_nil)) (mk xl yl)) fun v8 G8 H8 e8 p8 => ?_
          have e78 := e7.trans e8
          refine st_if e8.sub (et_test (ev_neF (ev_vR rfl p8) (ev_call (statV c i y, Lrx1.generator c y x) (ea_R (ev_ixL (ev_vR rfl (Mo.mo e8.g q37)) (ev_var rfl) (sat y yl)) (ea_R (ev_meth (c, y, x) (ev_vR rfl (Mo.mo e78.g h1)) (ea_V (ev_var rfl) (ea_V (ev_var rfl) ea_nil)) rfl ⟨ok, yl, xl⟩) ea_nil)) (mk yl xl)))) (fun f G9 H9 e9 => ?_) fun f G9 H9 e9 => ?_
          · have f' : revB c i x y = false := by unfold revB; simpa using f
            refine st_ret e9.sub (ev_NL (ev_lst1 (R := qI) (ev_Z ev_c))) fun v G10 H10 e10 p => k v G10 H10 ((e78.trans e9).trans e10) ?_
            have nr : Lrx1.isReversible c (classOf c i) = false := by
              rw [Bool.eq_false_iff]
              intro z
              rw [(rev_is c i).mp z x xm y ym] at f'
              cases f'
            rw [nr]
            exact p
          · refine ⟨G9, (e8.trans e9).g, e9.sub, some (.int (y : Int)), _, rfl, e78.trans e9, sg6.trans (e8.trans e9).g, fun z hz => ?_⟩
            rw [take_step hy] at hz
            rcases List.mem_append.mp hz with hz | hz
            · exact inv2 z hz
            · rw [List.mem_singleton.mp hz]
              unfold revB
              simpa using f
        · rintro σ G7 H7 sg7 s7 ⟨r6', r7', rfl, e7, sg6, inv2⟩
          refine ⟨G7, sg6, s7, some (.int (x : Int)), _, _, rfl, e7, sg5.trans sg6, fun z hz => ?_⟩
          rw [take_step hx] at hz
          rw [List.take_length] at inv2
          rcases List.mem_append.mp hz with hz | hz
          · exact inv z hz
          · rw [List.mem_singleton.mp hz]
            exact inv2
      · rintro σ G6 H6 sg s6 ⟨r5, r6, r7, rfl, e6, sg5, inv⟩
        rw [List.take_length] at inv
        dsimp only
        refine st_ret s6 (ev_NL (ev_lst1 (R := qI) (ev_Z ev_c))) fun v G7 H7 e7 p => k v G7 H7 (e6.trans e7) ?_
        rw [(rev_is c i).mpr inv]
        exact p
abbrev OpOk2 (a : OpArg2) : Prop := COk a.1
abbrev sp_reversed_generator (K : PySem.W.Frag) : Sp := spG (α := OpArg2) (fun a => [aR (qC K) a.1, aV (.int (a.2.1 : Int)), aV (.int (a.2.2 : Int))]) OpOk2 fun a => isR (qL qI) (opR a.1 (.reversed a.2.1 a.2.2))
abbrev N_reversed_generator : List Str := ["chain", "i", "j", "values", "back"]
abbrev P_reversed_generator : List Str := ["chain", "i", "j"]
theorem sc_reversed_generator : FnScope N_reversed_generator P_reversed_generator (defScope s_reversed_generator) := ⟨rfl, rfl, rfl, by decide +kernel, rfl, by decide +kernel, by decide +kernel⟩
theorem ok_reversed_generator (T : Tx K mg) : Has P w K mg base 7 (He.ga K "reversed_generator") P_reversed_generator (sp_reversed_generator K) := by
  obtain ⟨⟨_, F_Chain_generator_value, b_Chain_generator_value⟩, kp_Chain_generator_value⟩ := ok_Chain_generator_value (P := P) (w := w) (base := base) T
  obtain ⟨⟨_, F_Chain_has_state, b_Chain_has_state⟩, kp_Chain_has_state⟩ := ok_Chain_has_state (P := P) (w := w) (base := base) T
  obtain ⟨⟨_, F_no_result, b_no_result⟩, kp_no_result⟩ := ok_no_result (P := P) (w := w) (base := base) T
  obtain ⟨⟨_, F_no_such_state, b_no_such_state⟩, kp_no_such_state⟩ := ok_no_such_state (P := P) (w := w) (base := base) T
  obtain ⟨⟨_, F_product, b_product⟩, kp_product⟩ := ok_product (P := P) (w := w) (base := base) T
  obtain ⟨⟨_, F_quotient, b_quotient⟩, kp_quotient⟩ := ok_quotient (P := P) (w := w) (base := base) T
  obtain ⟨⟨_, F_reaches, b_reaches⟩, kp_reaches⟩ := ok_reaches (P := P) (w := w) (base := base) T
  obtain ⟨⟨_, F_stationary_around, b_stationary_around⟩, kp_stationary_around⟩ := ok_stationary_around (P := P) (w := w) (base := base) T
  have nd := sc_reversed_generator.nd
  refine has_mk T.f_reversed_generator sc_reversed_generator (fun _ => rfl) (fun _ _ _ _ _ _ us hl => match us, hl with | [_, _, _], _ => rfl) (fun cdv E outer s H X hr a G vs Q sm ha hok k => ⟨_, (pss_cons (ps_if (PW.pt (pw_or (pt_not (pt_val (pe_meth (pv 0) T.c_Chain T.h_Chain_has_state F_Chain_has_state (hr.mono (by decide)) b_Chain_has_state .nil pass0 (pa_cons (pv 1) pa_nil)))) (pw_or1 (pt_not (pt_val (pe_meth (pv 0) T.c_Chain T.h_Chain_has_state F_Chain_has_state (hr.mono (by decide)) b_Chain_has_state .nil pass0 (pa_cons (pv 2) pa_nil))))))) (pss_one (ps_ret (pe_call0 F_no_such_state (hr.mono (by decide)) (by rfl) T.g_no_such_state kp_no_such_state b_no_such_state .nil pass0))) pss_nil)
      (pss_cons (ps_set (i := 3) nd rfl (.inl rfl) (pe_call F_stationary_around (hr.mono (by decide)) (by rfl) T.g_stationary_around kp_stationary_around b_stationary_around .nil pass0 (pa_cons (pv 0) (pa_cons (pv 1) pa_nil))))
      (pss_cons (ps_if (PW.pt (pw_or (pt_cmpR op_isN (pv 3) pe_non (by rfl)) (pw_or1 (pt_not (pt_val (pe_call F_reaches (hr.mono (by decide)) (by rfl) T.g_reaches kp_reaches b_reaches .nil pass0 (pa_cons (k_fld K rfl (pv 0)) (pa_cons (pv 1) (pa_cons (pv 2) pa_nil))))))))) (pss_one (ps_ret (pe_call0 F_no_result (hr.mono (by decide)) (by rfl) T.g_no_result kp_no_result b_no_result .nil pass0))) pss_nil)
      (pss_cons (ps_set (i := 4) nd rfl (.inl rfl) (pe_call F_product (hr.mono (by decide)) (by rfl) T.g_product kp_product b_product .nil pass0 (pa_cons (pe_ix (k_ixl K rfl) (pv 3) (pv 2) (fun _ _ => rfl)) (pa_cons (pe_meth (pv 0) T.c_Chain T.h_Chain_generator_value F_Chain_generator_value (hr.mono (by decide)) b_Chain_generator_value .nil pass0 (pa_cons (pv 2) (pa_cons (pv 1) pa_nil))) pa_nil))))
      (pss_one (ps_ret (pe_op op_cat (pe_lst (pa_cons pe_int pa_nil)) (pe_callTy (k_list K rfl) (by rfl) T.z_list (by decide +kernel) (pa_cons (pe_call F_quotient (hr.mono (by decide)) (by rfl) T.g_quotient kp_quotient b_quotient .nil pass0 (pa_cons (pv 4) (pa_cons (pe_ix (k_ixl K rfl) (pv 3) (pv 1) (fun _ _ => rfl)) pa_nil))) pa_nil))))))))), ?_⟩)
  obtain ⟨v1, _, rfl, h1, _, _, rfl, rfl, _, _, rfl, rfl, rfl⟩ := ha
  obtain ⟨c, i, j⟩ := a
  have ok : COk c := hok
  dsimp only at h1 k ⊢
  rw [op_reversed] at k
  refine sq_ifN sm (et_or (et_state (c := c) (i := i) (ev_meth (c, i) (ev_vR rfl h1) (ea_V (ev_var rfl) ea_nil) rfl trivial)) fun _ => et_state (c := c) (i := j) (ev_meth (c, j) (ev_vR rfl h1) (ea_V (ev_var rfl) ea_nil) rfl trivial)) (fun b G2 H2 e2 => ?_) fun b G2 H2 e2 => ?_
  · rw [if_pos (state_or1 b)] at k
    exact st_ret e2.sub (ev_call () ea_nil trivial) fun v G3 H3 e3 p => k v G3 H3 (e2.trans e3) p
  · obtain ⟨⟨hi, hj⟩, b'⟩ := state_or0 b
    rw [if_neg b'] at k
    refine sq_set e2.sub (ev_call (c, i) (ea_R (ev_vR rfl (Mo.mo e2.g h1)) (ea_V (ev_var rfl) ea_nil)) ⟨ok, hi⟩) fun v3 G3 H3 e3 p3 => ?_
    have e23 := e2.trans e3
    have p3' : qO (qL qF) G3 v3 (aroundF c i) := p3
    refine sq_ifN e3.sub (et_or (et_test (ev_isN nn_LF (ev_vR rfl p3'))) fun _ => et_not (et_B (ev_call (c, i, j) (ea_R (ev_rows T (ev_vR rfl (Mo.mo e23.g h1))) (ea_V (ev_var rfl) (ea_V (ev_var rfl) ea_nil))) ⟨ok, hi, hj⟩))) (fun d G4 H4 e4 => ?_) fun d G4 H4 e4 => ?_
    · have d' : isClosed c i = false ∨ Lrx1.reaches c i j = false := by
        rw [Bool.or_eq_true] at d
        rcases d with d | d
        · left
          unfold aroundF at d
          cases hc : isClosed c i with
          | true => rw [hc, if_pos rfl] at d; cases d
          | false => rfl
        · right; simpa using d
      rw [if_pos d'] at k
      exact st_ret e4.sub (ev_call () ea_nil trivial) fun v G5 H5 e5 p => k v G5 H5 ((e23.trans e4).trans e5) p
    · rw [Bool.or_eq_false_iff] at d
      have d1 : isClosed c i = true := by
        have d1 := d.1
        unfold aroundF at d1
        cases hc : isClosed c i with
        | true => rfl
        | false => rw [hc, if_neg Bool.false_ne_true] at d1; cases d1
      have d2 : Lrx1.reaches c i j = true := by simpa using d.2
      have d' : ¬ (isClosed c i = false ∨ Lrx1.reaches c i j = false) := by rw [d1, d2]; simp
      rw [if_neg d'] at k
      unfold aroundF at p3'
      rw [if_pos d1] at p3'
      have e24 := e23.trans e4
      have q3 : qL qF G4 v3 (stationaryOf c (classOf c i)) := Mo.mo e4.g p3'
      have self := EC.class_self ok hi
      have sat : ∀ x, x < size c → (stationaryOf c (classOf c i))[x]? = some (statV c i x) := fun x hx => at_getD zero (by rw [EC.stat_len]; exact hx)
      have f1 := EC.frOk_statV ok hi d1 hj
      have f2 := EC.frOk_gen ok j i
      refine sq_set e4.sub (ev_call (statV c i j, Lrx1.generator c j i) (ea_R (ev_ixL (ev_vR rfl q3) (ev_var rfl) (sat j hj)) (ea_R (ev_meth (c, j, i) (ev_vR rfl (Mo.mo e24.g h1)) (ea_V (ev_var rfl) (ea_V (ev_var rfl) ea_nil)) rfl ⟨ok, hj, hi⟩) ea_nil)) ⟨3226, 25, by decide, by decide, by decide, f1, f2⟩) fun v4 G5 H5 e5 p5 => ?_
      exact st_ret e5.sub (ev_res0 (ev_call (Lrx1.mul (statV c i j) (Lrx1.generator c j i), statV c i i) (ea_R (ev_vR rfl p5) (ea_R (ev_ixL (ev_vR rfl (Mo.mo e5.g q3)) (ev_var rfl) (sat i hi)) ea_nil)) ⟨3251, 3226, by decide, by decide, by decide, EC.frOk_mul f1 f2, EC.frOk_statV ok hi d1 hi, EC.statV_pos ok hi d1 self⟩)) fun v G6 H6 e6 p => k v G6 H6 ((e24.trans e5).trans e6) p
end
end ER
/-! ## ErJ -/
/-! partitions, and lumped rows -/
namespace ER
open PySem PySem.Spec PyProof.Rows
open L2 hiding St
open Lrx1 (Fraction Chain reduce size weight rowSum jump greatestRate one zero states entry blocks flowInto lumped)
open EC (Red FrOk COk chanceF dictTo flowF contW discW dens lumpW)
abbrev En : Type := Nat × Addr × List Nat
def intsV (l : List Nat) : List V := l.map fun (n : Nat) => V.int (n : Int)
def kvsOf (es : List En) : List (Key × V) := es.map fun e => (Sum.inl (e.1 : Int), V.ref e.2.1)
structure LocD (es : List En) (H0 : Hp) (d : Addr) (G H : Hp) : Prop where
  h0 : H0 d = none
  g : G d = none
  h : H d = some (.dK (kvsOf es))
  it : ∀ e ∈ es, e.2.1 ≠ d ∧ H0 e.2.1 = none ∧ G e.2.1 = none ∧ H e.2.1 = some (.lst (intsV e.2.2))
  nd : (es.map fun e : En => e.2.1).Nodup
  ky : (es.map fun e : En => e.1).Nodup
section
variable {es : List En} {H0 G H G1 H1 G2 H2 : Hp} {d : Addr}
theorem LocD.ext (l : LocD es H0 d G1 H1) (e : Ext G1 H1 G2 H2) : LocD es H0 d G2 H2 :=
  ⟨l.h0, e.out l.h l.g, e.h _ _ l.h, fun x hx => by
    obtain ⟨a, b, c, f⟩ := l.it x hx
    exact ⟨a, b, e.out f c, e.h _ _ f⟩, l.nd, l.ky⟩
theorem LocD.jk (l : LocD es H0 d G1 H1) (j : Jk H1 H2) : LocD es H0 d G1 H2 :=
  ⟨l.h0, l.g, j.at l.h, fun x hx => by
    obtain ⟨a, b, c, f⟩ := l.it x hx
    exact ⟨a, b, c, j.at f⟩, l.nd, l.ky⟩
theorem valV_in : ∀ {es : List En}, (es.map fun e : En => e.1).Nodup → ∀ {e : En}, e ∈ es → valV (kvsOf es) (Sum.inl (e.1 : Int) : Key) = some (V.ref e.2.1)
  | x :: r, nd, e, h => by
    rw [List.map_cons, List.nodup_cons] at nd
    show valV ((Sum.inl (x.1 : Int), V.ref x.2.1) :: kvsOf r) _ = _
    rcases List.mem_cons.mp h with rfl | h
    · exact valV_pos rfl
    · have ne : x.1 ≠ e.1 := fun z => nd.1 (by rw [z]; exact List.mem_map.mpr ⟨e, h, rfl⟩)
      rw [valV_neg (fun z => ne (by
        have z : (x.1 : Int) = (e.1 : Int) := Sum.inl.inj z
        omega))]
      exact valV_in nd.2 h
theorem valV_out : ∀ {es : List En} {l : Nat}, l ∉ (es.map fun e : En => e.1) → valV (kvsOf es) (Sum.inl (l : Int) : Key) = none
  | [], _, _ => rfl
  | x :: r, l, h => by
    rw [List.map_cons, List.mem_cons, not_or] at h
    show valV ((Sum.inl (x.1 : Int), V.ref x.2.1) :: kvsOf r) _ = _
    rw [valV_neg (fun z => h.1 (by
        have z : (x.1 : Int) = (l : Int) := Sum.inl.inj z
        omega))]
    exact valV_out h.2
theorem valV_is {es : List En} (nd : (es.map fun e : En => e.1).Nodup) (l : Nat) : (valV (kvsOf es) (Sum.inl (l : Int) : Key)).isSome = decide (l ∈ es.map fun e : En => e.1) := by
  by_cases h : l ∈ es.map fun e : En => e.1
  · obtain ⟨e, he, rfl⟩ := List.mem_map.mp h
    rw [valV_in nd he, decide_eq_true h]
    rfl
  · rw [valV_out h, decide_eq_false h]
    rfl
/-- the lists of a table are left as they are from here on -/
theorem frz_es : ∀ (es : List En) {G1 : Hp}, Ext G H G1 H1 → (∀ e ∈ es, H e.2.1 = none ∧ G1 e.2.1 = none ∧ H1 e.2.1 = some (.lst (intsV e.2.2))) → (es.map fun e : En => e.2.1).Nodup →
    ∃ G2, Same G1 G2 ∧ Ext G H G2 H1 ∧ ∀ e ∈ es, G2 e.2.1 = some (.lst (intsV e.2.2))
  | [], G1, e, _, _ => ⟨G1, .refl G1, e, fun x hx => absurd hx List.not_mem_nil⟩
  | x :: r, G1, e, h, nd => by
    rw [List.map_cons, List.nodup_cons] at nd
    obtain ⟨a, b, c⟩ := h x (List.mem_cons_self ..)
    have e' := e.frz a b c
    obtain ⟨G2, s2, e2, f⟩ := frz_es r e' (fun y hy => by
      obtain ⟨a', b', c'⟩ := h y (List.mem_cons_of_mem _ hy)
      have ne : y.2.1 ≠ x.2.1 := fun z => nd.1 (by rw [← z]; exact List.mem_map.mpr ⟨y, hy, rfl⟩)
      exact ⟨a', by rw [upd_ne ne]; exact b', c'⟩) nd.2
    refine ⟨G2, (same_upd b).trans s2, e2, fun y hy => ?_⟩
    rcases List.mem_cons.mp hy with rfl | hy
    · exact s2 _ _ upd_same
    · exact f y hy
end
section
variable {P : Program} {w : World} {K : PySem.W.Frag} {mg : Str → Option Value} {base : Heap}
def dataOf (es : List En) : List (Nat × List Nat) := es.map fun e => (e.1, e.2.2)
def addTo (l m : Nat) (e : En) : En := if e.1 = l then (e.1, e.2.1, e.2.2 ++ [m]) else e
theorem add_data (l m : Nat) (es : List En) : dataOf (es.map (addTo l m)) = (dataOf es).map (EC.putIn l m) := by
  unfold dataOf
  rw [List.map_map, List.map_map]
  apply List.map_congr_left
  intro e _
  show ((addTo l m e).1, (addTo l m e).2.2) = EC.putIn l m (e.1, e.2.2)
  unfold addTo EC.putIn
  by_cases h : e.1 = l
  · rw [if_pos h, if_pos h]
  · rw [if_neg h, if_neg h]
theorem add_1 (l m : Nat) (e : En) : (addTo l m e).1 = e.1 := by unfold addTo; split <;> rfl
theorem add_2 (l m : Nat) (e : En) : (addTo l m e).2.1 = e.2.1 := by unfold addTo; split <;> rfl
abbrev sp_blocks_of (K : PySem.W.Frag) : Sp := spG (α := List Nat) (fun a => [aR (qL qN) a]) (fun a => a.length ≤ 1000) fun a => isR (qL (qL qN)) (blocks a)
abbrev N_blocks_of : List Str := ["labels", "blocks", "state", "label"]
abbrev P_blocks_of : List Str := ["labels"]
theorem sc_blocks_of : FnScope N_blocks_of P_blocks_of (defScope s_blocks_of) := ⟨rfl, rfl, rfl, by decide +kernel, rfl, by decide +kernel, by decide +kernel⟩
theorem ok_blocks_of (T : Tx K mg) : Has P w K mg base 1 (He.ga K "blocks_of") P_blocks_of (sp_blocks_of K) := by
  have nd := sc_blocks_of.nd
  refine has_mk T.f_blocks_of sc_blocks_of (fun _ => rfl) (fun _ _ _ _ _ _ us hl => match us, hl with | [_], _ => rfl) (fun cdv E outer s H X hr a G vs Q sm ha hok k => ⟨_, (pss_cons (ps_set (i := 1) nd rfl (.inl rfl) pe_dnewK)
      (pss_cons (ps_for PassesOwn.never rfl (k_pie K rfl (by rfl) T.z_enumerate (pa_cons (pv 0) pa_nil)) (k_pgt K rfl (n := 2) rfl (pgs_cons (pg_name (i := 2) nd rfl (.inl rfl)) (pgs_cons (pg_name (i := 3) nd rfl (.inl rfl)) pgs_nil))) (pss_cons (ps_if (pt_cmp (pc_dnotin (hu_of hr) (pv 3) (pv 1))) (pss_one (ps_dput (hu_of hr) (pv 1) (pv 3) (pe_lst pa_nil) rfl)) pss_nil)
      (pss_one (ps_expr (k_bm K rfl PySem.F.plainAttrs_list PySem.F.slot_list_append PySem.F.type_list_append mt_append (pe_dget (hu_of hr) (pv 1) (pv 3) (fun _ _ => rfl)) (pa_cons (pv 2) pa_nil))))))
      (pss_one (ps_ret (pe_listValues rfl (pv 1) (by rfl) T.z_list (by decide +kernel)))))), ?_⟩)
  obtain ⟨v1, _, rfl, h1, rfl⟩ := ha
  have hn : a.length ≤ 1000 := hok
  refine fun d hd => ?_
  have gd := none_of sm hd
  have e1 : Ext G H G (upd H d (.dK [])) := (Ext.refl sm).loc hd gd
  have l1 : LocD [] H d G (upd H d (.dK [])) := ⟨hd, gd, upd_same, fun x hx => absurd hx List.not_mem_nil, List.nodup_nil, List.nodup_nil⟩
  refine sq (fo_enum (S := qN) (xs := a) e1.sub (ea_R (ev_vR rfl h1) ea_nil) (fun m σ G2 H2 => ∃ r2 r3 es, σ = [some v1, some (.ref d), r2, r3] ∧ Ext G H G2 H2 ∧ LocD es H d G2 H2 ∧ dataOf es = dictTo a m) (fun G2 H2 e2 => ⟨none, none, [], rfl, e1.trans e2, l1.ext e2, rfl⟩) ?_ ?_)
  · rintro m x v σ G2 H2 H2' hx sg s2 rv ⟨r2, r3, es, rfl, e2', l2', de⟩ jk
    have ev : v = .int (x : Int) := rv
    subst ev
    have e2 := e2'.jk jk
    have l2 := l2'.jk jk
    have hm : m < a.length := (List.getElem?_eq_some_iff.mp hx).1
    have gx : a.getD m 0 = x := getD_at hx
    have kd : (es.map fun e : En => e.1) = (dictTo a m).map (·.1) := by rw [← de]; unfold dataOf; rw [List.map_map]; rfl
    have le : es.length ≤ 1000 := by
      have h1 : (dataOf es).length = es.length := by simp [dataOf]
      have h2 := EC.dict_len (labels := a) m
      rw [← de, h1] at h2
      omega
    have kk : x ∈ (es.map fun e : En => e.1) ↔ a.idxOf (a.getD m 0) < m := by rw [kd, ← gx]; exact EC.dict_keys hm
    have il := EC.idx_le (labels := a) hm
    have et : EvT (tTest (tDNotIn (tVar 3) (tVar 1))) [some v1, some (.ref d), some (.int (m : Int)), some (.int (x : Int))] G2 H2' (!decide (x ∈ es.map fun e : En => e.1)) := et_test fun G3 H3 e3 Q' q' => ⟨_, rfl, _, rfl, d, _, rfl, DGet.k (k := Sum.inl (x : Int)) (l2.ext e3).h, q' _ G3 H3 (.refl e3.sub) (by rw [valV_is l2.ky]; rfl)⟩
    have next : ∀ (G4 H4 : Hp) (es1 : List En), Ext G H G4 H4 → Same G2 G4 → LocD es1 H d G4 H4 → es1.length ≤ 1001 → x ∈ (es1.map fun e : En => e.1) → dataOf es1 = (if a.idxOf (a.getD m 0) = m then dictTo a m ++ [(a.getD m 0, [])] else dictTo a m) →
        tDrop (tBM K "list" rAppend (tDGet (tVar 1) (tVar 3)) (tCons (tVar 2) tNil)) { nx := Nx (fun m σ G2 H2 => ∃ r2 r3 es, σ = [some v1, some (.ref d), r2, r3] ∧ Ext G H G2 H2 ∧ LocD es H d G2 H2 ∧ dataOf es = dictTo a m) (m + 1) G2, rt := Q, bk := tRet (tListValues (tVar 1)) { nx := fun x H' => Q V.non H', rt := Q }, ct := Nx (fun m σ G2 H2 => ∃ r2 r3 es, σ = [some v1, some (.ref d), r2, r3] ∧ Ext G H G2 H2 ∧ LocD es H d G2 H2 ∧ dataOf es = dictTo a m) (m + 1) G2 } [some v1, some (.ref d), some (.int (m : Int)), some (.int (x : Int))] H4 := fun G4 H4 es1 e4 s4 l4 le4 hk dd => by
      obtain ⟨e, he, ex⟩ := List.mem_map.mp hk
      obtain ⟨p, states⟩ : Addr × List Nat := e.2
      have hv := valV_in l4.ky he
      obtain ⟨i1, i2, i3, i4⟩ := l4.it e he
      rw [ex] at hv
      refine ⟨_, rfl, _, rfl, d, .ref e.2.1, rfl, ?_, .inl ⟨rfl, _, SqL.of i4⟩, ?_⟩
      · have := DGet.k (k := Sum.inl (x : Int)) l4.h
        rw [hv] at this
        exact this
      refine (ea_V (ev_var rfl) ea_nil) G4 H4 (.refl e4.sub) _ fun us G5 H5 e5 ⟨u, r, eu, hu, hr⟩ => ?_
      have eu' : us = [.int (m : Int)] := by rw [eu, show u = _ from hu, show r = [] from hr]
      subst eu'
      have l5 := l4.ext e5
      obtain ⟨j1, j2, j3, j4⟩ := l5.it e he
      have sl : (intsV e.2.2).length < sizeLine := by
        obtain ⟨e', he', ee⟩ : ∃ e' ∈ dataOf es1, e'.2 = e.2.2 := ⟨_, List.mem_map.mpr ⟨e, he, rfl⟩, rfl⟩
        rw [dd] at he'
        refine small1000 ?_
        unfold intsV
        rw [List.length_map, ← ee]
        have hb : ∀ e' ∈ dictTo a m, e'.2.length ≤ 1000 := fun e' h => by
          obtain ⟨i, _, rfl⟩ := List.mem_map.mp h
          show (EC.blkTo a m i).length ≤ 1000
          exact Nat.le_trans (List.length_filter_le _ _) (by rw [List.length_range]; omega)
        split at he'
        · rcases List.mem_append.mp he' with h | h
          · exact hb e' h
          · rw [List.mem_singleton.mp h]; exact Nat.zero_le _
        · exact hb e' he'
      refine ⟨e.2.1, intsV e.2.2, .int (m : Int), rfl, rfl, j4, sl, ?_⟩
      have E : Ext G H G5 (upd H5 e.2.1 (.lst (intsV e.2.2 ++ [.int (m : Int)]))) := (e4.trans e5).loc i2 j3
      have m1 : (es1.map (addTo x m)).map (fun e : En => e.1) = es1.map fun e : En => e.1 := by
        rw [List.map_map]; exact List.map_congr_left fun e _ => add_1 x m e
      have m2 : (es1.map (addTo x m)).map (fun e : En => e.2.1) = es1.map fun e : En => e.2.1 := by
        rw [List.map_map]; exact List.map_congr_left fun e _ => add_2 x m e
      have kv : kvsOf (es1.map (addTo x m)) = kvsOf es1 := by
        unfold kvsOf
        rw [List.map_map]
        exact List.map_congr_left fun e _ => by
          show ((Sum.inl ((addTo x m e).1 : Int) : Key), V.ref (addTo x m e).2.1) = _
          rw [add_1, add_2]
      refine ⟨G5, s4.trans e5.g, E.sub, _, _, es1.map (addTo x m), rfl, E, ⟨l5.h0, l5.g, ?_, fun y hy => ?_, by rw [m2]; exact l5.nd, by rw [m1]; exact l5.ky⟩, ?_⟩
      · rw [kv, upd_ne j1.symm]
        exact l5.h
      · obtain ⟨z, hz, rfl⟩ := List.mem_map.mp hy
        obtain ⟨k1, k2, k3, k4⟩ := l5.it z hz
        rw [add_2]
        refine ⟨k1, k2, k3, ?_⟩
        by_cases q : z.1 = x
        · have ze : z = e := by
            have n1 := l5.ky
            exact uniq n1 hz he (q.trans ex.symm)
          subst ze
          rw [upd_same]
          unfold addTo
          rw [if_pos q]
          unfold intsV
          rw [List.map_append]
          rfl
        · have ne : z.2.1 ≠ e.2.1 := fun w' => by
            have ze := uniq2 l5.nd hz he w'
            subst ze
            exact q ex
          rw [upd_ne ne]
          unfold addTo
          rw [if_neg q]
          exact k4
      · rw [add_data, dd, ← gx]
        exact (EC.dict_step hm).symm
    refine sq_if e2.sub et (fun b G3 H3 e3 => ?_) fun b G3 H3 e3 => ?_
    · have nk : ¬ x ∈ (es.map fun e : En => e.1) := by simpa using b
      have im : a.idxOf (a.getD m 0) = m := by
        have := mt kk.mpr nk
        omega
      refine (ev_lst0 (R := qN)) G3 H3 (.refl e3.sub) _ fun v G4 H4 e4 n4 => ?_
      obtain ⟨p, rfl, l4⟩ := locl_of n4
      have l4d := l2.ext (e3.trans e4)
      refine ⟨_, rfl, _, rfl, d, _, rfl, DPut.k (k := Sum.inl (x : Int)) l4d.h (small1000 (by simp [kvsOf]; exact le)), ?_⟩
      rw [putK_new _ (valV_out nk)]
      obtain ⟨vs, b1, b2, b3, b4⟩ := l4
      cases b4
      have e24 := (e2.trans e3).trans e4
      have pd : p ≠ d := fun z => by subst z; rw [l4d.h] at b3; cases b3
      have p0 : H p = none := none_of (e2.trans e3).h b1
      have dn : ∀ e ∈ es, e.2.1 ≠ p := fun e he z => by
        have := ((l2.ext e3).it e he).2.2.2
        rw [z, b1] at this
        cases this
      refine next G4 _ (es ++ [(x, p, [])]) (e24.loc hd l4d.g) (e3.trans e4).g ⟨hd, l4d.g, ?_, fun e he => ?_, ?_, ?_⟩ (by simp; exact le) (by simp) ?_
      · rw [upd_same]
        unfold kvsOf
        rw [List.map_append]
        rfl
      · rcases List.mem_append.mp he with he | he
        · obtain ⟨k1, k2, k3, k4⟩ := l4d.it e he
          exact ⟨k1, k2, k3, by rw [upd_ne k1]; exact k4⟩
        · rw [List.mem_singleton.mp he]
          exact ⟨pd, p0, b2, by rw [upd_ne pd]; exact b3⟩
      · rw [List.map_append, List.nodup_append]
        refine ⟨l4d.nd, by simp, ?_⟩
        rintro y hy z hz rfl
        obtain ⟨e, he, rfl⟩ := List.mem_map.mp hy
        rw [List.map_cons, List.map_nil, List.mem_singleton] at hz
        exact dn e he hz
      · rw [List.map_append, List.nodup_append]
        refine ⟨l4d.ky, by simp, ?_⟩
        rintro y hy z hz rfl
        rw [List.map_cons, List.map_nil, List.mem_singleton] at hz
        rw [show y = x from hz] at hy
        exact nk hy
      · rw [if_pos im, ← de, gx]
        unfold dataOf
        rw [List.map_append]
        rfl
    · have hk : x ∈ (es.map fun e : En => e.1) := by simpa using b
      refine next G3 H3 es (e2.trans e3) e3.g (l2.ext e3) (by omega) hk ?_
      rw [de, if_neg]
      have := kk.mp hk
      omega
  · rintro σ G2 H2 sg s2 ⟨r2, r3, es, rfl, e2, l2, de⟩
    obtain ⟨G3, s3, e3, f⟩ := frz_es es e2 (fun e he => (l2.it e he).2) l2.nd
    refine ⟨_, rfl, d, kvsOf es, rfl, l2.h, fun q hq => ?_⟩
    have eb : es.map (fun e : En => e.2.2) = blocks a := by
      rw [← EC.dict_end, ← de]
      unfold dataOf
      rw [List.map_map]
      rfl
    refine k _ _ _ (e3.new hq) ?_
    rw [← eb]
    refine ⟨q, _, rfl, upd_same, ?_⟩
    have hf : ∀ e ∈ es, (upd G3 q (.lst ((kvsOf es).map (·.2)))) e.2.1 = some (.lst (intsV e.2.2)) := fun e he => by
      have ne : e.2.1 ≠ q := fun z => by
        have := (l2.it e he).2.2.2
        rw [z, hq] at this
        cases this
      rw [upd_ne ne]
      exact f e he
    generalize upd G3 q (.lst ((kvsOf es).map (·.2))) = GG at hf
    clear de l2 f eb e3 e2
    induction es with
    | nil => exact .nil
    | cons e r ih => exact .cons ⟨e.2.1, _, rfl, hf e (List.mem_cons_self ..), list_qN _⟩ (ih fun y hy => hf y (List.mem_cons_of_mem _ hy))
where
  uniq {es : List En} (n : (es.map fun e : En => e.1).Nodup) {y z : En} (hy : y ∈ es) (hz : z ∈ es) (h : y.1 = z.1) : y = z := by
    induction es with
    | nil => cases hy
    | cons x r ih =>
      rw [List.map_cons, List.nodup_cons] at n
      rcases List.mem_cons.mp hy with rfl | hy'
      · rcases List.mem_cons.mp hz with rfl | hz'
        · rfl
        · exact absurd (show y.1 ∈ r.map (fun e : En => e.1) from List.mem_map.mpr ⟨z, hz', h.symm⟩) n.1
      · rcases List.mem_cons.mp hz with rfl | hz'
        · exact absurd (show z.1 ∈ r.map (fun e : En => e.1) from List.mem_map.mpr ⟨y, hy', h⟩) n.1
        · exact ih n.2 hy' hz'
  uniq2 {es : List En} (n : (es.map fun e : En => e.2.1).Nodup) {y z : En} (hy : y ∈ es) (hz : z ∈ es) (h : y.2.1 = z.2.1) : y = z := by
    induction es with
    | nil => cases hy
    | cons x r ih =>
      rw [List.map_cons, List.nodup_cons] at n
      rcases List.mem_cons.mp hy with rfl | hy'
      · rcases List.mem_cons.mp hz with rfl | hz'
        · rfl
        · exact absurd (show y.2.1 ∈ r.map (fun e : En => e.2.1) from List.mem_map.mpr ⟨z, hz', h.symm⟩) n.1
      · rcases List.mem_cons.mp hz with rfl | hz'
        · exact absurd (show z.2.1 ∈ r.map (fun e : En => e.2.1) from List.mem_map.mpr ⟨y, hy', h⟩) n.1
        · exact ih n.2 hy' hz'
abbrev FiArg : Type := Chain × Nat × List Nat
abbrev FiOk (a : FiArg) : Prop := COk a.1 ∧ a.2.1 < size a.1 ∧ a.2.2.Nodup ∧ (∀ x ∈ a.2.2, x < size a.1) ∧ a.2.1 ∉ a.2.2
abbrev sp_flow_into (K : PySem.W.Frag) : Sp := spG (α := FiArg) (fun a => [aR (qC K) a.1, aV (.int (a.2.1 : Int)), aR (qL qN) a.2.2]) FiOk fun a => isR qF (flowInto a.1 a.2.1 a.2.2)
theorem nd_len {c : Chain} (ok : COk c) {b : List Nat} (hn : b.Nodup) (hl : ∀ x ∈ b, x < size c) : b.length ≤ 1000 := by
  have := EC.nodup_le _ _ hn hl
  have := ok.le
  omega
abbrev N_flow_into : List Str := ["chain", "i", "block"]
abbrev P_flow_into : List Str := ["chain", "i", "block"]
theorem sc_flow_into : FnScope N_flow_into P_flow_into (defScope s_flow_into) := ⟨rfl, rfl, rfl, by decide +kernel, rfl, by decide +kernel, by decide +kernel⟩
theorem ok_flow_into (T : Tx K mg) : Has P w K mg base 4 (He.ga K "flow_into") P_flow_into (sp_flow_into K) := by
  obtain ⟨⟨_, F_Chain_chance_of, b_Chain_chance_of⟩, kp_Chain_chance_of⟩ := ok_Chain_chance_of (P := P) (w := w) (base := base) T
  obtain ⟨⟨_, F_Chain_weight_into, b_Chain_weight_into⟩, kp_Chain_weight_into⟩ := ok_Chain_weight_into (P := P) (w := w) (base := base) T
  have nd := sc_flow_into.nd
  refine has_mk T.f_flow_into sc_flow_into (fun _ => rfl) (fun _ _ _ _ _ _ us hl => match us, hl with | [_, _, _], _ => rfl) (fun cdv E outer s H X hr a G vs Q sm ha hok k => ⟨_, (pss_cons (ps_if (pt_cmpR op_eq (k_fld K rfl (pv 0)) pe_int (by rfl)) (pss_one (ps_ret (pe_tup (pa_cons (pe_meth (pv 0) T.c_Chain T.h_Chain_weight_into F_Chain_weight_into (hr.mono (by decide)) b_Chain_weight_into .nil pass0 (pa_cons (pv 1) (pa_cons (pv 2) pa_nil))) (pa_cons pe_int pa_nil))))) pss_nil)
      (pss_one (ps_ret (pe_meth (pv 0) T.c_Chain T.h_Chain_chance_of F_Chain_chance_of (hr.mono (by decide)) b_Chain_chance_of .nil pass0 (pa_cons (pv 1) (pa_cons (pv 2) pa_nil)))))), ?_⟩)
  obtain ⟨v1, _, rfl, h1, _, _, rfl, rfl, v3, _, rfl, h3, rfl⟩ := ha
  obtain ⟨c, i, b⟩ := a
  obtain ⟨ok, hi, hn, hl, hm⟩ := hok
  dsimp only at ok hi hn hl hm h1 h3 k ⊢
  have ef := EC.flow_is ok hn hl hm
  rw [ef] at k
  have bl := nd_len ok hn hl
  refine sq_ifN sm (ev_kind1 T (ev_vR rfl h1)) (fun d G2 H2 e2 => ?_) fun d G2 H2 e2 => ?_
  · refine st_ret e2.sub (ev_frac (f := flowF c i b) (ev_meth (c, i, b) (ev_vR rfl (Mo.mo e2.g h1)) (ea_V (ev_var rfl) (ea_R (ev_vR rfl (Mo.mo e2.g h3)) ea_nil)) rfl ⟨ok, hi, hl, bl⟩) ev_c ?_ ?_) fun v G3 H3 e3 p => k v G3 H3 (e2.trans e3) p
    all_goals
      unfold flowF
      rw [if_pos d]
      try rfl
  · refine st_ret e2.sub (ev_a (ev_meth (c, i, b) (ev_vR rfl (Mo.mo e2.g h1)) (ea_V (ev_var rfl) (ea_R (ev_vR rfl (Mo.mo e2.g h3)) ea_nil)) rfl ⟨ok, hi, hl, bl⟩) ?_) fun v G3 H3 e3 p => k v G3 H3 (e2.trans e3) p
    unfold flowF
    rw [if_neg (by rw [d]; decide)]
abbrev FaArg : Type := Chain × List Nat × List Nat
structure FaOk (a : FaArg) : Prop where
  ok : COk a.1
  ne : a.2.1 ≠ []
  l1 : ∀ x ∈ a.2.1, x < size a.1
  nd : a.2.2.Nodup
  l2 : ∀ x ∈ a.2.2, x < size a.1
  dis : ∀ x ∈ a.2.1, x ∉ a.2.2
def agreeB (c : Chain) (a b : List Nat) : Bool := a.all fun i => flowInto c i b == flowInto c (a.headD 0) b
abbrev sp_flows_agree (K : PySem.W.Frag) : Sp := spG (α := FaArg) (fun a => [aR (qC K) a.1, aR (qL qN) a.2.1, aR (qL qN) a.2.2]) FaOk fun a => isV (.bl (agreeB a.1 a.2.1 a.2.2))
abbrev N_flows_agree : List Str := ["chain", "source", "target", "expected", "i"]
abbrev P_flows_agree : List Str := ["chain", "source", "target"]
theorem sc_flows_agree : FnScope N_flows_agree P_flows_agree (defScope s_flows_agree) := ⟨rfl, rfl, rfl, by decide +kernel, rfl, by decide +kernel, by decide +kernel⟩
theorem ok_flows_agree (T : Tx K mg) : Has P w K mg base 5 (He.ga K "flows_agree") P_flows_agree (sp_flows_agree K) := by
  obtain ⟨⟨_, F_flow_into, b_flow_into⟩, kp_flow_into⟩ := ok_flow_into (P := P) (w := w) (base := base) T
  have nd := sc_flows_agree.nd
  refine has_mk T.f_flows_agree sc_flows_agree (fun _ => rfl) (fun _ _ _ _ _ _ us hl => match us, hl with | [_, _, _], _ => rfl) (fun cdv E outer s H X hr a G vs Q sm ha hok k => ⟨_, (pss_cons (ps_set (i := 3) nd rfl (.inl rfl) (pe_call F_flow_into (hr.mono (by decide)) (by rfl) T.g_flow_into kp_flow_into b_flow_into .nil pass0 (pa_cons (pv 0) (pa_cons (pe_ix (k_ixl K rfl) (pv 1) pe_int (fun _ _ => rfl)) (pa_cons (pv 2) pa_nil)))))
      (pss_cons (ps_for PassesOwn.never rfl (k_pil K rfl (pv 1)) (pg_name (i := 4) nd rfl (.inl rfl)) (pss_one (ps_if (pt_cmpR (k_neD K rfl hr.units) (pe_call F_flow_into (hr.mono (by decide)) (by rfl) T.g_flow_into kp_flow_into b_flow_into .nil pass0 (pa_cons (pv 0) (pa_cons (pv 4) (pa_cons (pv 2) pa_nil)))) (pv 3) (by rfl)) (pss_one (ps_ret pe_bl)) pss_nil)))
      (pss_one (ps_ret pe_bl)))), ?_⟩)
  obtain ⟨v1, _, rfl, h1, v2, _, rfl, h2, v3, _, rfl, h3, rfl⟩ := ha
  obtain ⟨c, S, U⟩ := a
  obtain ⟨ok, ne, l1, nd2, l2, dis⟩ := hok
  dsimp only at ok ne l1 nd2 l2 dis h1 h2 h3 k ⊢
  have h0 : S[0]? = some (S.headD 0) ∧ S.headD 0 ∈ S := by
    cases S with
    | nil => exact absurd rfl ne
    | cons x r => exact ⟨rfl, List.mem_cons_self ..⟩
  refine sq_set sm (ev_call (c, S.headD 0, U) (ea_R (ev_vR rfl h1) (ea_V (ev_ofN (ev_ixL (i := 0) (ev_vR rfl h2) ev_c h0.1)) (ea_R (ev_vR rfl h3) ea_nil))) ⟨ok, l1 _ h0.2, nd2, l2, dis _ h0.2⟩) fun v4 G1 H1 e1 p4 => ?_
  refine sq (fo_list (S := qN) (xs := S) e1.sub (ev_vR rfl (Mo.mo e1.g h2)) (fun m σ G2 H2 => ∃ r5, σ = [some v1, some v2, some v3, some v4, r5] ∧ Ext G H G2 H2 ∧ Same G1 G2 ∧ ∀ x ∈ S.take m, flowInto c x U = flowInto c (S.headD 0) U) (fun G2 H2 e2 => ⟨none, rfl, e1.trans e2, e2.g, fun x hx => by simp at hx⟩) ?_ ?_)
  · rintro m x v σ G2 H2 hx sg s2 rv ⟨r5, rfl, e2, sg1, inv⟩
    have ev : v = .int (x : Int) := rv
    subst ev
    have xm := List.mem_of_getElem? hx
    refine st_if s2 (et_test (ev_neF (ev_call (c, x, U) (ea_R (ev_vR rfl (Mo.mo e2.g h1)) (ea_V (ev_var rfl) (ea_R (ev_vR rfl (Mo.mo e2.g h3)) ea_nil))) ⟨ok, l1 _ xm, nd2, l2, dis _ xm⟩) (ev_vR rfl (Mo.mo sg1 p4)))) (fun b G3 H3 e3 => ?_) fun b G3 H3 e3 => ?_
    · refine st_ret e3.sub ev_c fun v G4 H4 e4 p => k v G4 H4 ((e2.trans e3).trans e4) ?_
      rw [show v = V.bl false from p]
      have nb : agreeB c S U = false := by
        rw [Bool.eq_false_iff]
        intro z
        have := List.all_eq_true.mp z x xm
        have b' : ¬ flowInto c x U = flowInto c (S.headD 0) U := by simpa using b
        exact b' (by simpa using this)
      rw [nb]
      rfl
    · refine ⟨G3, e3.g, e3.sub, some (.int (x : Int)), rfl, e2.trans e3, sg1.trans e3.g, fun z hz => ?_⟩
      rw [take_step hx] at hz
      rcases List.mem_append.mp hz with hz | hz
      · exact inv z hz
      · rw [List.mem_singleton.mp hz]
        simpa using b
  · rintro σ G2 H2 sg s2 ⟨r5, rfl, e2, sg1, inv⟩
    rw [List.take_length] at inv
    dsimp only
    refine st_ret s2 ev_c fun v G3 H3 e3 p => k v G3 H3 (e2.trans e3) ?_
    rw [show v = V.bl true from p]
    have nb : agreeB c S U = true := List.all_eq_true.mpr fun x hx => by simpa using inv x hx
    rw [nb]
    rfl
abbrev PtOk (a : Chain × List Nat) : Prop := COk a.1 ∧ a.2.length = size a.1
abbrev sp_is_lumpable_into (K : PySem.W.Frag) : Sp := spG (α := Chain × List Nat) (fun a => [aR (qC K) a.1, aR (qL (qL qN)) (blocks a.2)]) PtOk fun a => isV (.bl (Lrx1.isLumpable a.1 a.2))
def pairB (c : Chain) (a b : List Nat) : Prop := a = b ∨ agreeB c a b = true
theorem lumpable_is (c : Chain) (labels : List Nat) : Lrx1.isLumpable c labels = true ↔ ∀ a ∈ blocks labels, ∀ b ∈ blocks labels, pairB c a b := by
  unfold Lrx1.isLumpable pairB
  rw [List.all_eq_true]
  constructor
  · intro h a ha b hb
    have := List.all_eq_true.mp (h a ha) b hb
    rw [Bool.or_eq_true] at this
    rcases this with z | z
    · exact .inl (by simpa using z)
    · exact .inr z
  · intro h a ha
    rw [List.all_eq_true]
    intro b hb
    rw [Bool.or_eq_true]
    rcases h a ha b hb with z | z
    · exact .inl (by simpa using z)
    · exact .inr z
abbrev N_is_lumpable_into : List Str := ["chain", "blocks", "source", "target"]
abbrev P_is_lumpable_into : List Str := ["chain", "blocks"]
theorem sc_is_lumpable_into : FnScope N_is_lumpable_into P_is_lumpable_into (defScope s_is_lumpable_into) := ⟨rfl, rfl, rfl, by decide +kernel, rfl, by decide +kernel, by decide +kernel⟩
theorem ok_is_lumpable_into (T : Tx K mg) : Has P w K mg base 6 (He.ga K "is_lumpable_into") P_is_lumpable_into (sp_is_lumpable_into K) := by
  obtain ⟨⟨_, F_flows_agree, b_flows_agree⟩, kp_flows_agree⟩ := ok_flows_agree (P := P) (w := w) (base := base) T
  have nd := sc_is_lumpable_into.nd
  refine has_mk T.f_is_lumpable_into sc_is_lumpable_into (fun _ => rfl) (fun _ _ _ _ _ _ us hl => match us, hl with | [_, _], _ => rfl) (fun cdv E outer s H X hr a G vs Q sm ha hok k => ⟨_, (pss_cons (ps_for PassesOwn.never rfl (k_pil K rfl (pv 1)) (pg_name (i := 2) nd rfl (.inl rfl)) (pss_one (ps_for PassesOwn.never rfl (k_pil K rfl (pv 1)) (pg_name (i := 3) nd rfl (.inl rfl)) (pss_one (ps_if (PW.pt (pw_and (pt_cmpR (k_neD K rfl hr.units) (pv 2) (pv 3) (by rfl)) (pw_and1 (pt_not (pt_val (pe_call F_flows_agree (hr.mono (by decide)) (by rfl) T.g_flows_agree kp_flows_agree b_flows_agree .nil pass0 (pa_cons (pv 0) (pa_cons (pv 2) (pa_cons (pv 3) pa_nil))))))))) (pss_one (ps_ret pe_bl)) pss_nil)))))
      (pss_one (ps_ret pe_bl))), ?_⟩)
  obtain ⟨v1, _, rfl, h1, v2, _, rfl, h2, rfl⟩ := ha
  obtain ⟨c, labels⟩ := a
  obtain ⟨ok, hl⟩ := hok
  dsimp only at ok hl h1 h2 k ⊢
  have s8 := ok.le
  have blt : ∀ {b}, b ∈ blocks labels → ∀ x ∈ b, x < size c := fun hb x hx => by have := EC.block_lt hb x hx; omega
  refine sq (fo_list (S := qL qN) (xs := blocks labels) sm (ev_vR rfl h2) (fun m σ G2 H2 => ∃ r3 r4, σ = [some v1, some v2, r3, r4] ∧ Ext G H G2 H2 ∧ ∀ a ∈ (blocks labels).take m, ∀ b ∈ blocks labels, pairB c a b) (fun G2 H2 e2 => ⟨none, none, rfl, e2, fun x hx => by simp at hx⟩) ?_ ?_)
  · rintro m S v σ G2 H2 hx sg s2 rv ⟨r3, r4, rfl, e2, inv⟩
    have Sm := List.mem_of_getElem? hx
    refine fo_list (S := qL qN) (xs := blocks labels) s2 (ev_vR rfl (Mo.mo e2.g h2)) (fun n σ G3 H3 => ∃ r4, σ = [some v1, some v2, some v, r4] ∧ Ext G H G3 H3 ∧ Same G2 G3 ∧ ∀ b ∈ (blocks labels).take n, pairB c S b) (fun G3 H3 e3 => ⟨_, rfl, e2.trans e3, e3.g, fun x hx => by simp at hx⟩) ?_ ?_
    · rintro n U u σ G3 H3 hy sg3 s3 ru ⟨r4', rfl, e3, sg2, inv2⟩
      have Um := List.mem_of_getElem? hy
      have rv3 := Mo.mo (R := qL qN) sg2 rv
      refine st_if s3 (et_and (et_test (ev_neL (ev_vR rfl rv3) (ev_vR rfl ru))) fun bn => et_not (et_B (ev_call (c, S, U) (ea_R (ev_vR rfl (Mo.mo e3.g h1)) (ea_R (ev_vR rfl rv3) (ea_R (ev_vR rfl ru) ea_nil))) ⟨ok, EC.block_ne Sm, blt Sm, EC.block_nd Um, blt Um, EC.block_dis Sm Um (by simpa using bn)⟩))) (fun b G4 H4 e4 => ?_) fun b G4 H4 e4 => ?_
      · refine st_ret e4.sub ev_c fun v G5 H5 e5 p => k v G5 H5 ((e3.trans e4).trans e5) ?_
        rw [show v = V.bl false from p]
        have b' : ¬ S = U ∧ agreeB c S U = false := by simpa using b
        have nb : Lrx1.isLumpable c labels = false := by
          rw [Bool.eq_false_iff]
          intro z
          rcases (lumpable_is c labels).mp z S Sm U Um with q | q
          · exact b'.1 q
          · rw [b'.2] at q; cases q
        rw [nb]
        rfl
      · refine ⟨G4, e4.g, e4.sub, some u, rfl, e3.trans e4, sg2.trans e4.g, fun z hz => ?_⟩
        rw [take_step hy] at hz
        rcases List.mem_append.mp hz with hz | hz
        · exact inv2 z hz
        · rw [List.mem_singleton.mp hz]
          by_cases q : S = U
          · exact .inl q
          · right
            rw [decide_eq_false q] at b
            simpa using b
    · rintro σ G3 H3 sg3 s3 ⟨r4', rfl, e3, sg2, inv2⟩
      refine ⟨G3, sg2, s3, some v, r4', rfl, e3, fun z hz => ?_⟩
      rw [List.take_length] at inv2
      rw [take_step hx] at hz
      rcases List.mem_append.mp hz with hz | hz
      · exact inv z hz
      · rw [List.mem_singleton.mp hz]
        exact inv2
  · rintro σ G2 H2 sg s2 ⟨r3, r4, rfl, e2, inv⟩
    rw [List.take_length] at inv
    dsimp only
    refine st_ret s2 ev_c fun v G3 H3 e3 p => k v G3 H3 (e2.trans e3) ?_
    rw [show v = V.bl true from p, (lumpable_is c labels).mpr inv]
    rfl
abbrev RwArg : Type := Chain × List Nat × Nat
abbrev RwOk (a : RwArg) : Prop := COk a.1 ∧ a.2.1.length = size a.1 ∧ a.2.2 < (blocks a.2.1).length
def blkAt (labels : List Nat) (p : Nat) : List Nat := (blocks labels).getD p []
theorem blk_at {labels : List Nat} {p : Nat} (h : p < (blocks labels).length) : (blocks labels)[p]? = some (blkAt labels p) := at_getD [] h
theorem blk_in {labels : List Nat} {p : Nat} (h : p < (blocks labels).length) : blkAt labels p ∈ blocks labels := List.mem_of_getElem? (blk_at h)
abbrev sp_continuous_row (K : PySem.W.Frag) : Sp := spG (α := RwArg) (fun a => [aR (qC K) a.1, aR (qL (qL qN)) (blocks a.2.1), aV (.int (a.2.2 : Int))]) RwOk fun a => isR (qL qN) ((blocks a.2.1).map (contW a.1 a.2.1 (blkAt a.2.1 a.2.2)))
abbrev N_continuous_row : List Str := ["chain", "blocks", "place", "first", "row", "block"]
abbrev P_continuous_row : List Str := ["chain", "blocks", "place"]
theorem sc_continuous_row : FnScope N_continuous_row P_continuous_row (defScope s_continuous_row) := ⟨rfl, rfl, rfl, by decide +kernel, rfl, by decide +kernel, by decide +kernel⟩
theorem ok_continuous_row (T : Tx K mg) : Has P w K mg base 2 (He.ga K "continuous_row") P_continuous_row (sp_continuous_row K) := by
  obtain ⟨⟨_, F_Chain_weight_into, b_Chain_weight_into⟩, kp_Chain_weight_into⟩ := ok_Chain_weight_into (P := P) (w := w) (base := base) T
  have nd := sc_continuous_row.nd
  refine has_mk T.f_continuous_row sc_continuous_row (fun _ => rfl) (fun _ _ _ _ _ _ us hl => match us, hl with | [_, _, _], _ => rfl) (fun cdv E outer s H X hr a G vs Q sm ha hok k => ⟨_, (pss_cons (ps_set (i := 3) nd rfl (.inr rfl) (pe_ix (k_ixl K rfl) (pe_ix (k_ixl K rfl) (pv 1) (pv 2) (fun _ _ => rfl)) pe_int (fun _ _ => rfl)))
      (pss_cons (ps_setLc (i := 4) (own := [("block", 5)]) rfl nd rfl rfl (sw_true rfl rfl rfl (by decide +kernel)) (k_pil K rfl (pv 1)) (blkOk_by (own := [("block", 5)]) (N := N_continuous_row) (sc := defScope s_continuous_row) (by decide +kernel)) (fun _ _ _ _ _ => (pg_name (i := 5) nd rfl (.inl rfl))) (fun _ _ _ _ _ => pts_nil) (fun _ _ _ _ _ => (pe_meth (pv 0) T.c_Chain T.h_Chain_weight_into F_Chain_weight_into (hr.mono (by decide)) b_Chain_weight_into .nil pass0 (pa_cons (pv 3) (pa_cons (pv 5) pa_nil)))))
      (pss_cons (ps_asg pe_int (pg_sub (pv 4) (pv 2) set_list))
      (pss_one (ps_ret (pv 4)))))), ?_⟩)
  obtain ⟨v1, _, rfl, h1, v2, _, rfl, h2, _, _, rfl, rfl, rfl⟩ := ha
  obtain ⟨c, labels, p⟩ := a
  obtain ⟨ok, hl, hp⟩ := hok
  dsimp only at ok hl hp h1 h2 k ⊢
  have s8 := ok.le
  have bl := EC.blocks_len (labels := labels)
  have blt : ∀ {b}, b ∈ blocks labels → ∀ x ∈ b, x < size c := fun hb x hx => by have := EC.block_lt hb x hx; omega
  obtain ⟨hd1, hd2⟩ := EC.block_head (blk_in hp)
  have fl := blt (blk_in hp) _ hd2
  refine sq_set sm (ev_ixL (i := 0) (ev_ixL (ev_vR rfl h2) (ev_var rfl) (blk_at hp)) ev_c hd1) fun v G1 H1 e1 p1 => ?_
  have ev : v = .int (((blkAt labels p).headD 0 : Nat) : Int) := p1
  subst ev
  refine sq_set e1.sub (ev_mapL (K := K) (R := qN) (S := qL qN) (xs := blocks labels) (f := fun b => (b.map (weight c ((blkAt labels p).headD 0))).sum) (ev_vR rfl (Mo.mo e1.g h2)) (by omega) (fun _ => rfl) fun b hb v G' H' e rv => ?_) fun v G2 H2 e2 n2 => ?_
  · exact ev_N (ev_meth (c, (blkAt labels p).headD 0, b) (ev_vR rfl (Mo.mo (e1.trans e).g h1)) (ea_V (ev_var rfl) (ea_R (ev_vR rfl rv) ea_nil)) rfl ⟨ok, fl, blt hb, nd_len ok (EC.block_nd hb) (blt hb)⟩)
  obtain ⟨p4, rfl, l2⟩ := locl_of n2
  have l2 := l2.back e1.h
  have e12 := e1.trans e2
  refine sq (st_put (a := 0) (i := p) l2 e2.sub (ev_toR ev_c fun _ => rfl) (ev_var rfl) (ev_var rfl) (by rw [List.length_map]; exact hp) fun G3 H3 vs e3 l3 => ?_)
  obtain ⟨G4, s4, e4, q4, _⟩ := l3.frz (l3.up (e12.trans e3))
  refine st_ret e4.sub (ev_vR rfl q4) fun v G5 H5 e5 p5 => k v G5 H5 (e4.trans e5) ?_
  have er : ((blocks labels).map fun b => (b.map (weight c ((blkAt labels p).headD 0))).sum).set p 0 = (blocks labels).map (contW c labels (blkAt labels p)) := by
    apply List.ext_getElem?
    intro j
    by_cases hj : j < (blocks labels).length
    · rw [List.getElem?_set]
      by_cases q : p = j
      · subst q
        rw [if_pos rfl, if_pos (by rw [List.length_map]; exact hj), List.getElem?_map, blk_at hj]
        unfold contW
        rw [Option.map_some, if_pos rfl]
      · rw [if_neg q, List.getElem?_map, List.getElem?_map, blk_at hj]
        unfold contW
        rw [Option.map_some, Option.map_some, if_neg]
        intro z
        have z1 : (blocks labels)[p]'hp = (blocks labels)[j]'hj := by
          have a1 := blk_at hp
          have a2 := blk_at hj
          rw [List.getElem?_eq_getElem hp] at a1
          rw [List.getElem?_eq_getElem hj] at a2
          rw [Option.some.inj a1, Option.some.inj a2]
          exact z
        exact q ((List.getElem_inj EC.blocks_nodup).mp z1)
    · rw [List.getElem?_eq_none (by simp; omega), List.getElem?_eq_none (by simp; omega)]
  rw [← er]
  exact p5
abbrev sp_discrete_row (K : PySem.W.Frag) : Sp := spG (α := RwArg) (fun a => [aR (qC K) a.1, aR (qL (qL qN)) (blocks a.2.1), aV (.int (a.2.2 : Int))]) RwOk fun a => isR (qL qN) ((blocks a.2.1).map (discW a.1 a.2.1 (blkAt a.2.1 a.2.2)))
abbrev N_discrete_row : List Str := ["chain", "blocks", "place", "first", "chances", "common", "block", "chance"]
abbrev P_discrete_row : List Str := ["chain", "blocks", "place"]
theorem sc_discrete_row : FnScope N_discrete_row P_discrete_row (defScope s_discrete_row) := ⟨rfl, rfl, rfl, by decide +kernel, rfl, by decide +kernel, by decide +kernel⟩
theorem ok_discrete_row (T : Tx K mg) : Has P w K mg base 4 (He.ga K "discrete_row") P_discrete_row (sp_discrete_row K) := by
  obtain ⟨⟨_, F_Chain_chance_of, b_Chain_chance_of⟩, kp_Chain_chance_of⟩ := ok_Chain_chance_of (P := P) (w := w) (base := base) T
  obtain ⟨⟨_, F_common_multiple, b_common_multiple⟩, kp_common_multiple⟩ := ok_common_multiple (P := P) (w := w) (base := base) T
  have nd := sc_discrete_row.nd
  refine has_mk T.f_discrete_row sc_discrete_row (fun _ => rfl) (fun _ _ _ _ _ _ us hl => match us, hl with | [_, _, _], _ => rfl) (fun cdv E outer s H X hr a G vs Q sm ha hok k => ⟨_, (pss_cons (ps_set (i := 3) nd rfl (.inr rfl) (pe_ix (k_ixl K rfl) (pe_ix (k_ixl K rfl) (pv 1) (pv 2) (fun _ _ => rfl)) pe_int (fun _ _ => rfl)))
      (pss_cons (ps_setLc (i := 4) (own := [("block", 6)]) rfl nd rfl rfl (sw_true rfl rfl rfl (by decide +kernel)) (k_pil K rfl (pv 1)) (blkOk_by (own := [("block", 6)]) (N := N_discrete_row) (sc := defScope s_discrete_row) (by decide +kernel)) (fun _ _ _ _ _ => (pg_name (i := 6) nd rfl (.inl rfl))) (fun _ _ _ _ _ => pts_nil) (fun _ _ _ _ _ => (pe_meth (pv 0) T.c_Chain T.h_Chain_chance_of F_Chain_chance_of (hr.mono (by decide)) b_Chain_chance_of .nil pass0 (pa_cons (pv 3) (pa_cons (pv 6) pa_nil)))))
      (pss_cons (ps_set (i := 5) nd rfl (.inr rfl) (pe_call F_common_multiple (hr.mono (by decide)) (by rfl) T.g_common_multiple kp_common_multiple b_common_multiple .nil pass0 (pa_cons (pe_lc (own := [("chance", 7)]) rfl nd (k_pil K rfl (pv 4)) (blkOk_by (own := [("chance", 7)]) (N := N_discrete_row) (sc := defScope s_discrete_row) (by decide +kernel)) (fun _ _ _ _ _ => (pg_name (i := 7) nd rfl (.inl rfl))) (fun _ _ _ _ _ => pts_nil) (fun _ _ _ _ _ => (pe_ix (k_ixt K rfl) (pv 7) pe_int (fun _ _ => rfl)))) pa_nil)))
      (pss_one (ps_ret (pe_lc (own := [("chance", 7)]) rfl nd (k_pil K rfl (pv 4)) (blkOk_by (own := [("chance", 7)]) (N := N_discrete_row) (sc := defScope s_discrete_row) (by decide +kernel)) (fun _ _ _ _ _ => (pg_name (i := 7) nd rfl (.inl rfl))) (fun _ _ _ _ _ => pts_nil) (fun _ _ _ _ _ => (pe_op op_mulW (pe_ix (k_ixt K rfl) (pv 7) pe_int (fun _ _ => rfl)) (pe_op op_fdivW (pv 5) (pe_ix (k_ixt K rfl) (pv 7) pe_int (fun _ _ => rfl))))))))))), ?_⟩)
  obtain ⟨v1, _, rfl, h1, v2, _, rfl, h2, _, _, rfl, rfl, rfl⟩ := ha
  obtain ⟨c, labels, p⟩ := a
  obtain ⟨ok, hl, hp⟩ := hok
  dsimp only at ok hl hp h1 h2 k ⊢
  have s8 := ok.le
  have bl := EC.blocks_len (labels := labels)
  have blt : ∀ {b}, b ∈ blocks labels → ∀ x ∈ b, x < size c := fun hb x hx => by have := EC.block_lt hb x hx; omega
  obtain ⟨hd1, hd2⟩ := EC.block_head (blk_in hp)
  have fl := blt (blk_in hp) _ hd2
  let f0 := (blkAt labels p).headD 0
  have fok : ∀ {b}, b ∈ blocks labels → FrOk 24 (chanceF c f0 b) := fun hb => EC.frOk_chance ok (EC.block_nd hb) (blt hb)
  obtain ⟨j1, j2⟩ := EC.js_low ok f0
  refine sq_set sm (ev_ixL (i := 0) (ev_ixL (ev_vR rfl h2) (ev_var rfl) (blk_at hp)) ev_c hd1) fun v G1 H1 e1 p1 => ?_
  have ev : v = .int ((f0 : Nat) : Int) := p1
  subst ev
  refine sq_set e1.sub (ev_NL (ev_mapL (K := K) (R := qF) (S := qL qN) (xs := blocks labels) (f := fun b => chanceF c f0 b) (ev_vR rfl (Mo.mo e1.g h2)) (by omega) (fun _ => rfl) fun b hb v G' H' e rv => ?_)) fun v4 G2 H2 e2 p2 => ?_
  · exact ev_meth (c, f0, b) (ev_vR rfl (Mo.mo (e1.trans e).g h1)) (ea_V (ev_var rfl) (ea_R (ev_vR rfl rv) ea_nil)) rfl ⟨ok, fl, blt hb, nd_len ok (EC.block_nd hb) (blt hb)⟩
  have e12 := e1.trans e2
  have ed : lcmF (((blocks labels).map fun b => chanceF c f0 b).map (·.den)) = dens c labels (blkAt labels p) := by
    rw [List.map_map]
    rfl
  refine sq_set e2.sub (ev_V (ev_call (((blocks labels).map fun b => chanceF c f0 b).map (·.den)) (ea_R (ev_NL (ev_mapL (K := K) (R := qN) (S := qF) (f := fun f : Fraction => f.den) (ev_vR rfl p2) (by rw [List.length_map]; omega) (fun _ => rfl) fun f hf v G' H' e r => ev_N (ev_den (ev_vR rfl r) ev_c))) ea_nil) ⟨by rw [List.length_map, List.length_map]; omega, _, 24, j1, j2, by decide, by decide, fun d hd => ?_⟩) (by rw [ed])) fun v G3 H3 e3 p3 => ?_
  · obtain ⟨f, hf, rfl⟩ := List.mem_map.mp hd
    obtain ⟨b, hb, rfl⟩ := List.mem_map.mp hf
    exact EC.chance_dvd c f0 b
  have ev : v = .int (dens c labels (blkAt labels p) : Int) := p3
  subst ev
  have e13 := e12.trans e3
  have dl := EC.dens_low ok labels (blkAt labels p)
  let g : Fraction → Nat := fun f => (f.num * ((dens c labels (blkAt labels p) / f.den : Nat) : Int)).toNat
  refine st_ret e3.sub (ev_a (ev_NL (ev_mapL (K := K) (R := qN) (S := qF) (f := g) (ev_vR rfl (Mo.mo e3.g p2)) (by rw [List.length_map]; omega) (fun _ => rfl) fun f hf v G' H' e r => ?_)) (by rw [List.map_map]; rfl)) fun v G4 H4 e4 p => k v G4 H4 (e13.trans e4) p
  obtain ⟨b, hb, rfl⟩ := List.mem_map.mp hf
  obtain ⟨f1, f2, f3⟩ := fok hb
  have n0 := EC.chance_nonneg ok f0 b
  have q1 : dens c labels (blkAt labels p) / (chanceF c f0 b).den < 2 ^ 24 := Nat.lt_of_le_of_lt (Nat.div_le_self _ _) dl
  refine ev_N (ev_V (ev_I (ev_num (ev_vR rfl r) ev_c) (ev_V (ev_I (ev_var rfl) (ev_den (ev_vR rfl r) ev_c) (wide_div (b := 24) (Int.natCast_pos.mpr f1.pos) f3 (by decide) (by decide))) (by rw [div_cast])) (wide_mul (a := 24) (b := 24) f2 (by rw [Int.natAbs_natCast]; exact q1) (by decide) (by decide) (by decide))) ?_)
  show V.int _ = V.int (((_ : Int).toNat : Nat) : Int)
  rw [Int.toNat_of_nonneg (Int.mul_nonneg n0 (Int.natCast_nonneg _))]
abbrev sp_lumped_rows (K : PySem.W.Frag) : Sp := spG (α := Chain × List Nat) (fun a => [aR (qC K) a.1, aR (qL (qL qN)) (blocks a.2)]) PtOk fun a => isR qW (lumped a.1 a.2).weights
abbrev N_lumped_rows : List Str := ["chain", "blocks", "place"]
abbrev P_lumped_rows : List Str := ["chain", "blocks"]
theorem sc_lumped_rows : FnScope N_lumped_rows P_lumped_rows (defScope s_lumped_rows) := ⟨rfl, rfl, rfl, by decide +kernel, rfl, by decide +kernel, by decide +kernel⟩
theorem ok_lumped_rows (T : Tx K mg) : Has P w K mg base 5 (He.ga K "lumped_rows") P_lumped_rows (sp_lumped_rows K) := by
  obtain ⟨⟨_, F_continuous_row, b_continuous_row⟩, kp_continuous_row⟩ := ok_continuous_row (P := P) (w := w) (base := base) T
  obtain ⟨⟨_, F_discrete_row, b_discrete_row⟩, kp_discrete_row⟩ := ok_discrete_row (P := P) (w := w) (base := base) T
  have nd := sc_lumped_rows.nd
  refine has_mk T.f_lumped_rows sc_lumped_rows (fun _ => rfl) (fun _ _ _ _ _ _ us hl => match us, hl with | [_, _], _ => rfl) (fun cdv E outer s H X hr a G vs Q sm ha hok k => ⟨_, (pss_cons (ps_if (pt_cmpR op_eq (k_fld K rfl (pv 0)) pe_int (by rfl)) (pss_one (ps_ret (pe_lc (own := [("place", 2)]) rfl nd (pi_range1 (by rfl) T.z_range (pa_cons (pe_callB (k_len K rfl) (by rfl) T.z_len PySem.boot_len (pa_cons (pv 1) pa_nil)) pa_nil)) (blkOk_by (own := [("place", 2)]) (N := N_lumped_rows) (sc := defScope s_lumped_rows) (by decide +kernel)) (fun _ _ _ _ _ => (pg_name (i := 2) nd rfl (.inl rfl))) (fun _ _ _ _ _ => pts_nil) (fun _ _ _ _ _ => (pe_call F_continuous_row (hr.mono (by decide)) (by rfl) T.g_continuous_row kp_continuous_row b_continuous_row .nil pass0 (pa_cons (pv 0) (pa_cons (pv 1) (pa_cons (pv 2) pa_nil)))))))) pss_nil)
      (pss_one (ps_ret (pe_lc (own := [("place", 2)]) rfl nd (pi_range1 (by rfl) T.z_range (pa_cons (pe_callB (k_len K rfl) (by rfl) T.z_len PySem.boot_len (pa_cons (pv 1) pa_nil)) pa_nil)) (blkOk_by (own := [("place", 2)]) (N := N_lumped_rows) (sc := defScope s_lumped_rows) (by decide +kernel)) (fun _ _ _ _ _ => (pg_name (i := 2) nd rfl (.inl rfl))) (fun _ _ _ _ _ => pts_nil) (fun _ _ _ _ _ => (pe_call F_discrete_row (hr.mono (by decide)) (by rfl) T.g_discrete_row kp_discrete_row b_discrete_row .nil pass0 (pa_cons (pv 0) (pa_cons (pv 1) (pa_cons (pv 2) pa_nil))))))))), ?_⟩)
  obtain ⟨v1, _, rfl, h1, v2, _, rfl, h2, rfl⟩ := ha
  obtain ⟨c, labels⟩ := a
  obtain ⟨ok, hl⟩ := hok
  dsimp only at ok hl h1 h2 k ⊢
  have s8 := ok.le
  have bl := EC.blocks_len (labels := labels)
  rw [EC.lumped_is ok hl] at k
  have k : ∀ (v : V) (G' H' : Hp), Ext G H G' H' → isR qW (lumpW c labels) H v G' H' → Q v H' := k
  have er : ∀ g : List Nat → List Nat → Nat, ((List.range (blocks labels).length).map fun p => (blocks labels).map (g (blkAt labels p))) = (blocks labels).map fun a => (blocks labels).map (g a) := fun g => by
    apply List.ext_getElem?
    intro j
    rw [List.getElem?_map, List.getElem?_map]
    by_cases hj : j < (blocks labels).length
    · rw [List.getElem?_range hj, blk_at hj]; rfl
    · rw [List.getElem?_eq_none (by simp; omega), List.getElem?_eq_none (by omega)]; rfl
  refine sq_ifN sm (ev_kind1 T (ev_vR rfl h1)) (fun d G2 H2 e2 => ?_) fun d G2 H2 e2 => ?_
  · refine st_ret e2.sub (ev_a (ev_NL (ev_mapR (R := qL qN) (f := fun p => (blocks labels).map (contW c labels (blkAt labels p))) (ea_V (ev_lenL (ev_vR rfl (Mo.mo e2.g h2))) ea_nil) (by omega) (fun _ => rfl) fun p hp G' H' e => ev_call (c, labels, p) (ea_R (ev_vR rfl (Mo.mo (e2.trans e).g h1)) (ea_R (ev_vR rfl (Mo.mo (e2.trans e).g h2)) (ea_V (ev_var rfl) ea_nil))) ⟨ok, hl, hp⟩)) ?_) fun v G3 H3 e3 p => k v G3 H3 (e2.trans e3) p
    rw [er]
    unfold lumpW
    simp only [d, if_true]
  · refine st_ret e2.sub (ev_a (ev_NL (ev_mapR (R := qL qN) (f := fun p => (blocks labels).map (discW c labels (blkAt labels p))) (ea_V (ev_lenL (ev_vR rfl (Mo.mo e2.g h2))) ea_nil) (by omega) (fun _ => rfl) fun p hp G' H' e => ev_call (c, labels, p) (ea_R (ev_vR rfl (Mo.mo (e2.trans e).g h1)) (ea_R (ev_vR rfl (Mo.mo (e2.trans e).g h2)) (ea_V (ev_var rfl) ea_nil))) ⟨ok, hl, hp⟩)) ?_) fun v G3 H3 e3 p => k v G3 H3 (e2.trans e3) p
    rw [er]
    unfold lumpW
    simp only [d, Bool.false_eq_true, if_false]
end
end ER
/-! ## ErL -/
/-! the operations that tell of weights, classes and partitions -/
namespace ER
open PySem PySem.Spec PyProof.Rows
open L2 hiding St
open Lrx1 (Fraction Chain reduce size weight rowSum jump greatestRate one zero states entry classOf isClosed closedClasses isState blocks period distance)
open EC (Red FrOk COk)
theorem op_getW (c : Chain) (i j : Nat) : opR c (.getWeight i j) = if isState c i = false ∨ isState c j = false then [-2] else [(weight c i j : Int)] := by
  show toL (if isState c i = false ∨ isState c j = false then Lrx1.error (-2) else Lrx1.number (weight c i j : Nat)) = _
  rw [apply_ite toL]
  rfl
theorem op_prob (c : Chain) (i j : Nat) : opR c (.probability i j) = if isState c i = false ∨ isState c j = false then [-2] else frR (jump c i j) := by
  show toL (if isState c i = false ∨ isState c j = false then Lrx1.error (-2) else Lrx1.fractionResult (jump c i j)) = _
  rw [apply_ite toL]
  rfl
theorem op_gen (c : Chain) (i j : Nat) : opR c (.generator i j) = if isState c i = false ∨ isState c j = false then [-2] else frR (Lrx1.generator c i j) := by
  show toL (if isState c i = false ∨ isState c j = false then Lrx1.error (-2) else Lrx1.fractionResult (Lrx1.generator c i j)) = _
  rw [apply_ite toL]
  rfl
theorem op_classes (c : Chain) : opR c .classes = ((Lrx1.classes c).length : Int) :: castL (namesF c) := rfl
theorem op_info (c : Chain) (i : Nat) : opR c (.classInfo i) = if isState c i = false then [-2] else [((classOf c i).length : Int), (if isClosed c i then 1 else 0), (period c i : Int)] ++ castL (classOf c i) := by
  show toL (if isState c i = false then Lrx1.error (-2) else ⟨((classOf c i).length : Int), [(if isClosed c i then 1 else 0), (period c i : Int)] ++ Lrx1.toInts (classOf c i)⟩) = _
  rw [apply_ite toL]
  rfl
theorem op_dist (c : Chain) (i j : Nat) : opR c (.distance i j) = if isState c i = false ∨ isState c j = false then [-2] else match distance c i j with
    | none => [-33]
    | some d => [(d : Int)] := by
  show toL (if isState c i = false ∨ isState c j = false then Lrx1.error (-2) else match distance c i j with
          | none => Lrx1.error (-33)
          | some d => Lrx1.number (d : Nat)) = _
  rw [apply_ite toL]
  cases distance c i j <;> rfl
theorem op_isLump (c : Chain) (labels : List Nat) : opR c (.isLumpable labels) = if Lrx1.isPartition c labels = false then [-22] else [if Lrx1.isLumpable c labels then 1 else 0] := by
  show toL (if Lrx1.isPartition c labels = false then Lrx1.error (-22) else Lrx1.number (if Lrx1.isLumpable c labels then 1 else 0)) = _
  rw [apply_ite toL]
  rfl
theorem op_summary (c : Chain) : opR c .summary = [(size c : Int), (if c.isContinuous then 1 else 0), ((Lrx1.classes c).length : Int), ((closedClasses c).length : Int), (greatestRate c : Int)] := rfl
theorem names_count {c : Chain} (ok : COk c) : met (castL (namesF c)) = (Lrx1.classes c).length := by
  refine met_count (List.nodup_range.sublist List.filter_sublist) fun x => ?_
  rw [EC.classes_mem ok]
  unfold namesF
  rw [List.mem_map]
  constructor
  · rintro ⟨h1, h2⟩
    exact ⟨x, List.mem_range.mpr h1, h2⟩
  · rintro ⟨i, hi, e⟩
    have hi := List.mem_range.mp hi
    obtain ⟨h1, h2⟩ := EC.class_head ok hi
    rw [e] at h1 h2
    refine ⟨h2, ?_⟩
    rw [EC.class_eq ok hi (List.mem_of_getElem? h1), e]
section
variable {P : Program} {w : World} {K : PySem.W.Frag} {mg : Str → Option Value} {base : Heap}
abbrev sp_get_weight (K : PySem.W.Frag) : Sp := spG (α := OpArg2) (fun a => [aR (qC K) a.1, aV (.int (a.2.1 : Int)), aV (.int (a.2.2 : Int))]) OpOk2 fun a => isR (qL qI) (opR a.1 (.getWeight a.2.1 a.2.2))
abbrev N_get_weight : List Str := ["chain", "i", "j"]
abbrev P_get_weight : List Str := ["chain", "i", "j"]
theorem sc_get_weight : FnScope N_get_weight P_get_weight (defScope s_get_weight) := ⟨rfl, rfl, rfl, by decide +kernel, rfl, by decide +kernel, by decide +kernel⟩
theorem ok_get_weight (T : Tx K mg) : Has P w K mg base 2 (He.ga K "get_weight") P_get_weight (sp_get_weight K) := by
  obtain ⟨⟨_, F_Chain_has_state, b_Chain_has_state⟩, kp_Chain_has_state⟩ := ok_Chain_has_state (P := P) (w := w) (base := base) T
  obtain ⟨⟨_, F_no_such_state, b_no_such_state⟩, kp_no_such_state⟩ := ok_no_such_state (P := P) (w := w) (base := base) T
  have nd := sc_get_weight.nd
  refine has_mk T.f_get_weight sc_get_weight (fun _ => rfl) (fun _ _ _ _ _ _ us hl => match us, hl with | [_, _, _], _ => rfl) (fun cdv E outer s H X hr a G vs Q sm ha hok k => ⟨_, (pss_cons (ps_if (PW.pt (pw_or (pt_not (pt_val (pe_meth (pv 0) T.c_Chain T.h_Chain_has_state F_Chain_has_state (hr.mono (by decide)) b_Chain_has_state .nil pass0 (pa_cons (pv 1) pa_nil)))) (pw_or1 (pt_not (pt_val (pe_meth (pv 0) T.c_Chain T.h_Chain_has_state F_Chain_has_state (hr.mono (by decide)) b_Chain_has_state .nil pass0 (pa_cons (pv 2) pa_nil))))))) (pss_one (ps_ret (pe_call0 F_no_such_state (hr.mono (by decide)) (by rfl) T.g_no_such_state kp_no_such_state b_no_such_state .nil pass0))) pss_nil)
      (pss_one (ps_ret (pe_lst (pa_cons (pe_ix (k_ixl K rfl) (pe_ix (k_ixl K rfl) (k_fld K rfl (pv 0)) (pv 1) (fun _ _ => rfl)) (pv 2) (fun _ _ => rfl)) pa_nil))))), ?_⟩)
  obtain ⟨v1, _, rfl, h1, _, _, rfl, rfl, _, _, rfl, rfl, rfl⟩ := ha
  obtain ⟨c, i, j⟩ := a
  have ok : COk c := hok
  dsimp only at h1 k ⊢
  rw [op_getW] at k
  refine sq_ifN sm (et_or (et_state (c := c) (i := i) (ev_meth (c, i) (ev_vR rfl h1) (ea_V (ev_var rfl) ea_nil) rfl trivial)) fun _ => et_state (c := c) (i := j) (ev_meth (c, j) (ev_vR rfl h1) (ea_V (ev_var rfl) ea_nil) rfl trivial)) (fun b G2 H2 e2 => ?_) fun b G2 H2 e2 => ?_
  · rw [if_pos (state_or1 b)] at k
    exact st_ret e2.sub (ev_call () ea_nil trivial) fun v G3 H3 e3 p => k v G3 H3 (e2.trans e3) p
  · obtain ⟨⟨hi, hj⟩, b'⟩ := state_or0 b
    rw [if_neg b'] at k
    exact st_ret e2.sub (ev_NL (ev_lst1 (R := qI) (ev_Z (ev_ofN (ev_ixL (ev_ixL (ev_rows T (ev_vR rfl (Mo.mo e2.g h1))) (ev_var rfl) (weights_at hi)) (ev_var rfl) (row_at ok hi hj)))))) fun v G3 H3 e3 p => k v G3 H3 (e2.trans e3) p
abbrev sp_probability (K : PySem.W.Frag) : Sp := spG (α := OpArg2) (fun a => [aR (qC K) a.1, aV (.int (a.2.1 : Int)), aV (.int (a.2.2 : Int))]) OpOk2 fun a => isR (qL qI) (opR a.1 (.probability a.2.1 a.2.2))
abbrev N_probability : List Str := ["chain", "i", "j"]
abbrev P_probability : List Str := ["chain", "i", "j"]
theorem sc_probability : FnScope N_probability P_probability (defScope s_probability) := ⟨rfl, rfl, rfl, by decide +kernel, rfl, by decide +kernel, by decide +kernel⟩
theorem ok_probability (T : Tx K mg) : Has P w K mg base 4 (He.ga K "probability") P_probability (sp_probability K) := by
  obtain ⟨⟨_, F_Chain_chance_of, b_Chain_chance_of⟩, kp_Chain_chance_of⟩ := ok_Chain_chance_of (P := P) (w := w) (base := base) T
  obtain ⟨⟨_, F_Chain_has_state, b_Chain_has_state⟩, kp_Chain_has_state⟩ := ok_Chain_has_state (P := P) (w := w) (base := base) T
  obtain ⟨⟨_, F_no_such_state, b_no_such_state⟩, kp_no_such_state⟩ := ok_no_such_state (P := P) (w := w) (base := base) T
  have nd := sc_probability.nd
  refine has_mk T.f_probability sc_probability (fun _ => rfl) (fun _ _ _ _ _ _ us hl => match us, hl with | [_, _, _], _ => rfl) (fun cdv E outer s H X hr a G vs Q sm ha hok k => ⟨_, (pss_cons (ps_if (PW.pt (pw_or (pt_not (pt_val (pe_meth (pv 0) T.c_Chain T.h_Chain_has_state F_Chain_has_state (hr.mono (by decide)) b_Chain_has_state .nil pass0 (pa_cons (pv 1) pa_nil)))) (pw_or1 (pt_not (pt_val (pe_meth (pv 0) T.c_Chain T.h_Chain_has_state F_Chain_has_state (hr.mono (by decide)) b_Chain_has_state .nil pass0 (pa_cons (pv 2) pa_nil))))))) (pss_one (ps_ret (pe_call0 F_no_such_state (hr.mono (by decide)) (by rfl) T.g_no_such_state kp_no_such_state b_no_such_state .nil pass0))) pss_nil)
      (pss_one (ps_ret (pe_op op_cat (pe_lst (pa_cons pe_int pa_nil)) (pe_callTy (k_list K rfl) (by rfl) T.z_list (by decide +kernel) (pa_cons (pe_meth (pv 0) T.c_Chain T.h_Chain_chance_of F_Chain_chance_of (hr.mono (by decide)) b_Chain_chance_of .nil pass0 (pa_cons (pv 1) (pa_cons (pe_lst (pa_cons (pv 2) pa_nil)) pa_nil))) pa_nil)))))), ?_⟩)
  obtain ⟨v1, _, rfl, h1, _, _, rfl, rfl, _, _, rfl, rfl, rfl⟩ := ha
  obtain ⟨c, i, j⟩ := a
  have ok : COk c := hok
  dsimp only at h1 k ⊢
  rw [op_prob] at k
  refine sq_ifN sm (et_or (et_state (c := c) (i := i) (ev_meth (c, i) (ev_vR rfl h1) (ea_V (ev_var rfl) ea_nil) rfl trivial)) fun _ => et_state (c := c) (i := j) (ev_meth (c, j) (ev_vR rfl h1) (ea_V (ev_var rfl) ea_nil) rfl trivial)) (fun b G2 H2 e2 => ?_) fun b G2 H2 e2 => ?_
  · rw [if_pos (state_or1 b)] at k
    exact st_ret e2.sub (ev_call () ea_nil trivial) fun v G3 H3 e3 p => k v G3 H3 (e2.trans e3) p
  · obtain ⟨⟨hi, hj⟩, b'⟩ := state_or0 b
    rw [if_neg b'] at k
    exact st_ret e2.sub (ev_res0 (ev_a (ev_meth (c, i, [j]) (ev_vR rfl (Mo.mo e2.g h1)) (ea_V (ev_var rfl) (ea_R (ev_list1N (ev_var rfl)) ea_nil)) rfl ⟨ok, hi, by simpa using hj, by show 1 ≤ 1000; decide⟩) (EC.chance_one ok i j))) fun v G3 H3 e3 p => k v G3 H3 (e2.trans e3) p
abbrev sp_generator (K : PySem.W.Frag) : Sp := spG (α := OpArg2) (fun a => [aR (qC K) a.1, aV (.int (a.2.1 : Int)), aV (.int (a.2.2 : Int))]) OpOk2 fun a => isR (qL qI) (opR a.1 (.generator a.2.1 a.2.2))
abbrev N_generator : List Str := ["chain", "i", "j"]
abbrev P_generator : List Str := ["chain", "i", "j"]
theorem sc_generator : FnScope N_generator P_generator (defScope s_generator) := ⟨rfl, rfl, rfl, by decide +kernel, rfl, by decide +kernel, by decide +kernel⟩
theorem ok_generator (T : Tx K mg) : Has P w K mg base 5 (He.ga K "generator") P_generator (sp_generator K) := by
  obtain ⟨⟨_, F_Chain_generator_value, b_Chain_generator_value⟩, kp_Chain_generator_value⟩ := ok_Chain_generator_value (P := P) (w := w) (base := base) T
  obtain ⟨⟨_, F_Chain_has_state, b_Chain_has_state⟩, kp_Chain_has_state⟩ := ok_Chain_has_state (P := P) (w := w) (base := base) T
  obtain ⟨⟨_, F_no_such_state, b_no_such_state⟩, kp_no_such_state⟩ := ok_no_such_state (P := P) (w := w) (base := base) T
  have nd := sc_generator.nd
  refine has_mk T.f_generator sc_generator (fun _ => rfl) (fun _ _ _ _ _ _ us hl => match us, hl with | [_, _, _], _ => rfl) (fun cdv E outer s H X hr a G vs Q sm ha hok k => ⟨_, (pss_cons (ps_if (PW.pt (pw_or (pt_not (pt_val (pe_meth (pv 0) T.c_Chain T.h_Chain_has_state F_Chain_has_state (hr.mono (by decide)) b_Chain_has_state .nil pass0 (pa_cons (pv 1) pa_nil)))) (pw_or1 (pt_not (pt_val (pe_meth (pv 0) T.c_Chain T.h_Chain_has_state F_Chain_has_state (hr.mono (by decide)) b_Chain_has_state .nil pass0 (pa_cons (pv 2) pa_nil))))))) (pss_one (ps_ret (pe_call0 F_no_such_state (hr.mono (by decide)) (by rfl) T.g_no_such_state kp_no_such_state b_no_such_state .nil pass0))) pss_nil)
      (pss_one (ps_ret (pe_op op_cat (pe_lst (pa_cons pe_int pa_nil)) (pe_callTy (k_list K rfl) (by rfl) T.z_list (by decide +kernel) (pa_cons (pe_meth (pv 0) T.c_Chain T.h_Chain_generator_value F_Chain_generator_value (hr.mono (by decide)) b_Chain_generator_value .nil pass0 (pa_cons (pv 1) (pa_cons (pv 2) pa_nil))) pa_nil)))))), ?_⟩)
  obtain ⟨v1, _, rfl, h1, _, _, rfl, rfl, _, _, rfl, rfl, rfl⟩ := ha
  obtain ⟨c, i, j⟩ := a
  have ok : COk c := hok
  dsimp only at h1 k ⊢
  rw [op_gen] at k
  refine sq_ifN sm (et_or (et_state (c := c) (i := i) (ev_meth (c, i) (ev_vR rfl h1) (ea_V (ev_var rfl) ea_nil) rfl trivial)) fun _ => et_state (c := c) (i := j) (ev_meth (c, j) (ev_vR rfl h1) (ea_V (ev_var rfl) ea_nil) rfl trivial)) (fun b G2 H2 e2 => ?_) fun b G2 H2 e2 => ?_
  · rw [if_pos (state_or1 b)] at k
    exact st_ret e2.sub (ev_call () ea_nil trivial) fun v G3 H3 e3 p => k v G3 H3 (e2.trans e3) p
  · obtain ⟨⟨hi, hj⟩, b'⟩ := state_or0 b
    rw [if_neg b'] at k
    exact st_ret e2.sub (ev_res0 (ev_meth (c, i, j) (ev_vR rfl (Mo.mo e2.g h1)) (ea_V (ev_var rfl) (ea_V (ev_var rfl) ea_nil)) rfl ⟨ok, hi, hj⟩)) fun v G3 H3 e3 p => k v G3 H3 (e2.trans e3) p
abbrev sp_classes (K : PySem.W.Frag) : Sp := spG (α := Chain) (fun a => [aR (qC K) a]) COk fun a => isR (qL qI) (opR a .classes)
theorem ev_castL {σ : L2.St} {G H : Hp} {te : TE} {l : List Nat} (h : Ev te σ G H (isR (qL qN) l)) : Ev te σ G H (isR (qL qI) (castL l)) := fun G1 H1 e Q q =>
  h G1 H1 e Q fun v G2 H2 e2 r => q v G2 H2 e2 (castQ r)
abbrev N_classes : List Str := ["chain", "names"]
abbrev P_classes : List Str := ["chain"]
theorem sc_classes : FnScope N_classes P_classes (defScope s_classes) := ⟨rfl, rfl, rfl, by decide +kernel, rfl, by decide +kernel, by decide +kernel⟩
theorem ok_classes (T : Tx K mg) : Has P w K mg base 5 (He.ga K "classes") P_classes (sp_classes K) := by
  obtain ⟨⟨_, F_class_names, b_class_names⟩, kp_class_names⟩ := ok_class_names (P := P) (w := w) (base := base) T
  have nd := sc_classes.nd
  refine has_mk T.f_classes sc_classes (fun _ => rfl) (fun _ _ _ _ _ _ us hl => match us, hl with | [_], _ => rfl) (fun cdv E outer s H X hr a G vs Q sm ha hok k => ⟨_, (pss_cons (ps_set (i := 1) nd rfl (.inl rfl) (pe_call F_class_names (hr.mono (by decide)) (by rfl) T.g_class_names kp_class_names b_class_names .nil pass0 (pa_cons (k_fld K rfl (pv 0)) pa_nil)))
      (pss_one (ps_ret (pe_op op_cat (pe_lst (pa_cons (pe_lenSetA (by rfl) T.z_len (by rfl) T.z_set (pv 1)) pa_nil)) (pv 1))))), ?_⟩)
  obtain ⟨v1, _, rfl, h1, rfl⟩ := ha
  have ok := hok
  rw [op_classes] at k
  have nl : (namesF a).length = size a := by unfold namesF; rw [List.length_map, states_len]
  have s8 := ok.le
  refine sq_set sm (ev_call a (ea_R (ev_rows T (ev_vR rfl h1)) ea_nil) ok) fun v G1 H1 e1 p1 => ?_
  refine st_ret e1.sub (ev_NL (ev_cat (R := qI) (xs := [((Lrx1.classes a).length : Int)]) (ev_NL (ev_lst1 (R := qI) (ev_Z (ev_V (ev_lenSetN (ev_vR rfl p1) (by omega)) (by rw [names_count ok]))))) (ev_castL (ev_vR (R := qL qN) rfl p1)) (by unfold castL; rw [List.length_map]; show 1 + _ ≤ 1000; omega))) fun v G2 H2 e2 p => k v G2 H2 (e1.trans e2) p
abbrev sp_class_info (K : PySem.W.Frag) : Sp := spG (α := Chain × Nat) (fun a => [aR (qC K) a.1, aV (.int (a.2 : Int))]) OpOk1 fun a => isR (qL qI) (opR a.1 (.classInfo a.2))
theorem ev_bit {σ : L2.St} {G H : Hp} {t : TT} {b : Bool} (h : EvT t σ G H b) : Ev (tIf t (tC (.int 1)) (tC (.int 0))) σ G H (isV (.int (if b then 1 else 0))) := by
  refine ev_if h (fun c => ?_) fun c => ?_
  · rw [if_pos c]; exact ev_c
  · rw [c, if_neg Bool.false_ne_true]; exact ev_c
abbrev N_class_info : List Str := ["chain", "i", "members", "closed"]
abbrev P_class_info : List Str := ["chain", "i"]
theorem sc_class_info : FnScope N_class_info P_class_info (defScope s_class_info) := ⟨rfl, rfl, rfl, by decide +kernel, rfl, by decide +kernel, by decide +kernel⟩
theorem ok_class_info (T : Tx K mg) : Has P w K mg base 5 (He.ga K "class_info") P_class_info (sp_class_info K) := by
  obtain ⟨⟨_, F_Chain_has_state, b_Chain_has_state⟩, kp_Chain_has_state⟩ := ok_Chain_has_state (P := P) (w := w) (base := base) T
  obtain ⟨⟨_, F_class_of, b_class_of⟩, kp_class_of⟩ := ok_class_of (P := P) (w := w) (base := base) T
  obtain ⟨⟨_, F_is_closed, b_is_closed⟩, kp_is_closed⟩ := ok_is_closed (P := P) (w := w) (base := base) T
  obtain ⟨⟨_, F_no_such_state, b_no_such_state⟩, kp_no_such_state⟩ := ok_no_such_state (P := P) (w := w) (base := base) T
  obtain ⟨⟨_, F_period_of, b_period_of⟩, kp_period_of⟩ := ok_period_of (P := P) (w := w) (base := base) T
  have nd := sc_class_info.nd
  refine has_mk T.f_class_info sc_class_info (fun _ => rfl) (fun _ _ _ _ _ _ us hl => match us, hl with | [_, _], _ => rfl) (fun cdv E outer s H X hr a G vs Q sm ha hok k => ⟨_, (pss_cons (ps_if (pt_not (pt_val (pe_meth (pv 0) T.c_Chain T.h_Chain_has_state F_Chain_has_state (hr.mono (by decide)) b_Chain_has_state .nil pass0 (pa_cons (pv 1) pa_nil)))) (pss_one (ps_ret (pe_call0 F_no_such_state (hr.mono (by decide)) (by rfl) T.g_no_such_state kp_no_such_state b_no_such_state .nil pass0))) pss_nil)
      (pss_cons (ps_set (i := 2) nd rfl (.inl rfl) (pe_call F_class_of (hr.mono (by decide)) (by rfl) T.g_class_of kp_class_of b_class_of .nil pass0 (pa_cons (k_fld K rfl (pv 0)) (pa_cons (pv 1) pa_nil))))
      (pss_cons (ps_set (i := 3) nd rfl (.inl rfl) (pe_ifExp (pt_val (pe_call F_is_closed (hr.mono (by decide)) (by rfl) T.g_is_closed kp_is_closed b_is_closed .nil pass0 (pa_cons (k_fld K rfl (pv 0)) (pa_cons (pv 2) pa_nil)))) pe_int pe_int))
      (pss_one (ps_ret (pe_op op_cat (pe_lst (pa_cons (pe_callB (k_len K rfl) (by rfl) T.z_len PySem.boot_len (pa_cons (pv 2) pa_nil)) (pa_cons (pv 3) (pa_cons (pe_call F_period_of (hr.mono (by decide)) (by rfl) T.g_period_of kp_period_of b_period_of .nil pass0 (pa_cons (k_fld K rfl (pv 0)) (pa_cons (pv 1) pa_nil))) pa_nil)))) (pv 2))))))), ?_⟩)
  obtain ⟨v1, _, rfl, h1, _, _, rfl, rfl, rfl⟩ := ha
  obtain ⟨c, i⟩ := a
  have ok : COk c := hok
  dsimp only at h1 k ⊢
  rw [op_info] at k
  refine sq_ifN sm (et_state (c := c) (i := i) (ev_meth (c, i) (ev_vR rfl h1) (ea_V (ev_var rfl) ea_nil) rfl trivial)) (fun b G2 H2 e2 => ?_) fun b G2 H2 e2 => ?_
  · have b' : isState c i = false := by simpa using b
    rw [if_pos b'] at k
    exact st_ret e2.sub (ev_call () ea_nil trivial) fun v G3 H3 e3 p => k v G3 H3 (e2.trans e3) p
  · have b' : isState c i = true := by simpa using b
    have hi : i < size c := of_decide_eq_true b'
    rw [b', if_neg (by decide)] at k
    have cl := EC.class_len (c := c) i
    have s8 := ok.le
    refine sq_set e2.sub (ev_call (c, i) (ea_R (ev_rows T (ev_vR rfl (Mo.mo e2.g h1))) (ea_V (ev_var rfl) ea_nil)) ⟨ok, hi⟩) fun v3 G3 H3 e3 p3 => ?_
    have e23 := e2.trans e3
    refine sq_set e3.sub (ev_bit (et_B (ev_call (c, i) (ea_R (ev_rows T (ev_vR rfl (Mo.mo e23.g h1))) (ea_R (ev_vR rfl p3) ea_nil)) ⟨ok, hi⟩))) fun v G4 H4 e4 p4 => ?_
    subst p4
    have e24 := e23.trans e4
    refine st_ret e4.sub (ev_NL (ev_cat (R := qI) (xs := [((classOf c i).length : Int), (if isClosed c i then 1 else 0), (period c i : Int)]) (ev_NL (ev_lstR (R := qI) (ea_R (ev_Z (ev_lenL (ev_vR rfl (Mo.mo e4.g p3)))) (ea_R (ev_Z (ev_var rfl)) (ea_R (ev_Z (ev_call (c, i) (ea_R (ev_rows T (ev_vR rfl (Mo.mo e24.g h1))) (ea_V (ev_var rfl) ea_nil)) ⟨ok, hi⟩)) ea_nil))) (by show 3 ≤ 1000; decide))) (ev_castL (ev_vR (R := qL qN) rfl (Mo.mo e4.g p3))) (by unfold castL; rw [List.length_map]; show 3 + (classOf c i).length ≤ 1000; omega))) fun v G5 H5 e5 p => k v G5 H5 (e24.trans e5) p
abbrev sp_distance (K : PySem.W.Frag) : Sp := spG (α := OpArg2) (fun a => [aR (qC K) a.1, aV (.int (a.2.1 : Int)), aV (.int (a.2.2 : Int))]) OpOk2 fun a => isR (qL qI) (opR a.1 (.distance a.2.1 a.2.2))
abbrev N_distance : List Str := ["chain", "i", "j", "found"]
abbrev P_distance : List Str := ["chain", "i", "j"]
theorem sc_distance : FnScope N_distance P_distance (defScope s_distance) := ⟨rfl, rfl, rfl, by decide +kernel, rfl, by decide +kernel, by decide +kernel⟩
theorem ok_distance (T : Tx K mg) : Has P w K mg base 2 (He.ga K "distance") P_distance (sp_distance K) := by
  obtain ⟨⟨_, F_Chain_has_state, b_Chain_has_state⟩, kp_Chain_has_state⟩ := ok_Chain_has_state (P := P) (w := w) (base := base) T
  obtain ⟨⟨_, F_distances_from, b_distances_from⟩, kp_distances_from⟩ := ok_distances_from (P := P) (w := w) (base := base) T
  obtain ⟨⟨_, F_no_result, b_no_result⟩, kp_no_result⟩ := ok_no_result (P := P) (w := w) (base := base) T
  obtain ⟨⟨_, F_no_such_state, b_no_such_state⟩, kp_no_such_state⟩ := ok_no_such_state (P := P) (w := w) (base := base) T
  have nd := sc_distance.nd
  refine has_mk T.f_distance sc_distance (fun _ => rfl) (fun _ _ _ _ _ _ us hl => match us, hl with | [_, _, _], _ => rfl) (fun cdv E outer s H X hr a G vs Q sm ha hok k => ⟨_, (pss_cons (ps_if (PW.pt (pw_or (pt_not (pt_val (pe_meth (pv 0) T.c_Chain T.h_Chain_has_state F_Chain_has_state (hr.mono (by decide)) b_Chain_has_state .nil pass0 (pa_cons (pv 1) pa_nil)))) (pw_or1 (pt_not (pt_val (pe_meth (pv 0) T.c_Chain T.h_Chain_has_state F_Chain_has_state (hr.mono (by decide)) b_Chain_has_state .nil pass0 (pa_cons (pv 2) pa_nil))))))) (pss_one (ps_ret (pe_call0 F_no_such_state (hr.mono (by decide)) (by rfl) T.g_no_such_state kp_no_such_state b_no_such_state .nil pass0))) pss_nil)
      (pss_cons (ps_set (i := 3) nd rfl (.inl rfl) (pe_ix (k_ixl K rfl) (pe_call F_distances_from (hr.mono (by decide)) (by rfl) T.g_distances_from kp_distances_from b_distances_from .nil pass0 (pa_cons (k_fld K rfl (pv 0)) (pa_cons (pv 1) pa_nil))) (pv 2) (fun _ _ => rfl)))
      (pss_cons (ps_if (pt_cmpR op_isN (pv 3) pe_non (by rfl)) (pss_one (ps_ret (pe_call0 F_no_result (hr.mono (by decide)) (by rfl) T.g_no_result kp_no_result b_no_result .nil pass0))) pss_nil)
      (pss_one (ps_ret (pe_lst (pa_cons (pv 3) pa_nil))))))), ?_⟩)
  obtain ⟨v1, _, rfl, h1, _, _, rfl, rfl, _, _, rfl, rfl, rfl⟩ := ha
  obtain ⟨c, i, j⟩ := a
  have ok : COk c := hok
  dsimp only at h1 k ⊢
  rw [op_dist] at k
  refine sq_ifN sm (et_or (et_state (c := c) (i := i) (ev_meth (c, i) (ev_vR rfl h1) (ea_V (ev_var rfl) ea_nil) rfl trivial)) fun _ => et_state (c := c) (i := j) (ev_meth (c, j) (ev_vR rfl h1) (ea_V (ev_var rfl) ea_nil) rfl trivial)) (fun b G2 H2 e2 => ?_) fun b G2 H2 e2 => ?_
  · rw [if_pos (state_or1 b)] at k
    exact st_ret e2.sub (ev_call () ea_nil trivial) fun v G3 H3 e3 p => k v G3 H3 (e2.trans e3) p
  · obtain ⟨⟨hi, hj⟩, b'⟩ := state_or0 b
    rw [if_neg b'] at k
    refine sq_set e2.sub (ev_ixL (ev_call (c, i) (ea_R (ev_rows T (ev_vR rfl (Mo.mo e2.g h1))) (ea_V (ev_var rfl) ea_nil)) ⟨ok, hi⟩) (ev_var rfl) (distF_at hj)) fun v4 G3 H3 e3 p3 => ?_
    have e23 := e2.trans e3
    have p3' : qO qN G3 v4 (distance c i j) := p3
    refine sq_ifN e3.sub (et_test (ev_isN nn_N (ev_vR rfl p3'))) (fun f G4 H4 e4 => ?_) fun f G4 H4 e4 => ?_
    · have f' : distance c i j = none := by simpa using f
      rw [f'] at k
      exact st_ret e4.sub (ev_call () ea_nil trivial) fun v G5 H5 e5 p => k v G5 H5 ((e23.trans e4).trans e5) p
    · cases hd : distance c i j with
      | none => rw [hd] at f; cases f
      | some d =>
        rw [hd] at k p3'
        exact st_ret e4.sub (ev_NL (ev_lst1 (R := qI) (ev_Z (ev_ofN (ev_some (ev_vR (R := qO qN) rfl (Mo.mo e4.g p3'))))))) fun v G5 H5 e5 p => k v G5 H5 ((e23.trans e4).trans e5) p
abbrev sp_is_lumpable (K : PySem.W.Frag) : Sp := spG (α := Chain × List Nat) (fun a => [aR (qC K) a.1, aR (qL qN) a.2]) (fun a => COk a.1) fun a => isR (qL qI) (opR a.1 (.isLumpable a.2))
abbrev N_is_lumpable : List Str := ["chain", "labels"]
abbrev P_is_lumpable : List Str := ["chain", "labels"]
theorem sc_is_lumpable : FnScope N_is_lumpable P_is_lumpable (defScope s_is_lumpable) := ⟨rfl, rfl, rfl, by decide +kernel, rfl, by decide +kernel, by decide +kernel⟩
theorem ok_is_lumpable (T : Tx K mg) : Has P w K mg base 7 (He.ga K "is_lumpable") P_is_lumpable (sp_is_lumpable K) := by
  obtain ⟨⟨_, F_Chain_state_count, b_Chain_state_count⟩, kp_Chain_state_count⟩ := ok_Chain_state_count (P := P) (w := w) (base := base) T
  obtain ⟨⟨_, F_blocks_of, b_blocks_of⟩, kp_blocks_of⟩ := ok_blocks_of (P := P) (w := w) (base := base) T
  obtain ⟨⟨_, F_is_lumpable_into, b_is_lumpable_into⟩, kp_is_lumpable_into⟩ := ok_is_lumpable_into (P := P) (w := w) (base := base) T
  obtain ⟨⟨_, F_out_of_range, b_out_of_range⟩, kp_out_of_range⟩ := ok_out_of_range (P := P) (w := w) (base := base) T
  have nd := sc_is_lumpable.nd
  refine has_mk T.f_is_lumpable sc_is_lumpable (fun _ => rfl) (fun _ _ _ _ _ _ us hl => match us, hl with | [_, _], _ => rfl) (fun cdv E outer s H X hr a G vs Q sm ha hok k => ⟨_, (pss_cons (ps_if (pt_cmpR op_ne (pe_callB (k_len K rfl) (by rfl) T.z_len PySem.boot_len (pa_cons (pv 1) pa_nil)) (pe_meth0 (pv 0) T.c_Chain T.h_Chain_state_count F_Chain_state_count (hr.mono (by decide)) b_Chain_state_count .nil pass0) (by rfl)) (pss_one (ps_ret (pe_call0 F_out_of_range (hr.mono (by decide)) (by rfl) T.g_out_of_range kp_out_of_range b_out_of_range .nil pass0))) pss_nil)
      (pss_one (ps_ret (pe_lst (pa_cons (pe_ifExp (pt_val (pe_call F_is_lumpable_into (hr.mono (by decide)) (by rfl) T.g_is_lumpable_into kp_is_lumpable_into b_is_lumpable_into .nil pass0 (pa_cons (pv 0) (pa_cons (pe_call F_blocks_of (hr.mono (by decide)) (by rfl) T.g_blocks_of kp_blocks_of b_blocks_of .nil pass0 (pa_cons (pv 1) pa_nil)) pa_nil)))) pe_int pe_int) pa_nil))))), ?_⟩)
  obtain ⟨v1, _, rfl, h1, v2, _, rfl, h2, rfl⟩ := ha
  obtain ⟨c, labels⟩ := a
  have ok : COk c := hok
  dsimp only at h1 h2 k ⊢
  rw [op_isLump] at k
  have s8 := ok.le
  refine sq_ifN sm (et_is (et_test (ev_ne (ev_lenL (ev_vR rfl h2)) (ev_meth c (ev_vR rfl h1) ea_nil rfl trivial) rfl)) (show _ = !decide (labels.length = size c) from by rw [dec_int_nat])) (fun b G2 H2 e2 => ?_) fun b G2 H2 e2 => ?_
  · have b' : Lrx1.isPartition c labels = false := by
      unfold Lrx1.isPartition
      simpa using b
    rw [if_pos b'] at k
    exact st_ret e2.sub (ev_call () ea_nil trivial) fun v G3 H3 e3 p => k v G3 H3 (e2.trans e3) p
  · have hl : labels.length = size c := by simpa using b
    have b' : ¬ Lrx1.isPartition c labels = false := by
      unfold Lrx1.isPartition
      rw [decide_eq_true hl]
      decide
    rw [if_neg b'] at k
    exact st_ret e2.sub (ev_NL (ev_lst1 (R := qI) (ev_Z (ev_bit (et_B (ev_call (c, labels) (ea_R (ev_vR rfl (Mo.mo e2.g h1)) (ea_R (ev_call labels (ea_R (ev_vR rfl (Mo.mo e2.g h2)) ea_nil) (by omega)) ea_nil)) ⟨ok, hl⟩)))))) fun v G3 H3 e3 p => k v G3 H3 (e2.trans e3) p
abbrev sp_summary (K : PySem.W.Frag) : Sp := spG (α := Chain) (fun a => [aR (qC K) a]) COk fun a => isR (qL qI) (opR a .summary)
abbrev N_summary : List Str := ["chain", "class_count", "closed_count"]
abbrev P_summary : List Str := ["chain"]
theorem sc_summary : FnScope N_summary P_summary (defScope s_summary) := ⟨rfl, rfl, rfl, by decide +kernel, rfl, by decide +kernel, by decide +kernel⟩
theorem ok_summary (T : Tx K mg) : Has P w K mg base 7 (He.ga K "summary") P_summary (sp_summary K) := by
  obtain ⟨⟨_, F_Chain_greatest_sum, b_Chain_greatest_sum⟩, kp_Chain_greatest_sum⟩ := ok_Chain_greatest_sum (P := P) (w := w) (base := base) T
  obtain ⟨⟨_, F_Chain_state_count, b_Chain_state_count⟩, kp_Chain_state_count⟩ := ok_Chain_state_count (P := P) (w := w) (base := base) T
  obtain ⟨⟨_, F_class_names, b_class_names⟩, kp_class_names⟩ := ok_class_names (P := P) (w := w) (base := base) T
  obtain ⟨⟨_, F_closed_classes, b_closed_classes⟩, kp_closed_classes⟩ := ok_closed_classes (P := P) (w := w) (base := base) T
  have nd := sc_summary.nd
  refine has_mk T.f_summary sc_summary (fun _ => rfl) (fun _ _ _ _ _ _ us hl => match us, hl with | [_], _ => rfl) (fun cdv E outer s H X hr a G vs Q sm ha hok k => ⟨_, (pss_cons (ps_set (i := 1) nd rfl (.inl rfl) (pe_lenSetA (by rfl) T.z_len (by rfl) T.z_set (pe_call F_class_names (hr.mono (by decide)) (by rfl) T.g_class_names kp_class_names b_class_names .nil pass0 (pa_cons (k_fld K rfl (pv 0)) pa_nil))))
      (pss_cons (ps_set (i := 2) nd rfl (.inl rfl) (pe_callB (k_len K rfl) (by rfl) T.z_len PySem.boot_len (pa_cons (pe_call F_closed_classes (hr.mono (by decide)) (by rfl) T.g_closed_classes kp_closed_classes b_closed_classes .nil pass0 (pa_cons (k_fld K rfl (pv 0)) pa_nil)) pa_nil)))
      (pss_one (ps_ret (pe_lst (pa_cons (pe_meth0 (pv 0) T.c_Chain T.h_Chain_state_count F_Chain_state_count (hr.mono (by decide)) b_Chain_state_count .nil pass0) (pa_cons (k_fld K rfl (pv 0)) (pa_cons (pv 1) (pa_cons (pv 2) (pa_cons (pe_meth0 (pv 0) T.c_Chain T.h_Chain_greatest_sum F_Chain_greatest_sum (hr.mono (by decide)) b_Chain_greatest_sum .nil pass0) pa_nil)))))))))), ?_⟩)
  obtain ⟨v1, _, rfl, h1, rfl⟩ := ha
  have ok := hok
  rw [op_summary] at k
  have nl : (namesF a).length = size a := by unfold namesF; rw [List.length_map, states_len]
  have s8 := ok.le
  refine sq_set sm (ev_V (ev_lenSetN (ev_call a (ea_R (ev_rows T (ev_vR rfl h1)) ea_nil) ok) (by omega)) (by rw [names_count ok])) fun v G1 H1 e1 p1 => ?_
  subst p1
  refine sq_set e1.sub (ev_V (ev_lenL (ev_call a (ea_R (ev_rows T (ev_vR rfl (Mo.mo e1.g h1))) ea_nil) ok)) (by rw [List.length_map])) fun v G2 H2 e2 p2 => ?_
  subst p2
  have e12 := e1.trans e2
  have h2 := Mo.mo (R := qC K) e12.g h1
  refine st_ret e2.sub (ev_NL (ev_lstR (R := qI) (xs := [(size a : Int), (if a.isContinuous then 1 else 0), ((Lrx1.classes a).length : Int), ((closedClasses a).length : Int), (greatestRate a : Int)]) (ea_R (ev_Z (ev_meth a (ev_vR rfl h2) ea_nil rfl trivial)) (ea_R (ev_Z (ev_kind T (ev_vR rfl h2))) (ea_R (ev_Z (ev_var rfl)) (ea_R (ev_Z (ev_var rfl)) (ea_R (ev_Z (ev_meth a (ev_vR rfl h2) ea_nil rfl ok)) ea_nil))))) (by show 5 ≤ 1000; decide))) fun v G3 H3 e3 p => k v G3 H3 (e12.trans e3) p
end
end ER
/-! ## ErK -/
/-! the operations that change the instance -/
namespace ER
open PySem PySem.Spec PyProof.Rows
open L2 hiding St
open Lrx1 (Fraction Chain size weight rowSum greatestRate states isState)
open EC (COk)
abbrev Rw : Type := Addr × List Nat
structure LocI (es : List Rw) (H0 G H : Hp) : Prop where
  it : ∀ e ∈ es, H0 e.1 = none ∧ G e.1 = none ∧ H e.1 = some (.lst (intsV e.2))
  nd : (es.map fun e : Rw => e.1).Nodup
structure LocW (es : List Rw) (H0 : Hp) (p : Addr) (G H : Hp) : Prop where
  h0 : H0 p = none
  g : G p = none
  h : H p = some (.lst (es.map fun e : Rw => V.ref e.1))
  ne : ∀ e ∈ es, e.1 ≠ p
  i : LocI es H0 G H
def datW (es : List Rw) : List (List Nat) := es.map fun e : Rw => e.2
section
variable {es : List Rw} {H0 G H G1 H1 G2 H2 : Hp} {p : Addr}
theorem LocI.ext (l : LocI es H0 G1 H1) (e : Ext G1 H1 G2 H2) : LocI es H0 G2 H2 :=
  ⟨fun x hx => by
    obtain ⟨a, b, c⟩ := l.it x hx
    exact ⟨a, e.out c b, e.h _ _ c⟩, l.nd⟩
theorem LocW.ext (l : LocW es H0 p G1 H1) (e : Ext G1 H1 G2 H2) : LocW es H0 p G2 H2 :=
  ⟨l.h0, e.out l.h l.g, e.h _ _ l.h, l.ne, l.i.ext e⟩
theorem LocI.back {H' : Hp} (s : Same H0 H') (l : LocI es H' G H) : LocI es H0 G H := ⟨fun x hx => ⟨none_of s (l.it x hx).1, (l.it x hx).2⟩, l.nd⟩
theorem LocW.back {H' : Hp} (s : Same H0 H') (l : LocW es H' p G H) : LocW es H0 p G H := ⟨none_of s l.h0, l.g, l.h, l.ne, l.i.back s⟩
theorem set_map {es : List Rw} {k : Nat} {e : Rw} (h : es[k]? = some e) (r : List Nat) : (es.set k (e.1, r)).map (fun e : Rw => e.1) = es.map fun e : Rw => e.1 := by
  rw [List.map_set]
  apply List.ext_getElem?
  intro j
  rw [List.getElem?_set]
  by_cases q : k = j
  · subst q
    have hl := (List.getElem?_eq_some_iff.mp h).1
    rw [if_pos rfl, if_pos (by rw [List.length_map]; exact hl), List.getElem?_map, h]
    rfl
  · rw [if_neg q]
theorem addr_inj {es : List Rw} (nd : (es.map fun e : Rw => e.1).Nodup) {j k : Nat} {a b : Rw} (hj : es[j]? = some a) (hk : es[k]? = some b) (h : a.1 = b.1) : j = k := by
  have j1 := (List.getElem?_eq_some_iff.mp hj)
  have k1 := (List.getElem?_eq_some_iff.mp hk)
  refine (List.getElem_inj (h₀ := by rw [List.length_map]; exact j1.1) (h₁ := by rw [List.length_map]; exact k1.1) nd).mp ?_
  rw [List.getElem_map, List.getElem_map, j1.2, k1.2]
  exact h
theorem mem_set {es : List Rw} {k : Nat} {x y : Rw} (h : y ∈ es.set k x) : y = x ∨ ∃ j, j ≠ k ∧ es[j]? = some y := by
  obtain ⟨j, hj⟩ := List.mem_iff_getElem?.mp h
  rw [List.getElem?_set] at hj
  by_cases q : k = j
  · rw [if_pos q] at hj
    split at hj
    · exact .inl (Option.some.inj hj).symm
    · cases hj
  · rw [if_neg q] at hj
    exact .inr ⟨j, fun e => q e.symm, hj⟩
theorem LocI.set (l : LocI es H0 G H) {k : Nat} {e : Rw} (h : es[k]? = some e) (r : List Nat) : LocI (es.set k (e.1, r)) H0 G (upd H e.1 (.lst (intsV r))) := by
  refine ⟨fun y hy => ?_, by rw [set_map h]; exact l.nd⟩
  obtain ⟨a, b, c⟩ := l.it e (List.mem_of_getElem? h)
  rcases mem_set hy with rfl | ⟨j, hj, q⟩
  · exact ⟨a, b, upd_same⟩
  · obtain ⟨a', b', c'⟩ := l.it y (List.mem_of_getElem? q)
    exact ⟨a', b', by rw [upd_ne (fun z => hj (addr_inj l.nd q h z))]; exact c'⟩
theorem LocW.set (l : LocW es H0 p G H) {k : Nat} {e : Rw} (h : es[k]? = some e) (r : List Nat) : LocW (es.set k (e.1, r)) H0 p G (upd H e.1 (.lst (intsV r))) := by
  have ne := l.ne e (List.mem_of_getElem? h)
  refine ⟨l.h0, l.g, ?_, fun y hy => ?_, l.i.set h r⟩
  · rw [upd_ne ne.symm, l.h]
    have := set_map h r
    have e2 : ∀ es : List Rw, es.map (fun e : Rw => V.ref e.1) = (es.map fun e : Rw => e.1).map V.ref := fun es => by rw [List.map_map]; rfl
    rw [e2 (es.set k (e.1, r)), this, ← e2]
  · rcases mem_set hy with rfl | ⟨j, hj, q⟩
    · exact ne
    · exact l.ne y (List.mem_of_getElem? q)
theorem LocI.up (e : Ext G H G2 H2) (l : LocI es H G2 H1) {x : Rw} (h : x ∈ es) (o : HO) : Ext G H G2 (upd H2 x.1 o) := e.loc (l.it x h).1 (l.it x h).2.1
theorem frzI : ∀ (es : List Rw) {G1 : Hp}, Ext G H G1 H1 → LocI es H G1 H1 → ∃ G2, Same G1 G2 ∧ Ext G H G2 H1 ∧ (∀ e ∈ es, G2 e.1 = some (.lst (intsV e.2))) ∧ ∀ b, (∀ e ∈ es, e.1 ≠ b) → G2 b = G1 b
  | [], G1, e, _ => ⟨G1, .refl G1, e, fun x hx => absurd hx List.not_mem_nil, fun _ _ => rfl⟩
  | x :: r, G1, e, l => by
    have nd := l.nd
    rw [List.map_cons, List.nodup_cons] at nd
    obtain ⟨a, b, c⟩ := l.it x (List.mem_cons_self ..)
    have e' := e.frz a b c
    obtain ⟨G2, s2, e2, f, g⟩ := frzI r e' ⟨fun y hy => by
      obtain ⟨a', b', c'⟩ := l.it y (List.mem_cons_of_mem _ hy)
      have ne : y.1 ≠ x.1 := fun z => nd.1 (by rw [← z]; exact List.mem_map.mpr ⟨y, hy, rfl⟩)
      exact ⟨a', by rw [upd_ne ne]; exact b', c'⟩, nd.2⟩
    refine ⟨G2, (same_upd b).trans s2, e2, fun y hy => ?_, fun q hq => ?_⟩
    · rcases List.mem_cons.mp hy with rfl | hy
      · exact s2 _ _ upd_same
      · exact f y hy
    · rw [g q fun y hy => hq y (List.mem_cons_of_mem _ hy), upd_ne (hq x (List.mem_cons_self ..)).symm]
theorem qW_of {es : List Rw} {p : Addr} (h : G p = some (.lst (es.map fun e : Rw => V.ref e.1))) (f : ∀ e ∈ es, G e.1 = some (.lst (intsV e.2))) : qW G (.ref p) (datW es) := by
  refine ⟨p, _, rfl, h, ?_⟩
  clear h
  induction es with
  | nil => exact .nil
  | cons e r ih => exact .cons ⟨e.1, _, rfl, f e (List.mem_cons_self ..), list_qN _⟩ (ih fun y hy => f y (List.mem_cons_of_mem _ hy))
theorem frzW (e : Ext G H G1 H1) (l : LocW es H p G1 H1) : ∃ G2, Same G1 G2 ∧ Ext G H G2 H1 ∧ qW G2 (.ref p) (datW es) := by
  obtain ⟨G2, s2, e2, f, g⟩ := frzI es e l.i
  have gp : G2 p = none := by rw [g p l.ne]; exact l.g
  have e3 := e2.frz l.h0 gp l.h
  exact ⟨_, s2.trans (same_upd gp), e3, qW_of upd_same fun y hy => by rw [upd_ne (l.ne y hy)]; exact f y hy⟩
end
def isW (rows : List (List Nat)) : PVal := fun H v G' H' => ∃ p es, v = .ref p ∧ LocW es H p G' H' ∧ datW es = rows
instance (rows : List (List Nat)) : An (isW rows) := ⟨fun s ⟨p, es, a, b, c⟩ => ⟨p, es, a, b.back s, c⟩⟩
section
variable {P : Program} {w : World} {K : PySem.W.Frag} {mg : Str → Option Value} {base : Heap}
section
variable {σ : L2.St} {G H : Hp} {tl te to ti tj : TE} {t : TA} {D : Ends} {vs : List Nat}
theorem ev_copyW {s : Nat} {rows : List (List Nat)} (h : Ev tl σ G H (isR qW rows)) (hn : rows.length ≤ 1000) (hw : ∀ v, wipe ((wipe σ vs).set s (some v)) vs = wipe σ vs)
    (hit : ∀ row ∈ rows, ∀ v G' H', Ext G H G' H' → qL qN G' v row → Ev te ((wipe σ vs).set s (some v)) G' H' (isN qN row)) : Ev (tLc (iList K tl) (gName s) tYes te vs) σ G H (isW rows) := fun G1 H1 e Q q =>
  h G1 H1 e _ fun v G2 H2 e2 ⟨a, us, hv, ha, pr⟩ => ⟨a, hv, ⟨us, SqL.of (e2.sub _ _ ha)⟩, fun D hD => by
    have gD := none_of e2.sub hD
    have hl := paired_len pr
    let St : Nat → Hp → Prop := fun i H' => ∃ G' es, Ext G2 H2 G' H' ∧ LocW es H2 D G' H' ∧ datW es = rows.take i
    refine ⟨fun i m H' => m = rows.length - i ∧ i ≤ rows.length ∧ St i H', ⟨rows.length, by simp, Nat.zero_le _, G2, [], (Ext.refl e2.sub).loc hD gD, ⟨hD, gD, upd_same, fun x hx => absurd hx List.not_mem_nil, ⟨fun x hx => absurd hx List.not_mem_nil, List.nodup_nil⟩⟩, rfl⟩, ?_⟩
    rintro i m H' ⟨rfl, hi, G', es, e', l', em⟩
    have s0 : Same G2 H' := e'.g.trans e'.sub
    by_cases hlt : i < rows.length
    · refine .inr ⟨⟨us, us[i], SqL.of (s0 _ _ ha), List.getElem?_eq_getElem (by omega)⟩, St (i + 1), fun H2 st => ⟨rows.length - (i + 1), by omega, rfl, hlt, st⟩, fun x H2' y => ?_⟩
      obtain ⟨rfl, f⟩ := y
      have hx : rows[i]? = some rows[i] := List.getElem?_eq_getElem hlt
      have hm : rows[i] ∈ rows := List.getElem_mem hlt
      obtain ⟨u, hu, ru⟩ := paired_at pr hx
      have eu : u = x := Option.some.inj (hu.symm.trans (f us (SqL.of (s0 _ _ ha))))
      subst eu
      refine ⟨hw _, et_yes G' _ (.refl e'.sub) _ fun G4 H4 e4 => ?_⟩
      rw [if_pos rfl]
      refine hit _ hm u G4 H4 ((e.trans e2).trans (e'.trans e4)) (Mo.mo (e'.trans e4).g ru) G4 H4 (.refl e4.sub) _ fun v G5 H5 e5 n5 => ?_
      obtain ⟨q', vs', rfl, b1, b2, b3, b4⟩ := n5
      have ev := qN_list b4
      have l5 := l'.ext (e4.trans e5)
      have el : es.length = i := by
        have := congrArg List.length em
        simp [datW] at this
        omega
      have q0 : H2 q' = none := none_of (e'.trans e4).h b1
      have qD : q' ≠ D := fun z => by
        subst z
        have := e4.h _ _ l'.h
        rw [b1] at this
        cases this
      refine ⟨_, l5.h, small1000 (by rw [List.length_map]; omega), G5, es ++ [(q', rows[i])], ?_, ?_, ?_⟩
      · exact ((e'.trans e4).trans e5).loc hD l5.g
      · refine ⟨hD, l5.g, by rw [upd_same, List.map_append]; rfl, fun y hy => ?_, ⟨fun y hy => ?_, ?_⟩⟩
        · rcases List.mem_append.mp hy with hy | hy
          · exact l5.ne y hy
          · rw [List.mem_singleton.mp hy]; exact qD
        · rcases List.mem_append.mp hy with hy | hy
          · obtain ⟨c1, c2, c3⟩ := l5.i.it y hy
            exact ⟨c1, c2, by rw [upd_ne (l5.ne y hy)]; exact c3⟩
          · rw [List.mem_singleton.mp hy]
            exact ⟨q0, b2, by rw [upd_ne qD, b3, ev]; rfl⟩
        · rw [List.map_append, List.nodup_append]
          refine ⟨l5.i.nd, by simp, ?_⟩
          rintro y hy z hz rfl
          obtain ⟨e0, he, rfl⟩ := List.mem_map.mp hy
          rw [List.map_cons, List.map_nil, List.mem_singleton] at hz
          have := (l'.ext e4).i.it e0 he
          rw [show e0.1 = q' from hz, b1] at this
          cases this.2.2
      · rw [take_step hx, ← em]
        unfold datW
        rw [List.map_append]
        rfl
    · have ei : i = rows.length := by omega
      subst ei
      rw [List.take_length] at em
      exact .inl ⟨⟨us, SqL.of (s0 _ _ ha), Nat.le_of_eq hl⟩, q _ G' H' (e2.trans e') ⟨D, es, rfl, l'.back e2.h, em⟩⟩⟩
/-- rows[i][j] = x -/
theorem st_put2 {es : List Rw} {p : Addr} {G1 H1 : Hp} {i j x : Nat} {e : Rw} (l : LocW es H p G1 H1) (s : Same G1 H1) (hx : Ev te σ G1 H1 (isV (.int (x : Int)))) (ho : Ev to σ G1 H1 (isV (.ref p))) (hi : Ev ti σ G1 H1 (isV (.int (i : Int)))) (hj : Ev tj σ G1 H1 (isV (.int (j : Int)))) (he : es[i]? = some e) (hl : j < e.2.length)
    (k : ∀ G2 H2, Ext G1 H1 G2 H2 → LocW (es.set i (e.1, e.2.set j x)) H p G2 (upd H2 e.1 (.lst (intsV (e.2.set j x)))) → D.nx σ (upd H2 e.1 (.lst (intsV (e.2.set j x))))) : tAsg te (gSub (tOp (rIxL K) to ti) tj rSetL) D σ H1 :=
  hx G1 H1 (.refl s) _ fun v G2 H2 e2 hv => ho G2 H2 e2 _ fun o G3 H3 e3 eo => hi G3 H3 (e2.trans e3) _ fun y G4 H4 e4 ey => by
    have eo' : o = .ref p := eo
    have ey' : y = .int (i : Int) := ey
    have ev' : v = .int (x : Int) := hv
    subst eo' ey' ev'
    have E4 := (e2.trans e3).trans e4
    have l4 := l.ext E4
    refine ⟨p, _, i, .ref e.1, rfl, rfl, SqL.of l4.h, atI_nat (by rw [List.getElem?_map, he]; rfl), ?_⟩
    refine hj G4 H4 E4 _ fun z G5 H5 e5 ez => ?_
    have ez' : z = .int (j : Int) := ez
    subst ez'
    have E5 := E4.trans e5
    have l5 := l.ext E5
    have c := (l5.i.it e (List.mem_of_getElem? he)).2.2
    refine ⟨e.1, intsV e.2, j, j, rfl, rfl, c, ixN_nat (by unfold intsV; rw [List.length_map]; exact hl), ?_⟩
    have em : (intsV e.2).set j (.int (x : Int)) = intsV (e.2.set j x) := by unfold intsV; rw [List.map_set]
    rw [em]
    exact k G5 H5 E5 (l5.set he _)
/-- rows[i] = a new list -/
theorem st_putRow {es : List Rw} {p : Addr} {G1 H1 : Hp} {i : Nat} {row : List Nat} (l : LocW es H p G1 H1) (s : Same G1 H1) (h0 : Same H H1) (hx : Ev te σ G1 H1 (isN qN row)) (ho : Ev to σ G1 H1 (isV (.ref p))) (hi : Ev ti σ G1 H1 (isV (.int (i : Int)))) (hl : i < es.length)
    (k : ∀ G2 H2 q o, Ext G1 H1 G2 H2 → LocW (es.set i (q, row)) H p G2 (upd H2 p o) → D.nx σ (upd H2 p o)) : tAsg te (gSub to ti rSetL) D σ H1 :=
  hx G1 H1 (.refl s) _ fun v G2 H2 e2 ⟨q, vs, hv, b1, b2, b3, b4⟩ => ho G2 H2 e2 _ fun o G3 H3 e3 eo => hi G3 H3 (e2.trans e3) _ fun y G4 H4 e4 ey => by
    have eo' : o = .ref p := eo
    have ey' : y = .int (i : Int) := ey
    subst eo' ey' hv
    have ev := qN_list b4
    have E := (e2.trans e3).trans e4
    have l4 := l.ext E
    have c3 := (e3.trans e4).h _ _ b3
    have g4 := (e3.trans e4).out b3 b2
    have qp : q ≠ p := fun z => by subst z; rw [l.h] at b1; cases b1
    have qn : ∀ y ∈ es, y.1 ≠ q := fun y hy z => by
      have := (l.i.it y hy).2.2
      rw [z, b1] at this
      cases this
    refine ⟨p, _, i, i, rfl, rfl, l4.h, ixN_nat (by rw [List.length_map]; exact hl), ?_⟩
    refine k G4 H4 q _ E ⟨l4.h0, l4.g, ?_, fun y hy => ?_, ⟨fun y hy => ?_, ?_⟩⟩
    · rw [upd_same, List.map_set]
    · rcases mem_set hy with rfl | ⟨j, hj, w'⟩
      · exact qp
      · exact l4.ne y (List.mem_of_getElem? w')
    · rcases mem_set hy with rfl | ⟨j, hj, w'⟩
      · exact ⟨none_of h0 b1, g4, by rw [upd_ne qp, c3, ev]; rfl⟩
      · obtain ⟨c1, c2, c4⟩ := l4.i.it y (List.mem_of_getElem? w')
        exact ⟨c1, c2, by rw [upd_ne (l4.ne y (List.mem_of_getElem? w'))]; exact c4⟩
    · unfold List.Nodup
      rw [List.map_set]
      show ((es.map fun e : Rw => e.1).set i q).Nodup
      exact nd_set l4.i.nd fun z => by
        obtain ⟨y, hy, hz⟩ := List.mem_map.mp z
        exact qn y hy hz
where
  nd_set {l : List Addr} {i : Nat} {q : Addr} (h : l.Nodup) (hq : q ∉ l) : (l.set i q).Nodup := by
    induction l generalizing i with
    | nil => simp
    | cons a r ih =>
      rw [List.nodup_cons] at h
      rw [List.mem_cons, not_or] at hq
      cases i with
      | zero => exact List.nodup_cons.mpr ⟨hq.2, h.2⟩
      | succ i =>
        refine List.nodup_cons.mpr ⟨fun z => ?_, ih h.2 hq.2⟩
        rcases List.mem_or_eq_of_mem_set z with z | z
        · exact h.1 z
        · exact hq.1 z.symm
end
abbrev sp_Chain_copied_rows (K : PySem.W.Frag) : Sp := spG (α := Chain) (fun a => [aR (qC K) a]) COk fun a => isW a.weights
abbrev N_Chain_copied_rows : List Str := ["self", "row"]
abbrev P_Chain_copied_rows : List Str := ["self"]
theorem sc_Chain_copied_rows : FnScope N_Chain_copied_rows P_Chain_copied_rows (defScope s_Chain_copied_rows) := ⟨rfl, rfl, rfl, by decide +kernel, rfl, by decide +kernel, by decide +kernel⟩
theorem ok_Chain_copied_rows (T : Tx K mg) : Has P w K mg base 1 (He.ma K (He.ga K "Chain") "copied_rows") P_Chain_copied_rows (sp_Chain_copied_rows K) := by
  have nd := sc_Chain_copied_rows.nd
  refine has_mk T.f_Chain_copied_rows sc_Chain_copied_rows (fun _ => rfl) (fun _ _ _ _ _ _ us hl => match us, hl with | [_], _ => rfl) (fun cdv E outer s H X hr a G vs Q sm ha hok k => ⟨_, (pss_one (ps_ret (pe_lc (own := [("row", 1)]) rfl nd (k_pil K rfl (k_fld K rfl (pv 0))) (blkOk_by (own := [("row", 1)]) (N := N_Chain_copied_rows) (sc := defScope s_Chain_copied_rows) (by decide +kernel)) (fun _ _ _ _ _ => (pg_name (i := 1) nd rfl (.inl rfl))) (fun _ _ _ _ _ => pts_nil) (fun _ _ _ _ _ => (pe_callTy (k_list K rfl) (by rfl) T.z_list (by decide +kernel) (pa_cons (pv 1) pa_nil)))))), ?_⟩)
  obtain ⟨v1, _, rfl, h1, rfl⟩ := ha
  exact st_ret sm (ev_copyW (ev_rows T (ev_vR rfl h1)) (size_small hok) (fun _ => rfl) fun row hr v G' H' e rv => ev_listL (ev_vR rfl rv)) k

/-! the instance -/
def insO (K : PySem.W.Frag) (dx : Addr) (cv : V) : HO := .ins (He.ga K "Instance") dx [("chain", cv)]
theorem Ext.mut {G H G2 H2 : Hp} (e : Ext G H G2 H2) {x : Addr} {o u : HO} (g : G x = none) (h : H x = some u) : Ext G (upd H x o) G2 (upd H2 x o) := by
  have g2 := e.out h g
  refine ⟨e.g, same_both e.h, same_upd2 e.sub g2, fun b hb gb => ?_⟩
  by_cases q : b = x
  · subst q; exact absurd g2 gb
  · rw [upd_ne q] at hb; exact e.old b hb gb
section
variable {σ : L2.St} {G H : Hp} {to te tv : TE} {t : TA} {D : Ends}
theorem ev_chain (T : Tx K mg) {x dx : Addr} {cv : V} (hx : H x = some (insO K dx cv)) (h : Ev to σ G H (isV (.ref x))) : Ev (tFld K to "chain") σ G H (isV cv) := fun G1 H1 e Q q =>
  h G1 H1 e _ fun v G2 H2 e2 hv => ⟨x, _, dx, _, cv, hv, e2.h _ _ (e.h _ _ hx), T.c_Instance, T.n_Instance_chain, rfl, q _ G2 H2 e2 rfl⟩
theorem ev_newChain {E : XK} {c : Chain} (h : EvA t σ G H [aV (.int (kc c)), aR qW c.weights]) : Ev (tMake (He.ga K "Chain") (sp_Chain_init K) [] E t) σ G H (isR (qC K) c) := fun G1 H1 e Q q =>
  h G1 H1 e _ fun us G2 H2 e2 ⟨u, r, hu, h1, r2, r3, hr, h2, h3⟩ x dx hx hdx ne => by
    have eu : u = .int (kc c) := h1
    have e3 : r3 = [] := h3
    subst eu e3 hr hu
    refine ⟨x, dx, .int (kc c), r2, rfl, upd_same, ?_⟩
    have E1 := e2.new (o := .own x) hdx
    have xn : upd H2 dx (.own x) x = none := by rw [upd_ne ne.symm]; exact hx
    have E2 := E1.new (o := .ins (He.ga K "Chain") dx [("is_continuous", .int (kc c)), ("rows", r2)]) xn
    rw [upd_upd, upd_upd]
    refine ⟨rfl, q _ _ _ E2 ⟨x, dx, r2, rfl, upd_same, ?_⟩⟩
    refine Mo.mo (R := qW) ?_ h2
    exact (same_upd (none_of e2.sub hdx)).trans (same_upd (none_of E1.sub xn))
theorem st_setChain (T : Tx K mg) {x dx : Addr} {cv : V} {c : Chain} {G1 H1 : Hp} {i : Nat} (e : Ext G H G1 H1) (gx : G x = none) (hx : H x = some (insO K dx cv)) (hv : Ev tv σ G1 H1 (isR (qC K) c)) (ho : σ[i]? = some (some (.ref x)))
    (k : ∀ cv' G' H', Ext G (upd H x (insO K dx cv')) G' H' → Same G1 G' → qC K G' cv' c → D.nx σ H') : sFld K (tVar i) tv "chain" D σ H1 :=
  hv G1 H1 (.refl e.sub) _ fun y G2 H2 e2 r => ⟨_, ho, x, _, dx, _, rfl, (e.trans e2).h _ _ hx, T.c_Instance, T.n_Instance_chain, by show 1 < 1000; decide, k y G2 _ ((e.trans e2).mut gx hx) e2.g r⟩
end
/-- what an operation that changes the instance promises -/
def spC (K : PySem.W.Frag) {α : Type} (A : α → List Arg) (ok : α → Prop) (st : α → Option Chain) (call : α → Lrx1.Call) : Sp := fun vs H Q _ =>
  ∃ G a x dx cv rest, vs = .ref x :: rest ∧ Same G H ∧ G x = none ∧ H x = some (insO K dx cv) ∧ qO (qC K) G cv (st a) ∧ Args (A a) G rest ∧ ok a ∧
    ∀ v cv' G' H', Ext G (upd H x (insO K dx cv')) G' H' → qO (qC K) G' cv' (Lrx1.step (st a) (call a)).1 → qL qI G' v (toL (Lrx1.step (st a) (call a)).2) → Q v H'
theorem spC_len {α : Type} {A : α → List Arg} {ok : α → Prop} {st : α → Option Chain} {call : α → Lrx1.Call} {n : Nat} (hA : ∀ a, (A a).length = n) {vs H Q X} (h : spC K A ok st call vs H Q X) : vs.length = n + 1 := by
  obtain ⟨G, a, x, dx, cv, rest, rfl, _, _, _, _, h1, _⟩ := h
  rw [List.length_cons, args_len h1, hA]
theorem same_ins {G H G' H' : Hp} {x dx : Addr} {cv : V} (hx : H x = some (insO K dx cv)) (e : Ext G H G' H') : Ext G (upd H x (insO K dx cv)) G' H' := by rw [upd_self hx]; exact e
theorem kc_of {b : Bool} {w : List (List Nat)} : kc ⟨b, w⟩ = if b = true then 1 else 0 := rfl

theorem st_create (st : Option Chain) (ic n : Nat) : Lrx1.step st (.create ic n) = if 1 < ic ∨ n = 0 ∨ Lrx1.maxStates < n then (st, Lrx1.error (-22)) else (some ⟨ic == 1, List.replicate n (List.replicate n 0)⟩, Lrx1.number 0) := by cases st <;> rfl
abbrev sp_create (K : PySem.W.Frag) : Sp := spC K (α := Option Chain × Nat × Nat) (fun a => [aV (.int (a.2.1 : Int)), aV (.int (a.2.2 : Int))]) (fun _ => True) (fun a => a.1) fun a => .create a.2.1 a.2.2
theorem sp_create_len (K : PySem.W.Frag) {vs H Q X} (h : sp_create K vs H Q X) : vs.length = 3 := spC_len (n := 2) (fun _ => rfl) h
abbrev N_create : List Str := ["instance", "is_continuous", "count", "state"]
abbrev P_create : List Str := ["instance", "is_continuous", "count"]
theorem sc_create : FnScope N_create P_create (defScope s_create) := ⟨rfl, rfl, rfl, by decide +kernel, rfl, by decide +kernel, by decide +kernel⟩
theorem ok_create (T : Tx K mg) : Has P w K mg base 3 (He.ga K "create") P_create (sp_create K) := by
  obtain ⟨⟨_, F_Chain_init, b_Chain_init⟩, kp_Chain_init⟩ := ok_Chain_init (P := P) (w := w) (base := base) T
  obtain ⟨⟨_, F_out_of_range, b_out_of_range⟩, kp_out_of_range⟩ := ok_out_of_range (P := P) (w := w) (base := base) T
  obtain ⟨_, h_GREATEST_COUNT⟩ := T.i_GREATEST_COUNT
  have nd := sc_create.nd
  refine has_sp T.f_create sc_create (fun vs H Q X h => sp_create_len K h) (fun _ _ _ _ _ _ us hl => match us, hl with | [_, _, _], _ => rfl) (fun cdv E outer s H X hr vs Q ha => ⟨_, (pss_cons (ps_if (PW.pt (pw_or (pt_cmpR op_gt (pv 1) pe_int (by rfl)) (pw_or (pt_cmpR op_lt (pv 2) pe_int (by rfl)) (pw_or1 (pt_cmpR op_gt (pv 2) (pe_glob (v := .int 8) (by rfl) h_GREATEST_COUNT ⟨_, rfl⟩) (by rfl)))))) (pss_one (ps_ret (pe_call0 F_out_of_range (hr.mono (by decide)) (by rfl) T.g_out_of_range kp_out_of_range b_out_of_range .nil pass0))) pss_nil)
      (pss_cons (ps_fld (pv 0) (pe_make T.m_Chain F_Chain_init (hr.mono (by decide)) (by rfl) T.g_Chain b_Chain_init .nil pass0 (pa_cons (pv 1) (pa_cons (pe_lc (own := [("state", 3)]) rfl nd (pi_range1 (by rfl) T.z_range (pa_cons (pv 2) pa_nil)) (blkOk_by (own := [("state", 3)]) (N := N_create) (sc := defScope s_create) (by decide +kernel)) (fun _ _ _ _ _ => (pg_name (i := 3) nd rfl (.inl rfl))) (fun _ _ _ _ _ => pts_nil) (fun _ _ _ _ _ => (pe_op op_rep (pe_lst (pa_cons pe_int pa_nil)) (pv 2)))) pa_nil))) rfl)
      (pss_one (ps_ret (pe_lst (pa_cons pe_int pa_nil)))))), ?_⟩)
  obtain ⟨G, a, x, dx, cv, rest, rfl, sm, gx, hx, hc, ⟨_, _, rfl, rfl, _, _, rfl, rfl, rfl⟩, hok, k⟩ := ha
  obtain ⟨st, ic, n⟩ := a
  dsimp only at hc k
  rw [st_create] at k
  refine sq_ifN sm (et_or (et_test (ev_I0 (ev_var rfl) ev_c)) fun _ => et_or (et_test (ev_I0 (ev_var rfl) ev_c)) fun _ => et_test (ev_I0 (ev_var rfl) ev_c)) (fun b G2 H2 e2 => ?_) fun b G2 H2 e2 => ?_
  · have b' : 1 < ic ∨ n = 0 ∨ Lrx1.maxStates < n := by
      rw [Bool.or_eq_true, Bool.or_eq_true] at b
      rcases b with b | b | b
      · have : (ic : Int) > 1 := of_decide_eq_true b
        exact .inl (by omega)
      · have : (n : Int) < 1 := of_decide_eq_true b
        exact .inr (.inl (by omega))
      · have : (n : Int) > 8 := of_decide_eq_true b
        refine .inr (.inr ?_)
        show 8 < n
        omega
    rw [if_pos b'] at k
    exact st_ret e2.sub (ev_call () ea_nil trivial) fun v G3 H3 e3 p => k v cv G3 H3 (same_ins hx (e2.trans e3)) (Mo.mo (e2.trans e3).g hc) p
  · have b' : ic ≤ 1 ∧ 1 ≤ n ∧ n ≤ 8 := by
      rw [Bool.or_eq_false_iff, Bool.or_eq_false_iff] at b
      obtain ⟨b1, b2, b3⟩ := b
      have b1 : ¬ (ic : Int) > 1 := of_decide_eq_false b1
      have b2 : ¬ (n : Int) < 1 := of_decide_eq_false b2
      have b3 : ¬ (n : Int) > 8 := of_decide_eq_false b3
      omega
    have bn : ¬ (1 < ic ∨ n = 0 ∨ Lrx1.maxStates < n) := by
      rintro (z | z | z)
      · omega
      · omega
      · have : 8 < n := z
        omega
    rw [if_neg bn] at k
    let c : Chain := ⟨ic == 1, List.replicate n (List.replicate n 0)⟩
    have ek : (ic : Int) = kc c := by
      show _ = if (ic == 1) = true then 1 else 0
      by_cases q : ic = 1
      · subst q; rfl
      · have : ic = 0 := by omega
        subst this; rfl
    refine sq (st_setChain T (c := c) e2 gx hx (ev_newChain (ea_V (ev_V (ev_var rfl) (by rw [ek])) (ea_R (ev_a (ev_NL (ev_mapR (n := n) (R := qL qN) (f := fun _ => List.replicate n 0) (ea_V (ev_var rfl) ea_nil) (by omega) (fun _ => rfl) fun i hi G' H' e => ev_a (ev_NL (ev_rep (R := qN) (xs := [0]) (n := n) (ev_lst1 (R := qN) (ev_toR ev_c fun _ => rfl)) (ev_var rfl) (by simp; omega) (by omega))) (by rw [rep_flat]))) (by rw [List.map_const', List.length_range])) ea_nil))) rfl fun cv' G3 H3 e3 s3 r3 => ?_)
    dsimp only
    exact st_ret e3.sub (ev_NL (ev_lst1 (R := qI) (ev_Z ev_c))) fun v G4 H4 e4 p => k v cv' G4 H4 (e3.trans e4) (Mo.mo (R := qC K) e4.g r3) p
def wtB (c : Chain) (i j x : Nat) : Bool := if c.isContinuous = true ∧ i = j then decide (x = 0) else decide (x ≤ 1000000)
abbrev sp_is_weight (K : PySem.W.Frag) : Sp := spG (α := Chain × Nat × Nat × Nat) (fun a => [aR (qC K) a.1, aV (.int (a.2.1 : Int)), aV (.int (a.2.2.1 : Int)), aV (.int (a.2.2.2 : Int))]) (fun _ => True) fun a => isV (.bl (wtB a.1 a.2.1 a.2.2.1 a.2.2.2))
abbrev N_is_weight : List Str := ["chain", "i", "j", "weight"]
abbrev P_is_weight : List Str := ["chain", "i", "j", "weight"]
theorem sc_is_weight : FnScope N_is_weight P_is_weight (defScope s_is_weight) := ⟨rfl, rfl, rfl, by decide +kernel, rfl, by decide +kernel, by decide +kernel⟩
theorem ok_is_weight (T : Tx K mg) : Has P w K mg base 1 (He.ga K "is_weight") P_is_weight (sp_is_weight K) := by
  obtain ⟨_, h_GREATEST_WEIGHT⟩ := T.i_GREATEST_WEIGHT
  have nd := sc_is_weight.nd
  refine has_mk T.f_is_weight sc_is_weight (fun _ => rfl) (fun _ _ _ _ _ _ us hl => match us, hl with | [_, _, _, _], _ => rfl) (fun cdv E outer s H X hr a G vs Q sm ha hok k => ⟨_, (pss_cons (ps_if (PW.pt (pw_and (pt_cmpR op_eq (k_fld K rfl (pv 0)) pe_int (by rfl)) (pw_and1 (pt_cmpR op_eq (pv 1) (pv 2) (by rfl))))) (pss_one (ps_ret (pe_cmpR op_eq (pv 3) pe_int (by rfl)))) pss_nil)
      (pss_one (ps_ret (pe_cmpR op_le (pv 3) (pe_glob (v := .int 1000000) (by rfl) h_GREATEST_WEIGHT ⟨_, rfl⟩) (by rfl))))), ?_⟩)
  obtain ⟨v1, _, rfl, h1, _, _, rfl, rfl, _, _, rfl, rfl, _, _, rfl, rfl, rfl⟩ := ha
  obtain ⟨c, i, j, x⟩ := a
  dsimp only at h1 k ⊢
  refine sq_ifN sm (et_and (ev_kind1 T (ev_vR rfl h1)) fun _ => et_is (et_test (ev_eq (ev_var rfl) (ev_var rfl) rfl)) (dec_int_nat i j)) (fun b G2 H2 e2 => ?_) fun b G2 H2 e2 => ?_
  · have b' : c.isContinuous = true ∧ i = j := by simpa using b
    refine st_ret e2.sub (ev_eq (ev_var rfl) ev_c rfl) fun v G3 H3 e3 p => k v G3 H3 (e2.trans e3) ?_
    rw [show v = _ from p]
    unfold wtB
    rw [if_pos b', show decide (V.int (x : Int) = V.int 0) = decide (x = 0) from dec_int_nat x 0]
    rfl
  · have b' : ¬ (c.isContinuous = true ∧ i = j) := by
      rintro ⟨z1, z2⟩
      rw [z1, decide_eq_true z2] at b
      exact absurd b (by decide)
    refine st_ret e2.sub (ev_I0 (ev_var rfl) ev_c) fun v G3 H3 e3 p => k v G3 H3 (e2.trans e3) ?_
    rw [show v = V.bl (decide ((x : Int) ≤ 1000000)) from p]
    unfold wtB
    rw [if_neg b', show decide ((x : Int) ≤ 1000000) = decide (x ≤ 1000000) from decide_eq_decide.mpr ⟨fun h => by omega, fun h => by omega⟩]
    rfl
theorem wt_is (c : Chain) (i j x : Nat) : wtB c i j x = false ↔ Lrx1.maxWeight < x ∨ (c.isContinuous = true ∧ i = j ∧ 0 < x) := by
  have e : Lrx1.maxWeight = 1000000 := rfl
  rw [e]
  unfold wtB
  by_cases q : c.isContinuous = true ∧ i = j
  · rw [if_pos q, decide_eq_false_iff_not]
    constructor
    · intro h; exact .inr ⟨q.1, q.2, by omega⟩
    · rintro (h | ⟨_, _, h⟩) <;> omega
  · rw [if_neg q, decide_eq_false_iff_not]
    constructor
    · intro h; exact .inl (by omega)
    · rintro (h | ⟨h1, h2, _⟩)
      · omega
      · exact absurd ⟨h1, h2⟩ q
theorem st_setW (c : Chain) (i j x : Nat) : Lrx1.step (some c) (.setWeight i j x) = if isState c i = false ∨ isState c j = false then (some c, Lrx1.error (-2)) else if Lrx1.maxWeight < x ∨ (c.isContinuous = true ∧ i = j ∧ 0 < x) then (some c, Lrx1.error (-22)) else (some { c with weights := c.weights.set i ((c.weights.getD i []).set j x) }, Lrx1.number (weight c i j : Nat)) := rfl
abbrev ChA (α : Type) : Type := Chain × α
theorem dat_at {es : List Rw} {c : Chain} (h : datW es = c.weights) {i : Nat} (hi : i < size c) : ∃ e, es[i]? = some e ∧ e.2 = c.weights.getD i [] := by
  have hl : es.length = size c := by
    have := congrArg List.length h
    simp [datW] at this
    exact this
  refine ⟨es[i]'(by omega), List.getElem?_eq_getElem (by omega), ?_⟩
  rw [← h, List.getD_eq_getElem?_getD]
  unfold datW
  rw [List.getElem?_map, List.getElem?_eq_getElem (by omega)]
  rfl
theorem dat_set (es : List Rw) (i : Nat) (e : Rw) : datW (es.set i e) = (datW es).set i e.2 := by unfold datW; rw [List.map_set]
abbrev sp_set_weight (K : PySem.W.Frag) : Sp := spC K (α := Chain × Nat × Nat × Nat) (fun a => [aV (.int (a.2.1 : Int)), aV (.int (a.2.2.1 : Int)), aV (.int (a.2.2.2 : Int))]) (fun a => COk a.1) (fun a => some a.1) fun a => .setWeight a.2.1 a.2.2.1 a.2.2.2
theorem sp_set_weight_len (K : PySem.W.Frag) {vs H Q X} (h : sp_set_weight K vs H Q X) : vs.length = 4 := spC_len (n := 3) (fun _ => rfl) h
abbrev N_set_weight : List Str := ["instance", "i", "j", "weight", "chain", "old_weight", "rows"]
abbrev P_set_weight : List Str := ["instance", "i", "j", "weight"]
theorem sc_set_weight : FnScope N_set_weight P_set_weight (defScope s_set_weight) := ⟨rfl, rfl, rfl, by decide +kernel, rfl, by decide +kernel, by decide +kernel⟩
theorem ok_set_weight (T : Tx K mg) : Has P w K mg base 3 (He.ga K "set_weight") P_set_weight (sp_set_weight K) := by
  obtain ⟨⟨_, F_Chain_copied_rows, b_Chain_copied_rows⟩, kp_Chain_copied_rows⟩ := ok_Chain_copied_rows (P := P) (w := w) (base := base) T
  obtain ⟨⟨_, F_Chain_has_state, b_Chain_has_state⟩, kp_Chain_has_state⟩ := ok_Chain_has_state (P := P) (w := w) (base := base) T
  obtain ⟨⟨_, F_Chain_init, b_Chain_init⟩, kp_Chain_init⟩ := ok_Chain_init (P := P) (w := w) (base := base) T
  obtain ⟨⟨_, F_is_weight, b_is_weight⟩, kp_is_weight⟩ := ok_is_weight (P := P) (w := w) (base := base) T
  obtain ⟨⟨_, F_no_such_state, b_no_such_state⟩, kp_no_such_state⟩ := ok_no_such_state (P := P) (w := w) (base := base) T
  obtain ⟨⟨_, F_out_of_range, b_out_of_range⟩, kp_out_of_range⟩ := ok_out_of_range (P := P) (w := w) (base := base) T
  have nd := sc_set_weight.nd
  refine has_sp T.f_set_weight sc_set_weight (fun vs H Q X h => sp_set_weight_len K h) (fun _ _ _ _ _ _ us hl => match us, hl with | [_, _, _, _], _ => rfl) (fun cdv E outer s H X hr vs Q ha => ⟨_, (pss_cons (ps_set (i := 4) nd rfl (.inl rfl) (k_fld K rfl (pv 0)))
      (pss_cons (ps_if (PW.pt (pw_or (pt_not (pt_val (pe_meth (pv 4) T.c_Chain T.h_Chain_has_state F_Chain_has_state (hr.mono (by decide)) b_Chain_has_state .nil pass0 (pa_cons (pv 1) pa_nil)))) (pw_or1 (pt_not (pt_val (pe_meth (pv 4) T.c_Chain T.h_Chain_has_state F_Chain_has_state (hr.mono (by decide)) b_Chain_has_state .nil pass0 (pa_cons (pv 2) pa_nil))))))) (pss_one (ps_ret (pe_call0 F_no_such_state (hr.mono (by decide)) (by rfl) T.g_no_such_state kp_no_such_state b_no_such_state .nil pass0))) pss_nil)
      (pss_cons (ps_if (pt_not (pt_val (pe_call F_is_weight (hr.mono (by decide)) (by rfl) T.g_is_weight kp_is_weight b_is_weight .nil pass0 (pa_cons (pv 4) (pa_cons (pv 1) (pa_cons (pv 2) (pa_cons (pv 3) pa_nil))))))) (pss_one (ps_ret (pe_call0 F_out_of_range (hr.mono (by decide)) (by rfl) T.g_out_of_range kp_out_of_range b_out_of_range .nil pass0))) pss_nil)
      (pss_cons (ps_set (i := 5) nd rfl (.inl rfl) (pe_ix (k_ixl K rfl) (pe_ix (k_ixl K rfl) (k_fld K rfl (pv 4)) (pv 1) (fun _ _ => rfl)) (pv 2) (fun _ _ => rfl)))
      (pss_cons (ps_set (i := 6) nd rfl (.inl rfl) (pe_meth0 (pv 4) T.c_Chain T.h_Chain_copied_rows F_Chain_copied_rows (hr.mono (by decide)) b_Chain_copied_rows .nil pass0))
      (pss_cons (ps_asg (pv 3) (pg_sub (pe_ix (k_ixl K rfl) (pv 6) (pv 1) (fun _ _ => rfl)) (pv 2) set_list))
      (pss_cons (ps_fld (pv 0) (pe_make T.m_Chain F_Chain_init (hr.mono (by decide)) (by rfl) T.g_Chain b_Chain_init .nil pass0 (pa_cons (k_fld K rfl (pv 4)) (pa_cons (pv 6) pa_nil))) rfl)
      (pss_one (ps_ret (pe_lst (pa_cons (pv 5) pa_nil))))))))))), ?_⟩)
  obtain ⟨G, a, x, dx, cv, rest, rfl, sm, gx, hx, hc, ⟨_, _, rfl, rfl, _, _, rfl, rfl, _, _, rfl, rfl, rfl⟩, hok, k⟩ := ha
  obtain ⟨c, i, j, y⟩ := a
  have ok : COk c := hok
  have h1 : qC K G cv c := hc
  dsimp only at k
  rw [st_setW] at k
  refine sq_set sm (ev_chain T hx (ev_var rfl)) fun v G1 H1 e1 p => ?_
  have ev : v = cv := p
  subst ev
  have q1 := Mo.mo (R := qC K) e1.g h1
  refine sq_ifN e1.sub (et_or (et_state (c := c) (i := i) (ev_meth (c, i) (ev_vR rfl q1) (ea_V (ev_var rfl) ea_nil) rfl trivial)) fun _ => et_state (c := c) (i := j) (ev_meth (c, j) (ev_vR rfl q1) (ea_V (ev_var rfl) ea_nil) rfl trivial)) (fun b G2 H2 e2 => ?_) fun b G2 H2 e2 => ?_
  · rw [if_pos (state_or1 b)] at k
    exact st_ret e2.sub (ev_call () ea_nil trivial) fun v G3 H3 e3 p => k v _ G3 H3 (same_ins hx ((e1.trans e2).trans e3)) (Mo.mo (R := qC K) (e2.trans e3).g q1) p
  · obtain ⟨⟨hi, hj⟩, b'⟩ := state_or0 b
    rw [if_neg b'] at k
    have e12 := e1.trans e2
    have q2 := Mo.mo (R := qC K) e2.g q1
    refine sq_ifN e2.sub (et_not (et_B (ev_call (c, i, j, y) (ea_R (ev_vR rfl q2) (ea_V (ev_var rfl) (ea_V (ev_var rfl) (ea_V (ev_var rfl) ea_nil)))) trivial))) (fun d G3 H3 e3 => ?_) fun d G3 H3 e3 => ?_
    · have d' : wtB c i j y = false := by simpa using d
      rw [if_pos ((wt_is c i j y).mp d')] at k
      exact st_ret e3.sub (ev_call () ea_nil trivial) fun v G4 H4 e4 p => k v _ G4 H4 (same_ins hx ((e12.trans e3).trans e4)) (Mo.mo (R := qC K) (e3.trans e4).g q2) p
    · have d' : wtB c i j y = true := by simpa using d
      rw [if_neg (fun z => by rw [(wt_is c i j y).mpr z] at d'; cases d')] at k
      have e13 := e12.trans e3
      have q3 := Mo.mo (R := qC K) e3.g q2
      refine sq_set e3.sub (ev_ixL (ev_ixL (ev_rows T (ev_vR rfl q3)) (ev_var rfl) (weights_at hi)) (ev_var rfl) (row_at ok hi hj)) fun v G4 H4 e4 p4 => ?_
      have ev : v = .int (weight c i j : Int) := p4
      subst ev
      have q4 := Mo.mo (R := qC K) e4.g q3
      refine sq_set e4.sub (ev_meth c (ev_vR rfl q4) ea_nil rfl ok) fun v G5 H5 e5 p5 => ?_
      obtain ⟨p, es, rfl, l5, de⟩ := p5
      have e15 := (e13.trans e4).trans e5
      have l5 := l5.back (e13.trans e4).h
      obtain ⟨e, he, ee⟩ := dat_at de hi
      refine sq (st_put2 l5 e5.sub (ev_var rfl) (ev_var rfl) (ev_var rfl) (ev_var rfl) he (by rw [ee, ok.row i hi]; exact hj) fun G6 H6 e6 l6 => ?_)
      have E6 := LocI.up (e15.trans e6) (l5.ext e6).i (List.mem_of_getElem? he) (.lst (intsV (e.2.set j y)))
      obtain ⟨G7, s7, E7, q7⟩ := frzW E6 l6
      rw [dat_set, de, ee] at q7
      have q47 := Mo.mo (R := qC K) ((e5.trans e6).g.trans s7) q4
      refine sq (st_setChain T (c := { c with weights := c.weights.set i ((c.weights.getD i []).set j y) }) E7 gx hx (ev_newChain (ea_V (ev_V (ev_kind (c := c) T (ev_vR rfl q47)) rfl) (ea_R (ev_vR rfl q7) ea_nil))) rfl fun cv' G8 H8 e8 s8 r8 => ?_)
      exact st_ret e8.sub (ev_NL (ev_lst1 (R := qI) (ev_Z (ev_var rfl)))) fun v G9 H9 e9 p => k v cv' G9 H9 (e8.trans e9) (Mo.mo (R := qC K) e9.g r8) p
def rowB (c : Chain) (i : Nat) (ws : List Nat) : Bool := decide (ws.length = size c) && (ws.zipIdx.all fun p => wtB c i p.2 p.1)
abbrev sp_is_row (K : PySem.W.Frag) : Sp := spG (α := Chain × Nat × List Nat) (fun a => [aR (qC K) a.1, aV (.int (a.2.1 : Int)), aR (qL qN) a.2.2]) (fun a => COk a.1) fun a => isV (.bl (rowB a.1 a.2.1 a.2.2))
abbrev N_is_row : List Str := ["chain", "i", "weights", "j", "weight"]
abbrev P_is_row : List Str := ["chain", "i", "weights"]
theorem sc_is_row : FnScope N_is_row P_is_row (defScope s_is_row) := ⟨rfl, rfl, rfl, by decide +kernel, rfl, by decide +kernel, by decide +kernel⟩
theorem ok_is_row (T : Tx K mg) : Has P w K mg base 2 (He.ga K "is_row") P_is_row (sp_is_row K) := by
  obtain ⟨⟨_, F_Chain_state_count, b_Chain_state_count⟩, kp_Chain_state_count⟩ := ok_Chain_state_count (P := P) (w := w) (base := base) T
  obtain ⟨⟨_, F_is_weight, b_is_weight⟩, kp_is_weight⟩ := ok_is_weight (P := P) (w := w) (base := base) T
  have nd := sc_is_row.nd
  refine has_mk T.f_is_row sc_is_row (fun _ => rfl) (fun _ _ _ _ _ _ us hl => match us, hl with | [_, _, _], _ => rfl) (fun cdv E outer s H X hr a G vs Q sm ha hok k => ⟨_, (pss_cons (ps_if (pt_cmpR op_ne (pe_callB (k_len K rfl) (by rfl) T.z_len PySem.boot_len (pa_cons (pv 2) pa_nil)) (pe_meth0 (pv 0) T.c_Chain T.h_Chain_state_count F_Chain_state_count (hr.mono (by decide)) b_Chain_state_count .nil pass0) (by rfl)) (pss_one (ps_ret pe_bl)) pss_nil)
      (pss_one (ps_ret (pe_callB (k_all K rfl rfl) (by rfl) T.z_all (by decide +kernel) (pa_cons (pe_lc (own := [("j", 3), ("weight", 4)]) rfl nd (k_pie K rfl (by rfl) T.z_enumerate (pa_cons (pv 2) pa_nil)) (blkOk_by (own := [("j", 3), ("weight", 4)]) (N := N_is_row) (sc := defScope s_is_row) (by decide +kernel)) (fun _ _ _ _ _ => (k_pgt K rfl (n := 2) rfl (pgs_cons (pg_name (i := 3) nd rfl (.inl rfl)) (pgs_cons (pg_name (i := 4) nd rfl (.inl rfl)) pgs_nil)))) (fun _ _ _ _ _ => pts_nil) (fun _ _ _ _ _ => (pe_call F_is_weight (hr.mono (by decide)) (by rfl) T.g_is_weight kp_is_weight b_is_weight .nil pass0 (pa_cons (pv 0) (pa_cons (pv 1) (pa_cons (pv 3) (pa_cons (pv 4) pa_nil))))))) pa_nil))))), ?_⟩)
  obtain ⟨v1, _, rfl, h1, _, _, rfl, rfl, v3, _, rfl, h3, rfl⟩ := ha
  obtain ⟨c, i, ws⟩ := a
  have ok : COk c := hok
  dsimp only at h1 h3 k ⊢
  have s8 := ok.le
  refine sq_ifN sm (et_is (et_test (ev_ne (ev_lenL (ev_vR rfl h3)) (ev_meth c (ev_vR rfl h1) ea_nil rfl trivial) rfl)) (show _ = !decide (ws.length = size c) from by rw [dec_int_nat])) (fun b G2 H2 e2 => ?_) fun b G2 H2 e2 => ?_
  · have b' : ¬ ws.length = size c := by simpa using b
    refine st_ret e2.sub ev_c fun v G3 H3 e3 p => k v G3 H3 (e2.trans e3) ?_
    rw [show v = V.bl false from p]
    unfold rowB
    rw [decide_eq_false b', Bool.false_and]
    rfl
  · have b' : ws.length = size c := by simpa using b
    refine st_ret e2.sub (ev_V (ev_all (ev_NL (ev_mapE (K := K) (R := qB) (S := qN) (xs := ws) (f := fun p => wtB c i p.2 p.1) (ea_R (ev_vR rfl (Mo.mo e2.g h3)) ea_nil) (by omega) (fun _ _ => rfl) fun x y hy v G' H' e rv => ?_))) ?_) fun v G3 H3 e3 p => k v G3 H3 (e2.trans e3) p
    · have ev : v = .int (x : Int) := rv
      subst ev
      exact ev_Y (ev_call (c, i, y, x) (ea_R (ev_vR rfl (Mo.mo (e2.trans e).g h1)) (ea_V (ev_var rfl) (ea_V (ev_var rfl) (ea_V (ev_var rfl) ea_nil)))) trivial)
    · unfold rowB
      rw [decide_eq_true b', Bool.true_and, List.all_map]
      rfl
theorem row_is {c : Chain} {i : Nat} (hi : i < size c) (ws : List Nat) : rowB c i ws = false ↔ ws.length ≠ size c ∨ (ws.all fun w => decide (w ≤ Lrx1.maxWeight)) = false ∨ (c.isContinuous = true ∧ ws.getD i 0 ≠ 0) := by
  have em : Lrx1.maxWeight = 1000000 := rfl
  rw [em]
  constructor
  · intro h
    refine Classical.byContradiction fun z => ?_
    rw [not_or, not_or] at z
    obtain ⟨z1, z2, z3⟩ := z
    have z1 : ws.length = size c := Classical.byContradiction z1
    have z2 : (ws.all fun w => decide (w ≤ 1000000)) = true := by simpa using z2
    have : rowB c i ws = true := by
      unfold rowB
      rw [decide_eq_true z1, Bool.true_and, List.all_eq_true]
      rintro ⟨x, j⟩ hx
      have hx := List.mem_zipIdx_iff_getElem?.mp hx
      have hx : ws[j]? = some x := by simpa using hx
      refine Classical.byContradiction fun q => ?_
      have q : wtB c i j x = false := by simpa using q
      rcases (wt_is c i j x).mp q with q | ⟨q1, q2, q3⟩
      · have := of_decide_eq_true (List.all_eq_true.mp z2 x (List.mem_of_getElem? hx))
        rw [em] at q
        omega
      · subst q2
        refine z3 ⟨q1, ?_⟩
        rw [getD_at hx]
        omega
    rw [this] at h
    cases h
  · intro h
    refine Bool.eq_false_iff.mpr fun z => ?_
    unfold rowB at z
    rw [Bool.and_eq_true, List.all_eq_true] at z
    obtain ⟨z1, z2⟩ := z
    have z1 := of_decide_eq_true z1
    have at' : ∀ j x, ws[j]? = some x → wtB c i j x = true := fun j x hx => z2 (x, j) (List.mem_zipIdx_iff_getElem?.mpr (by simpa using hx))
    rcases h with h | h | ⟨h1, h2⟩
    · exact h z1
    · have : (ws.all fun w => decide (w ≤ 1000000)) = true := by
        rw [List.all_eq_true]
        intro x hx
        obtain ⟨j, hj⟩ := List.mem_iff_getElem?.mp hx
        refine decide_eq_true (Classical.byContradiction fun q => ?_)
        have := (wt_is c i j x).mpr (.inl (by rw [em]; omega))
        rw [at' j x hj] at this
        cases this
      rw [this] at h
      cases h
    · have hj : ws[i]? = some (ws.getD i 0) := at_getD 0 (by omega)
      have := (wt_is c i i (ws.getD i 0)).mpr (.inr ⟨h1, rfl, by omega⟩)
      rw [at' i _ hj] at this
      cases this
theorem st_setRow (c : Chain) (i : Nat) (ws : List Nat) : Lrx1.step (some c) (.setRow i ws) = if isState c i = false then (some c, Lrx1.error (-2)) else if ws.length ≠ size c ∨ (ws.all fun w => decide (w ≤ Lrx1.maxWeight)) = false ∨ (c.isContinuous = true ∧ ws.getD i 0 ≠ 0) then (some c, Lrx1.error (-22)) else (some { c with weights := c.weights.set i ws }, Lrx1.number (rowSum { c with weights := c.weights.set i ws } i : Nat)) := rfl
theorem cok_setRow {c : Chain} (ok : COk c) {i : Nat} (hi : i < size c) {ws : List Nat} (h : rowB c i ws = true) : COk { c with weights := c.weights.set i ws } := by
  have hr : ¬ (ws.length ≠ size c ∨ (ws.all fun w => decide (w ≤ Lrx1.maxWeight)) = false ∨ (c.isContinuous = true ∧ ws.getD i 0 ≠ 0)) := fun z => by rw [(row_is hi ws).mpr z] at h; cases h
  rw [not_or, not_or] at hr
  obtain ⟨z1, z2, z3⟩ := hr
  have z1 : ws.length = size c := Classical.byContradiction z1
  have z2 : ∀ x ∈ ws, x ≤ 1000000 := by
    have z2 : (ws.all fun w => decide (w ≤ Lrx1.maxWeight)) = true := by simpa using z2
    exact fun x hx => of_decide_eq_true (List.all_eq_true.mp z2 x hx)
  have sz : size { c with weights := c.weights.set i ws } = size c := by simp [size]
  have gd : ∀ a, ({ c with weights := c.weights.set i ws } : Chain).weights.getD a [] = if a = i then ws else c.weights.getD a [] := fun a => EC.getD_set hi
  refine ⟨by rw [sz]; exact ok.pos, by rw [sz]; exact ok.le, fun a ha => ?_, fun a b => ?_, fun hc a => ?_⟩
  · rw [sz] at ha ⊢
    rw [gd]
    split
    · exact z1
    · exact ok.row a ha
  · unfold weight
    rw [gd]
    split
    · rw [List.getD_eq_getElem?_getD]
      cases q : ws[b]? with
      | none => simp
      | some x => exact z2 x (List.mem_of_getElem? q)
    · exact ok.low a b
  · have hc : c.isContinuous = true := hc
    unfold weight
    rw [gd]
    split
    · rename_i q
      subst q
      exact Classical.byContradiction fun q => z3 ⟨hc, q⟩
    · exact ok.diag hc a
abbrev sp_set_row (K : PySem.W.Frag) : Sp := spC K (α := Chain × Nat × List Nat) (fun a => [aV (.int (a.2.1 : Int)), aR (qL qN) a.2.2]) (fun a => COk a.1) (fun a => some a.1) fun a => .setRow a.2.1 a.2.2
theorem sp_set_row_len (K : PySem.W.Frag) {vs H Q X} (h : sp_set_row K vs H Q X) : vs.length = 3 := spC_len (n := 2) (fun _ => rfl) h
abbrev N_set_row : List Str := ["instance", "i", "weights", "chain", "rows"]
abbrev P_set_row : List Str := ["instance", "i", "weights"]
theorem sc_set_row : FnScope N_set_row P_set_row (defScope s_set_row) := ⟨rfl, rfl, rfl, by decide +kernel, rfl, by decide +kernel, by decide +kernel⟩
theorem ok_set_row (T : Tx K mg) : Has P w K mg base 3 (He.ga K "set_row") P_set_row (sp_set_row K) := by
  obtain ⟨⟨_, F_Chain_copied_rows, b_Chain_copied_rows⟩, kp_Chain_copied_rows⟩ := ok_Chain_copied_rows (P := P) (w := w) (base := base) T
  obtain ⟨⟨_, F_Chain_has_state, b_Chain_has_state⟩, kp_Chain_has_state⟩ := ok_Chain_has_state (P := P) (w := w) (base := base) T
  obtain ⟨⟨_, F_Chain_init, b_Chain_init⟩, kp_Chain_init⟩ := ok_Chain_init (P := P) (w := w) (base := base) T
  obtain ⟨⟨_, F_is_row, b_is_row⟩, kp_is_row⟩ := ok_is_row (P := P) (w := w) (base := base) T
  obtain ⟨⟨_, F_no_such_state, b_no_such_state⟩, kp_no_such_state⟩ := ok_no_such_state (P := P) (w := w) (base := base) T
  obtain ⟨⟨_, F_out_of_range, b_out_of_range⟩, kp_out_of_range⟩ := ok_out_of_range (P := P) (w := w) (base := base) T
  have nd := sc_set_row.nd
  refine has_sp T.f_set_row sc_set_row (fun vs H Q X h => sp_set_row_len K h) (fun _ _ _ _ _ _ us hl => match us, hl with | [_, _, _], _ => rfl) (fun cdv E outer s H X hr vs Q ha => ⟨_, (pss_cons (ps_set (i := 3) nd rfl (.inl rfl) (k_fld K rfl (pv 0)))
      (pss_cons (ps_if (pt_not (pt_val (pe_meth (pv 3) T.c_Chain T.h_Chain_has_state F_Chain_has_state (hr.mono (by decide)) b_Chain_has_state .nil pass0 (pa_cons (pv 1) pa_nil)))) (pss_one (ps_ret (pe_call0 F_no_such_state (hr.mono (by decide)) (by rfl) T.g_no_such_state kp_no_such_state b_no_such_state .nil pass0))) pss_nil)
      (pss_cons (ps_if (pt_not (pt_val (pe_call F_is_row (hr.mono (by decide)) (by rfl) T.g_is_row kp_is_row b_is_row .nil pass0 (pa_cons (pv 3) (pa_cons (pv 1) (pa_cons (pv 2) pa_nil)))))) (pss_one (ps_ret (pe_call0 F_out_of_range (hr.mono (by decide)) (by rfl) T.g_out_of_range kp_out_of_range b_out_of_range .nil pass0))) pss_nil)
      (pss_cons (ps_set (i := 4) nd rfl (.inl rfl) (pe_meth0 (pv 3) T.c_Chain T.h_Chain_copied_rows F_Chain_copied_rows (hr.mono (by decide)) b_Chain_copied_rows .nil pass0))
      (pss_cons (ps_asg (pe_callTy (k_list K rfl) (by rfl) T.z_list (by decide +kernel) (pa_cons (pv 2) pa_nil)) (pg_sub (pv 4) (pv 1) set_list))
      (pss_cons (ps_fld (pv 0) (pe_make T.m_Chain F_Chain_init (hr.mono (by decide)) (by rfl) T.g_Chain b_Chain_init .nil pass0 (pa_cons (k_fld K rfl (pv 3)) (pa_cons (pv 4) pa_nil))) rfl)
      (pss_one (ps_ret (pe_lst (pa_cons (pe_callB (k_sum K rfl rfl) (by rfl) T.z_sum (by decide +kernel) (pa_cons (pv 2) pa_nil)) pa_nil)))))))))), ?_⟩)
  obtain ⟨G, a, x, dx, cv, rest, rfl, sm, gx, hx, hc, ⟨_, _, rfl, rfl, v3, _, rfl, h3, rfl⟩, hok, k⟩ := ha
  obtain ⟨c, i, ws⟩ := a
  have ok : COk c := hok
  have h1 : qC K G cv c := hc
  dsimp only at k h3
  rw [st_setRow] at k
  refine sq_set sm (ev_chain T hx (ev_var rfl)) fun v G1 H1 e1 p => ?_
  have ev : v = cv := p
  subst ev
  have q1 := Mo.mo (R := qC K) e1.g h1
  refine sq_ifN e1.sub (et_state (c := c) (i := i) (ev_meth (c, i) (ev_vR rfl q1) (ea_V (ev_var rfl) ea_nil) rfl trivial)) (fun b G2 H2 e2 => ?_) fun b G2 H2 e2 => ?_
  · have b' : isState c i = false := by simpa using b
    rw [if_pos b'] at k
    exact st_ret e2.sub (ev_call () ea_nil trivial) fun v G3 H3 e3 p => k v _ G3 H3 (same_ins hx ((e1.trans e2).trans e3)) (Mo.mo (R := qC K) (e2.trans e3).g q1) p
  · have b' : isState c i = true := by simpa using b
    have hi : i < size c := of_decide_eq_true b'
    rw [b', if_neg (by decide)] at k
    have e12 := e1.trans e2
    have q2 := Mo.mo (R := qC K) e2.g q1
    refine sq_ifN e2.sub (et_not (et_B (ev_call (c, i, ws) (ea_R (ev_vR rfl q2) (ea_V (ev_var rfl) (ea_R (ev_vR rfl (Mo.mo e12.g h3)) ea_nil))) ok))) (fun d G3 H3 e3 => ?_) fun d G3 H3 e3 => ?_
    · have d' : rowB c i ws = false := by simpa using d
      rw [if_pos ((row_is hi ws).mp d')] at k
      exact st_ret e3.sub (ev_call () ea_nil trivial) fun v G4 H4 e4 p => k v _ G4 H4 (same_ins hx ((e12.trans e3).trans e4)) (Mo.mo (R := qC K) (e3.trans e4).g q2) p
    · have d' : rowB c i ws = true := by simpa using d
      rw [if_neg (fun z => by rw [(row_is hi ws).mpr z] at d'; cases d')] at k
      have nok := cok_setRow ok hi d'
      have es' : rowSum { c with weights := c.weights.set i ws } i = ws.sum := by
        rw [EC.rowSum_row nok (by simpa [size] using hi)]
        congr 1
        exact (EC.getD_set (v := ws) (d := []) (j := i) hi).trans (if_pos rfl)
      rw [es'] at k
      have e13 := e12.trans e3
      have q3 := Mo.mo (R := qC K) e3.g q2
      refine sq_set e3.sub (ev_meth c (ev_vR rfl q3) ea_nil rfl ok) fun v G5 H5 e5 p5 => ?_
      obtain ⟨p, es, rfl, l5, de⟩ := p5
      have e15 := e13.trans e5
      have l5 := l5.back e13.h
      have hl : es.length = size c := by
        have := congrArg List.length de
        simp [datW] at this
        exact this
      refine sq (st_putRow (i := i) (row := ws) l5 e5.sub e15.h (ev_listL (ev_vR rfl (Mo.mo e15.g h3))) (ev_var rfl) (ev_var rfl) (by omega) fun G6 H6 q o e6 l6 => ?_)
      have E6 : Ext G H G6 (upd H6 p o) := (e15.trans e6).loc l6.h0 l6.g
      obtain ⟨G7, s7, E7, q7⟩ := frzW E6 l6
      rw [dat_set, de] at q7
      have q47 := Mo.mo (R := qC K) ((e5.trans e6).g.trans s7) q3
      refine sq (st_setChain T (c := { c with weights := c.weights.set i ws }) E7 gx hx (ev_newChain (ea_V (ev_V (ev_kind (c := c) T (ev_vR rfl q47)) rfl) (ea_R (ev_vR rfl q7) ea_nil))) rfl fun cv' G8 H8 e8 s8 r8 => ?_)
      exact st_ret e8.sub (ev_NL (ev_lst1 (R := qI) (ev_Z (ev_sumN (ev_vR rfl (Mo.mo (E7.g.trans s8) h3)))))) fun v G9 H9 e9 p => k v cv' G9 H9 (e8.trans e9) (Mo.mo (R := qC K) e9.g r8) p
end
end ER
/-! ## ErM -/
/-! the operations that change the instance, the rest -/
namespace ER
open PySem PySem.Spec PyProof.Rows
open L2 hiding St
open Lrx1 (Fraction Chain size weight rowSum greatestRate states isState blocks lumped)
open EC (COk)
theorem map_erase {α β : Type} (f : α → β) (l : List α) (i : Nat) : (l.eraseIdx i).map f = (l.map f).eraseIdx i := by
  apply List.ext_getElem?
  intro j
  rw [List.getElem?_map, List.getElem?_eraseIdx, List.getElem?_eraseIdx, List.getElem?_map, List.getElem?_map]
  split <;> rfl
def qRw : Rel Rw := fun _ v e => v = .ref e.1
instance : Mo qRw := ⟨fun _ h => h⟩
def popTo (es : List Rw) (i m : Nat) : List Rw := (es.take m).map (fun e => (e.1, e.2.eraseIdx i)) ++ es.drop m
section
variable {es : List Rw} {i m : Nat}
theorem pop_zero : popTo es i 0 = es := by simp [popTo]
theorem pop_len (h : m ≤ es.length) : ((es.take m).map (fun e : Rw => ((e.1, e.2.eraseIdx i) : Rw))).length = m := by simp; omega
theorem pop_at {e : Rw} (h : es[m]? = some e) : (popTo es i m)[m]? = some e := by
  have hl := (List.getElem?_eq_some_iff.mp h).1
  unfold popTo
  rw [List.getElem?_append_right (by rw [pop_len (by omega)]; exact Nat.le_refl _), pop_len (by omega), Nat.sub_self, List.getElem?_drop]
  exact h
theorem pop_succ {e : Rw} (h : es[m]? = some e) : popTo es i (m + 1) = (popTo es i m).set m (e.1, e.2.eraseIdx i) := by
  have hl := (List.getElem?_eq_some_iff.mp h).1
  unfold popTo
  rw [List.set_append_right _ _ (by rw [pop_len (by omega)]; exact Nat.le_refl _), pop_len (by omega), Nat.sub_self, take_step h, List.map_append]
  have : es.drop m = e :: es.drop (m + 1) := by
    rw [List.drop_eq_getElem_cons hl]
    congr 1
    exact (List.getElem?_eq_some_iff.mp h).2
  rw [this]
  simp
theorem pop_end : popTo es i es.length = es.map fun e => (e.1, e.2.eraseIdx i) := by simp [popTo]
end
section
variable {P : Program} {w : World} {K : PySem.W.Frag} {mg : Str → Option Value} {base : Heap}
section
variable {σ : L2.St} {G H G1 H1 : Hp} {to ti : TE} {D : Ends} {p : Addr} {es : List Rw}
theorem st_popAt {q : Addr} {xs : List V} {i : Nat} (s : Same G1 H1) (hq : H1 q = some (.lst xs)) (ho : Ev to σ G1 H1 (isV (.ref q))) (hi : Ev ti σ G1 H1 (isV (.int (i : Int)))) (hl : i < xs.length) (hs : i ≤ 1000)
    (k : ∀ G2 H2, Ext G1 H1 G2 H2 → D.nx σ (upd H2 q (.lst (xs.eraseIdx i)))) : tDrop (tBM K "list" rPopAt to (tCons ti tNil)) D σ H1 :=
  ho G1 H1 (.refl s) _ fun o G2 H2 e2 eo => by
    have eo' : o = .ref q := eo
    subst eo'
    refine ⟨.inl ⟨rfl, xs, SqL.of (e2.h _ _ hq)⟩, ?_⟩
    refine hi G2 H2 e2 _ fun y G3 H3 e3 ey => ?_
    have ey' : y = .int (i : Int) := ey
    subst ey'
    have h3 := (e2.trans e3).h _ _ hq
    refine ⟨q, xs, i, i, xs[i], rfl, rfl, h3, ?_, ?_, (ixN_seq (ixN_nat hl)).1, List.getElem?_eq_getElem hl, k G3 H3 (e2.trans e3)⟩
    · have : (0 : Int) ≤ (i : Int) := Int.natCast_nonneg _
      have : (-(2 ^ 63) : Int) ≤ 0 := by decide
      omega
    · have : ((1000 : Nat) : Int) < 2 ^ 63 := by decide
      omega
theorem LocW.erase (l : LocW es H p G1 H1) (i : Nat) : LocW (es.eraseIdx i) H p G1 (upd H1 p (.lst ((es.map fun e : Rw => V.ref e.1).eraseIdx i))) := by
  have sub := List.eraseIdx_sublist es i
  refine ⟨l.h0, l.g, by rw [upd_same, map_erase], fun y hy => l.ne y (sub.subset hy), ⟨fun y hy => ?_, l.i.nd.sublist (sub.map _)⟩⟩
  obtain ⟨a, b, c⟩ := l.i.it y (sub.subset hy)
  exact ⟨a, b, by rw [upd_ne (l.ne y (sub.subset hy))]; exact c⟩
/-- the outer list is left as it is from here on -/
theorem frzO (e : Ext G H G1 H1) (l : LocW es H p G1 H1) : ∃ G2, Same G1 G2 ∧ Ext G H G2 H1 ∧ G2 p = some (.lst (es.map fun e : Rw => V.ref e.1)) ∧ LocI es H G2 H1 ∧ qL qRw G2 (.ref p) es := by
  refine ⟨upd G1 p (.lst (es.map fun e : Rw => V.ref e.1)), same_upd l.g, e.frz l.h0 l.g l.h, upd_same, ⟨fun y hy => ?_, l.i.nd⟩, ⟨p, _, rfl, upd_same, ?_⟩⟩
  · obtain ⟨a, b, c⟩ := l.i.it y hy
    exact ⟨a, by rw [upd_ne (l.ne y hy)]; exact b, c⟩
  · generalize upd G1 p (.lst (es.map fun e : Rw => V.ref e.1)) = GG
    clear l
    induction es with
    | nil => exact .nil
    | cons e r ih => exact .cons rfl ih
end
theorem st_remove (c : Chain) (i : Nat) : Lrx1.step (some c) (.removeState i) = if isState c i = false then (some c, Lrx1.error (-2)) else if size c = 1 then (some c, Lrx1.error (-33)) else (some { c with weights := (c.weights.eraseIdx i).map fun row => row.eraseIdx i }, Lrx1.number (size c - 1 : Nat)) := rfl
abbrev sp_remove_state (K : PySem.W.Frag) : Sp := spC K (α := Chain × Nat) (fun a => [aV (.int (a.2 : Int))]) (fun a => COk a.1) (fun a => some a.1) fun a => .removeState a.2
theorem sp_remove_state_len (K : PySem.W.Frag) {vs H Q X} (h : sp_remove_state K vs H Q X) : vs.length = 2 := spC_len (n := 1) (fun _ => rfl) h
abbrev N_remove_state : List Str := ["instance", "i", "chain", "rows", "row"]
abbrev P_remove_state : List Str := ["instance", "i"]
theorem sc_remove_state : FnScope N_remove_state P_remove_state (defScope s_remove_state) := ⟨rfl, rfl, rfl, by decide +kernel, rfl, by decide +kernel, by decide +kernel⟩
theorem ok_remove_state (T : Tx K mg) : Has P w K mg base 3 (He.ga K "remove_state") P_remove_state (sp_remove_state K) := by
  obtain ⟨⟨_, F_Chain_copied_rows, b_Chain_copied_rows⟩, kp_Chain_copied_rows⟩ := ok_Chain_copied_rows (P := P) (w := w) (base := base) T
  obtain ⟨⟨_, F_Chain_has_state, b_Chain_has_state⟩, kp_Chain_has_state⟩ := ok_Chain_has_state (P := P) (w := w) (base := base) T
  obtain ⟨⟨_, F_Chain_init, b_Chain_init⟩, kp_Chain_init⟩ := ok_Chain_init (P := P) (w := w) (base := base) T
  obtain ⟨⟨_, F_Chain_state_count, b_Chain_state_count⟩, kp_Chain_state_count⟩ := ok_Chain_state_count (P := P) (w := w) (base := base) T
  obtain ⟨⟨_, F_no_result, b_no_result⟩, kp_no_result⟩ := ok_no_result (P := P) (w := w) (base := base) T
  obtain ⟨⟨_, F_no_such_state, b_no_such_state⟩, kp_no_such_state⟩ := ok_no_such_state (P := P) (w := w) (base := base) T
  have nd := sc_remove_state.nd
  refine has_sp T.f_remove_state sc_remove_state (fun vs H Q X h => sp_remove_state_len K h) (fun _ _ _ _ _ _ us hl => match us, hl with | [_, _], _ => rfl) (fun cdv E outer s H X hr vs Q ha => ⟨_, (pss_cons (ps_set (i := 2) nd rfl (.inl rfl) (k_fld K rfl (pv 0)))
      (pss_cons (ps_if (pt_not (pt_val (pe_meth (pv 2) T.c_Chain T.h_Chain_has_state F_Chain_has_state (hr.mono (by decide)) b_Chain_has_state .nil pass0 (pa_cons (pv 1) pa_nil)))) (pss_one (ps_ret (pe_call0 F_no_such_state (hr.mono (by decide)) (by rfl) T.g_no_such_state kp_no_such_state b_no_such_state .nil pass0))) pss_nil)
      (pss_cons (ps_if (pt_cmpR op_eq (pe_meth0 (pv 2) T.c_Chain T.h_Chain_state_count F_Chain_state_count (hr.mono (by decide)) b_Chain_state_count .nil pass0) pe_int (by rfl)) (pss_one (ps_ret (pe_call0 F_no_result (hr.mono (by decide)) (by rfl) T.g_no_result kp_no_result b_no_result .nil pass0))) pss_nil)
      (pss_cons (ps_set (i := 3) nd rfl (.inl rfl) (pe_meth0 (pv 2) T.c_Chain T.h_Chain_copied_rows F_Chain_copied_rows (hr.mono (by decide)) b_Chain_copied_rows .nil pass0))
      (pss_cons (ps_expr (k_bm K rfl PySem.F.plainAttrs_list PySem.F.slot_list_pop PySem.F.type_list_pop mt_popAt (pv 3) (pa_cons (pv 1) pa_nil)))
      (pss_cons (ps_for PassesOwn.never rfl (k_pil K rfl (pv 3)) (pg_name (i := 4) nd rfl (.inl rfl)) (pss_one (ps_expr (k_bm K rfl PySem.F.plainAttrs_list PySem.F.slot_list_pop PySem.F.type_list_pop mt_popAt (pv 4) (pa_cons (pv 1) pa_nil)))))
      (pss_cons (ps_fld (pv 0) (pe_make T.m_Chain F_Chain_init (hr.mono (by decide)) (by rfl) T.g_Chain b_Chain_init .nil pass0 (pa_cons (k_fld K rfl (pv 2)) (pa_cons (pv 3) pa_nil))) rfl)
      (pss_one (ps_ret (pe_lst (pa_cons (pe_callB (k_len K rfl) (by rfl) T.z_len PySem.boot_len (pa_cons (pv 3) pa_nil)) pa_nil))))))))))), ?_⟩)
  obtain ⟨G, a, x, dx, cv, rest, rfl, sm, gx, hx, hc, ⟨_, _, rfl, rfl, rfl⟩, hok, k⟩ := ha
  obtain ⟨c, i⟩ := a
  have ok : COk c := hok
  have h1 : qC K G cv c := hc
  dsimp only at k
  rw [st_remove] at k
  have s8 := ok.le
  refine sq_set sm (ev_chain T hx (ev_var rfl)) fun v G1 H1 e1 p => ?_
  have ev : v = cv := p
  subst ev
  have q1 := Mo.mo (R := qC K) e1.g h1
  refine sq_ifN e1.sub (et_state (c := c) (i := i) (ev_meth (c, i) (ev_vR rfl q1) (ea_V (ev_var rfl) ea_nil) rfl trivial)) (fun b G2 H2 e2 => ?_) fun b G2 H2 e2 => ?_
  · have b' : isState c i = false := by simpa using b
    rw [if_pos b'] at k
    exact st_ret e2.sub (ev_call () ea_nil trivial) fun v G3 H3 e3 p => k v _ G3 H3 (same_ins hx ((e1.trans e2).trans e3)) (Mo.mo (R := qC K) (e2.trans e3).g q1) p
  · have b' : isState c i = true := by simpa using b
    have hi : i < size c := of_decide_eq_true b'
    rw [b', if_neg (by decide)] at k
    have e12 := e1.trans e2
    have q2 := Mo.mo (R := qC K) e2.g q1
    refine sq_ifN e2.sub (et_is (et_test (ev_eq (ev_meth c (ev_vR rfl q2) ea_nil rfl trivial) ev_c rfl)) (dec_int_nat (size c) 1)) (fun d G3 H3 e3 => ?_) fun d G3 H3 e3 => ?_
    · rw [if_pos (of_decide_eq_true d)] at k
      exact st_ret e3.sub (ev_call () ea_nil trivial) fun v G4 H4 e4 p => k v _ G4 H4 (same_ins hx ((e12.trans e3).trans e4)) (Mo.mo (R := qC K) (e3.trans e4).g q2) p
    · rw [if_neg (of_decide_eq_false d)] at k
      have e13 := e12.trans e3
      have q3 := Mo.mo (R := qC K) e3.g q2
      refine sq_set e3.sub (ev_meth c (ev_vR rfl q3) ea_nil rfl ok) fun v G5 H5 e5 p5 => ?_
      obtain ⟨p, es, rfl, l5, de⟩ := p5
      have e15 := e13.trans e5
      have l5 := l5.back e13.h
      have hl : es.length = size c := by
        have := congrArg List.length de
        simp [datW] at this
        exact this
      refine sq (st_popAt e5.sub l5.h (ev_var rfl) (ev_var rfl) (by rw [List.length_map]; omega) (by omega) fun G6 H6 e6 => ?_)
      have l6 := (l5.ext e6).erase i
      have E6 : Ext G H G6 (upd H6 p (.lst ((es.map fun e : Rw => V.ref e.1).eraseIdx i))) := (e15.trans e6).loc l6.h0 l6.g
      obtain ⟨G7, s7, E7, g7, i7, r7⟩ := frzO E6 l6
      let es1 := es.eraseIdx i
      have l1 : es1.length = size c - 1 := by
        show (es.eraseIdx i).length = _
        rw [List.length_eraseIdx, if_pos (by omega), hl]
      have dl : ∀ e ∈ es1, e.2.length = size c := fun e he => by
        have he := (List.eraseIdx_sublist es i).subset he
        obtain ⟨j, hj⟩ := List.mem_iff_getElem?.mp he
        have jl := (List.getElem?_eq_some_iff.mp hj).1
        obtain ⟨e', he', ee⟩ := dat_at de (i := j) (by omega)
        rw [hj] at he'
        rw [Option.some.inj he', ee]
        exact ok.row j (by omega)
      refine sq (fo_list (S := qRw) (xs := es1) E7.sub (ev_vR rfl r7) (fun m σ G8 H8 => ∃ r4, σ = [some (.ref x), some (.int (i : Int)), some v, some (.ref p), r4] ∧ Ext G H G8 H8 ∧ Same G7 G8 ∧ LocI (popTo es1 i m) H G8 H8) (fun G8 H8 e8 => ⟨none, rfl, E7.trans e8, e8.g, by rw [pop_zero]; exact i7.ext e8⟩) ?_ ?_)
      · rintro m e u σ G8 H8 he sg s8' ru ⟨r4, rfl, e8, sg7, i8⟩
        have eu : u = .ref e.1 := ru
        subst eu
        have em := pop_at (i := i) he
        have c := (i8.it e (List.mem_of_getElem? em)).2.2
        have el := dl e (List.mem_of_getElem? he)
        refine st_popAt s8' c (ev_var rfl) (ev_var rfl) (by unfold intsV; rw [List.length_map]; omega) (by omega) fun G9 H9 e9 => ?_
        have i9 := i8.ext e9
        have ei : (intsV e.2).eraseIdx i = intsV (e.2.eraseIdx i) := by unfold intsV; rw [map_erase]
        rw [ei]
        have E9 := LocI.up (e8.trans e9) i9 (List.mem_of_getElem? em) (.lst (intsV (e.2.eraseIdx i)))
        refine ⟨G9, e9.g, E9.sub, some (.ref e.1), rfl, E9, sg7.trans e9.g, ?_⟩
        rw [pop_succ he]
        exact i9.set em _
      · rintro σ G8 H8 sg s8' ⟨r4, rfl, e8, sg7, i8⟩
        rw [pop_end] at i8
        obtain ⟨G9, s9, e9, f9, o9⟩ := frzI _ e8 i8
        have g9 : G9 p = some (.lst ((es1.map fun e : Rw => ((e.1, e.2.eraseIdx i) : Rw)).map fun e : Rw => V.ref e.1)) := by
          rw [s9 _ _ (sg7 _ _ g7), List.map_map]
          rfl
        have q9 := qW_of g9 f9
        have ed : datW (es1.map fun e : Rw => ((e.1, e.2.eraseIdx i) : Rw)) = (c.weights.eraseIdx i).map fun row => row.eraseIdx i := by
          rw [← de]
          unfold datW
          rw [← map_erase, List.map_map, List.map_map]
          rfl
        rw [ed] at q9
        have q39 := Mo.mo (R := qC K) ((((e5.trans e6).g.trans s7).trans sg7).trans s9) q3
        refine sq (st_setChain T (c := { c with weights := (c.weights.eraseIdx i).map fun row => row.eraseIdx i }) e9 gx hx (ev_newChain (ea_V (ev_V (ev_kind (c := c) T (ev_vR rfl q39)) rfl) (ea_R (ev_vR rfl q9) ea_nil))) rfl fun cv' Ga Ha ea' sa ra => ?_)
        refine st_ret ea'.sub (ev_NL (ev_lst1 (R := qI) (ev_Z (ev_V (ev_lenL (ev_vR (R := qL qRw) rfl (Mo.mo ((sg7.trans s9).trans sa) r7))) ?_)))) fun v Gb Hb eb p => k v cv' Gb Hb (ea'.trans eb) (Mo.mo (R := qC K) eb.g ra) p
        show V.int (es1.length : Int) = V.int ((size c - 1 : Nat) : Int)
        rw [l1]
def diagTo (rows : List (List Nat)) (d : Nat → Nat) (m : Nat) : List (List Nat) := (List.range rows.length).map fun i => if i < m then (rows.getD i []).set i (d i) else rows.getD i []
theorem diag_zero (rows : List (List Nat)) (d : Nat → Nat) : diagTo rows d 0 = rows := by
  unfold diagTo
  simp only [Nat.not_lt_zero, if_false]
  exact EC.map_getD_range [] rows rows.length rfl
theorem diag_at {rows : List (List Nat)} {d : Nat → Nat} {m j : Nat} (h : j < rows.length) : (diagTo rows d m)[j]? = some (if j < m then (rows.getD j []).set j (d j) else rows.getD j []) := by
  unfold diagTo
  rw [List.getElem?_map, List.getElem?_range h]
  rfl
theorem diag_succ {rows : List (List Nat)} {d : Nat → Nat} {m : Nat} (h : m < rows.length) : diagTo rows d (m + 1) = (diagTo rows d m).set m ((rows.getD m []).set m (d m)) := by
  apply List.ext_getElem?
  intro j
  by_cases hj : j < rows.length
  · rw [diag_at hj, List.getElem?_set]
    by_cases q : m = j
    · subst q
      rw [if_pos rfl, if_pos (show m < m + 1 from Nat.lt_succ_self m), if_pos (by unfold diagTo; rw [List.length_map, List.length_range]; exact h)]
    · rw [if_neg q, diag_at hj]
      congr 1
      by_cases q2 : j < m
      · rw [if_pos q2, if_pos (by omega)]
      · rw [if_neg q2, if_neg (by omega)]
  · rw [List.getElem?_eq_none (by simp [diagTo]; omega), List.getElem?_eq_none (by simp [diagTo]; omega)]
def diagW (c : Chain) (d : Nat → Nat) : List (List Nat) := (states c).map fun i => (states c).map fun j => if i = j then d i else weight c i j
theorem diag_end {c : Chain} (ok : COk c) (d : Nat → Nat) : diagTo c.weights d (size c) = diagW c d := by
  apply List.ext_getElem?
  intro i
  by_cases hi : i < size c
  · rw [diag_at hi, if_pos hi]
    unfold diagW
    rw [states_at hi]
    congr 1
    apply List.ext_getElem?
    intro j
    have rl := ok.row i hi
    by_cases hj : j < size c
    · rw [states_at hj, List.getElem?_set]
      by_cases q : i = j
      · subst q
        rw [if_pos rfl, if_pos (by omega), if_pos rfl]
      · rw [if_neg q, if_neg q]
        exact row_at ok hi hj
    · rw [List.getElem?_eq_none (by rw [List.length_set]; omega), List.getElem?_eq_none (by simp [states]; omega)]
  · rw [List.getElem?_eq_none (by simp [diagTo, size] at hi ⊢; omega), List.getElem?_eq_none (by simp [diagW, states]; omega)]
theorem cok_diag {c : Chain} (ok : COk c) {d : Nat → Nat} (hd : ∀ i, i < size c → d i ≤ 1000000) : COk ⟨false, diagW c d⟩ := by
  have sz : size (⟨false, diagW c d⟩ : Chain) = size c := by simp [size, diagW, states]
  have gd : ∀ i, i < size c → (diagW c d).getD i [] = (states c).map fun j => if i = j then d i else weight c i j := fun i hi => getD_at (by unfold diagW; exact states_at hi)
  refine ⟨by rw [sz]; exact ok.pos, by rw [sz]; exact ok.le, fun i hi => ?_, fun i j => ?_, fun h => by cases h⟩
  · rw [sz] at hi ⊢
    show ((diagW c d).getD i []).length = _
    rw [gd i hi, List.length_map, states_len]
  · show ((diagW c d).getD i []).getD j 0 ≤ 1000000
    by_cases hi : i < size c
    · rw [gd i hi]
      by_cases hj : j < size c
      · rw [getD_at (states_at hj)]
        split
        · exact hd i hi
        · exact ok.low i j
      · rw [List.getD_eq_getElem?_getD, List.getElem?_eq_none (by simp [states]; omega)]
        simp
    · rw [List.getD_eq_getElem?_getD (l := diagW c d), List.getElem?_eq_none (by simp [diagW, states]; omega)]
      simp
theorem st_unif (c : Chain) (r : Nat) : Lrx1.step (some c) (.uniformize r) = if c.isContinuous = false then (some c, Lrx1.error (-33)) else if r = 0 ∨ r < greatestRate c ∨ Lrx1.maxWeight < r then (some c, Lrx1.error (-22)) else (some ⟨false, diagW c fun i => r - rowSum c i⟩, Lrx1.number (greatestRate c : Nat)) := rfl
theorem st_embed (c : Chain) : Lrx1.step (some c) .embed = (some ⟨false, diagW c fun _ => 0⟩, Lrx1.number (if c.isContinuous then 1 else 0)) := rfl
theorem ev_lenWo {σ : L2.St} {H G1 H1 : Hp} {ta : TE} {es : List Rw} {p : Addr} (l : LocW es H p G1 H1) (ha : Ev ta σ G1 H1 (isV (.ref p))) : Ev (tCB (rLenQ K) (tCons ta tNil)) σ G1 H1 (isV (.int (es.length : Int))) := by
  have := ev_lenV (K := K) ha l.h
  rw [List.length_map] at this
  exact this
abbrev sp_uniformize (K : PySem.W.Frag) : Sp := spC K (α := Chain × Nat) (fun a => [aV (.int (a.2 : Int))]) (fun a => COk a.1) (fun a => some a.1) fun a => .uniformize a.2
theorem sp_uniformize_len (K : PySem.W.Frag) {vs H Q X} (h : sp_uniformize K vs H Q X) : vs.length = 2 := spC_len (n := 1) (fun _ => rfl) h
abbrev N_uniformize : List Str := ["instance", "rate", "chain", "greatest_sum", "rows", "i"]
abbrev P_uniformize : List Str := ["instance", "rate"]
theorem sc_uniformize : FnScope N_uniformize P_uniformize (defScope s_uniformize) := ⟨rfl, rfl, rfl, by decide +kernel, rfl, by decide +kernel, by decide +kernel⟩
theorem ok_uniformize (T : Tx K mg) : Has P w K mg base 3 (He.ga K "uniformize") P_uniformize (sp_uniformize K) := by
  obtain ⟨⟨_, F_Chain_copied_rows, b_Chain_copied_rows⟩, kp_Chain_copied_rows⟩ := ok_Chain_copied_rows (P := P) (w := w) (base := base) T
  obtain ⟨⟨_, F_Chain_greatest_sum, b_Chain_greatest_sum⟩, kp_Chain_greatest_sum⟩ := ok_Chain_greatest_sum (P := P) (w := w) (base := base) T
  obtain ⟨⟨_, F_Chain_init, b_Chain_init⟩, kp_Chain_init⟩ := ok_Chain_init (P := P) (w := w) (base := base) T
  obtain ⟨⟨_, F_Chain_sum_of, b_Chain_sum_of⟩, kp_Chain_sum_of⟩ := ok_Chain_sum_of (P := P) (w := w) (base := base) T
  obtain ⟨⟨_, F_no_result, b_no_result⟩, kp_no_result⟩ := ok_no_result (P := P) (w := w) (base := base) T
  obtain ⟨⟨_, F_out_of_range, b_out_of_range⟩, kp_out_of_range⟩ := ok_out_of_range (P := P) (w := w) (base := base) T
  obtain ⟨_, h_GREATEST_WEIGHT⟩ := T.i_GREATEST_WEIGHT
  have nd := sc_uniformize.nd
  refine has_sp T.f_uniformize sc_uniformize (fun vs H Q X h => sp_uniformize_len K h) (fun _ _ _ _ _ _ us hl => match us, hl with | [_, _], _ => rfl) (fun cdv E outer s H X hr vs Q ha => ⟨_, (pss_cons (ps_set (i := 2) nd rfl (.inl rfl) (k_fld K rfl (pv 0)))
      (pss_cons (ps_if (pt_cmpR op_eq (k_fld K rfl (pv 2)) pe_int (by rfl)) (pss_one (ps_ret (pe_call0 F_no_result (hr.mono (by decide)) (by rfl) T.g_no_result kp_no_result b_no_result .nil pass0))) pss_nil)
      (pss_cons (ps_set (i := 3) nd rfl (.inl rfl) (pe_meth0 (pv 2) T.c_Chain T.h_Chain_greatest_sum F_Chain_greatest_sum (hr.mono (by decide)) b_Chain_greatest_sum .nil pass0))
      (pss_cons (ps_if (PW.pt (pw_or (pt_cmpR op_eq (pv 1) pe_int (by rfl)) (pw_or (pt_cmpR op_lt (pv 1) (pv 3) (by rfl)) (pw_or1 (pt_cmpR op_gt (pv 1) (pe_glob (v := .int 1000000) (by rfl) h_GREATEST_WEIGHT ⟨_, rfl⟩) (by rfl)))))) (pss_one (ps_ret (pe_call0 F_out_of_range (hr.mono (by decide)) (by rfl) T.g_out_of_range kp_out_of_range b_out_of_range .nil pass0))) pss_nil)
      (pss_cons (ps_set (i := 4) nd rfl (.inl rfl) (pe_meth0 (pv 2) T.c_Chain T.h_Chain_copied_rows F_Chain_copied_rows (hr.mono (by decide)) b_Chain_copied_rows .nil pass0))
      (pss_cons (ps_for PassesOwn.never rfl (pi_range1 (by rfl) T.z_range (pa_cons (pe_callB (k_len K rfl) (by rfl) T.z_len PySem.boot_len (pa_cons (pv 4) pa_nil)) pa_nil)) (pg_name (i := 5) nd rfl (.inl rfl)) (pss_one (ps_asg (pe_op op_sub (pv 1) (pe_meth (pv 2) T.c_Chain T.h_Chain_sum_of F_Chain_sum_of (hr.mono (by decide)) b_Chain_sum_of .nil pass0 (pa_cons (pv 5) pa_nil))) (pg_sub (pe_ix (k_ixl K rfl) (pv 4) (pv 5) (fun _ _ => rfl)) (pv 5) set_list))))
      (pss_cons (ps_fld (pv 0) (pe_make T.m_Chain F_Chain_init (hr.mono (by decide)) (by rfl) T.g_Chain b_Chain_init .nil pass0 (pa_cons pe_int (pa_cons (pv 4) pa_nil))) rfl)
      (pss_one (ps_ret (pe_lst (pa_cons (pv 3) pa_nil))))))))))), ?_⟩)
  obtain ⟨G, a, x, dx, cv, rest, rfl, sm, gx, hx, hc, ⟨_, _, rfl, rfl, rfl⟩, hok, k⟩ := ha
  obtain ⟨c, r⟩ := a
  have ok : COk c := hok
  have h1 : qC K G cv c := hc
  dsimp only at k
  rw [st_unif] at k
  have s8 := ok.le
  refine sq_set sm (ev_chain T hx (ev_var rfl)) fun v G1 H1 e1 p => ?_
  have ev : v = cv := p
  subst ev
  have q1 := Mo.mo (R := qC K) e1.g h1
  refine sq_ifN e1.sub (et_is (et_test (ev_eq (ev_kind T (ev_vR rfl q1)) ev_c rfl)) (show _ = !c.isContinuous from by unfold kc; cases c.isContinuous <;> decide)) (fun b G2 H2 e2 => ?_) fun b G2 H2 e2 => ?_
  · have b' : c.isContinuous = false := by simpa using b
    rw [if_pos b'] at k
    exact st_ret e2.sub (ev_call () ea_nil trivial) fun v G3 H3 e3 p => k v _ G3 H3 (same_ins hx ((e1.trans e2).trans e3)) (Mo.mo (R := qC K) (e2.trans e3).g q1) p
  · have b' : c.isContinuous = true := by simpa using b
    rw [b', if_neg (by decide)] at k
    have e12 := e1.trans e2
    have q2 := Mo.mo (R := qC K) e2.g q1
    refine sq_set e2.sub (ev_meth c (ev_vR rfl q2) ea_nil rfl ok) fun v G3 H3 e3 p3 => ?_
    subst p3
    have e13 := e12.trans e3
    have q3 := Mo.mo (R := qC K) e3.g q2
    refine sq_ifN e3.sub (et_or (et_is (et_test (ev_eq (ev_var rfl) ev_c rfl)) (dec_int_nat r 0)) fun _ => et_or (et_test (ev_I0 (ev_var rfl) (ev_var rfl))) fun _ => et_test (ev_I0 (ev_var rfl) ev_c)) (fun d G4 H4 e4 => ?_) fun d G4 H4 e4 => ?_
    · have d' : r = 0 ∨ r < greatestRate c ∨ Lrx1.maxWeight < r := by
        rw [Bool.or_eq_true, Bool.or_eq_true] at d
        rcases d with d | d | d
        · exact .inl (of_decide_eq_true d)
        · have : (r : Int) < (greatestRate c : Int) := of_decide_eq_true d
          exact .inr (.inl (by omega))
        · have : (r : Int) > 1000000 := of_decide_eq_true d
          refine .inr (.inr ?_)
          show 1000000 < r
          omega
      rw [if_pos d'] at k
      exact st_ret e4.sub (ev_call () ea_nil trivial) fun v G5 H5 e5 p => k v _ G5 H5 (same_ins hx ((e13.trans e4).trans e5)) (Mo.mo (R := qC K) (e4.trans e5).g q3) p
    · have d' : r ≠ 0 ∧ greatestRate c ≤ r ∧ r ≤ 1000000 := by
        rw [Bool.or_eq_false_iff, Bool.or_eq_false_iff] at d
        obtain ⟨d1, d2, d3⟩ := d
        have d1 := of_decide_eq_false d1
        have d2 : ¬ (r : Int) < (greatestRate c : Int) := of_decide_eq_false d2
        have d3 : ¬ (r : Int) > 1000000 := of_decide_eq_false d3
        exact ⟨d1, by omega, by omega⟩
      have dn : ¬ (r = 0 ∨ r < greatestRate c ∨ Lrx1.maxWeight < r) := by
        rintro (z | z | z)
        · exact d'.1 z
        · omega
        · have : 1000000 < r := z
          omega
      rw [if_neg dn] at k
      have e14 := e13.trans e4
      have q4 := Mo.mo (R := qC K) e4.g q3
      refine sq_set e4.sub (ev_meth c (ev_vR rfl q4) ea_nil rfl ok) fun v5 G5 H5 e5 p5 => ?_
      obtain ⟨p, es, rfl, l5, de⟩ := p5
      have e15 := e14.trans e5
      have l5 := l5.back e14.h
      have hl : es.length = size c := by
        have := congrArg List.length de
        simp [datW] at this
        exact this
      let f : Nat → Nat := fun i => r - rowSum c i
      refine sq (fo_range (n := size c) e5.sub (ea_V (ev_V (ev_lenWo l5 (ev_var rfl)) (by rw [hl])) ea_nil) (by omega) (fun m σ G6 H6 => ∃ r5 es, σ = [some (.ref x), some (.int (r : Int)), some v, some (.int (greatestRate c : Int)), some (.ref p), r5] ∧ Ext G H G6 H6 ∧ Same G5 G6 ∧ LocW es H p G6 H6 ∧ datW es = diagTo c.weights f m) (fun G6 H6 e6 => ⟨none, es, rfl, e15.trans e6, e6.g, l5.ext e6, by rw [diag_zero]; exact de⟩) ?_ ?_)
      · rintro m σ G6 H6 hm sg s6 ⟨r5, es', rfl, e6, sg5, l6, d6⟩
        have ge := EC.greatest_ge c hm
        have q6 := Mo.mo (R := qC K) (e5.g.trans sg5) q4
        have at_m : ∃ e, es'[m]? = some e ∧ e.2 = c.weights.getD m [] := by
          have z := diag_at (rows := c.weights) (d := f) (m := m) (j := m) hm
          rw [if_neg (Nat.lt_irrefl m), ← d6] at z
          unfold datW at z
          rw [List.getElem?_map] at z
          cases h : es'[m]? with
          | none => rw [h] at z; cases z
          | some e => rw [h] at z; exact ⟨e, rfl, Option.some.inj z⟩
        obtain ⟨e, he, ee⟩ := at_m
        refine st_put2 (x := f m) l6 s6 (ev_V (ev_I0 (ev_var rfl) (ev_meth (c, m) (ev_vR rfl q6) (ea_V (ev_var rfl) ea_nil) rfl ⟨ok, hm⟩)) ?_) (ev_var rfl) (ev_var rfl) (ev_var rfl) he (by rw [ee, ok.row m hm]; exact hm) fun G7 H7 e7 l7 => ?_
        · show V.int ((r : Int) - (rowSum c m : Int)) = V.int ((r - rowSum c m : Nat) : Int)
          congr 1
          omega
        have E7 := LocI.up (e6.trans e7) (l6.ext e7).i (List.mem_of_getElem? he) (.lst (intsV (e.2.set m (f m))))
        refine ⟨G7, e7.g, E7.sub, some (.int (m : Int)), _, rfl, E7, sg5.trans e7.g, l7, ?_⟩
        rw [dat_set, d6, ee]
        exact (diag_succ hm).symm
      · rintro σ G6 H6 sg s6 ⟨r5, es', rfl, e6, sg5, l6, d6⟩
        rw [diag_end ok] at d6
        obtain ⟨G7, s7, e7, q7⟩ := frzW e6 l6
        rw [d6] at q7
        refine sq (st_setChain T (c := ⟨false, diagW c f⟩) e7 gx hx (ev_newChain (ea_V ev_c (ea_R (ev_vR rfl q7) ea_nil))) rfl fun cv' G8 H8 e8 s8 r8 => ?_)
        exact st_ret e8.sub (ev_NL (ev_lst1 (R := qI) (ev_Z (ev_var rfl)))) fun v G9 H9 e9 p => k v cv' G9 H9 (e8.trans e9) (Mo.mo (R := qC K) e9.g r8) p
abbrev sp_embed (K : PySem.W.Frag) : Sp := spC K (α := Chain) (fun a => []) COk (fun a => some a) fun a => .embed
theorem sp_embed_len (K : PySem.W.Frag) {vs H Q X} (h : sp_embed K vs H Q X) : vs.length = 1 := spC_len (n := 0) (fun _ => rfl) h
abbrev N_embed : List Str := ["instance", "chain", "rows", "i"]
abbrev P_embed : List Str := ["instance"]
theorem sc_embed : FnScope N_embed P_embed (defScope s_embed) := ⟨rfl, rfl, rfl, by decide +kernel, rfl, by decide +kernel, by decide +kernel⟩
theorem ok_embed (T : Tx K mg) : Has P w K mg base 3 (He.ga K "embed") P_embed (sp_embed K) := by
  obtain ⟨⟨_, F_Chain_copied_rows, b_Chain_copied_rows⟩, kp_Chain_copied_rows⟩ := ok_Chain_copied_rows (P := P) (w := w) (base := base) T
  obtain ⟨⟨_, F_Chain_init, b_Chain_init⟩, kp_Chain_init⟩ := ok_Chain_init (P := P) (w := w) (base := base) T
  have nd := sc_embed.nd
  refine has_sp T.f_embed sc_embed (fun vs H Q X h => sp_embed_len K h) (fun _ _ _ _ _ _ us hl => match us, hl with | [_], _ => rfl) (fun cdv E outer s H X hr vs Q ha => ⟨_, (pss_cons (ps_set (i := 1) nd rfl (.inl rfl) (k_fld K rfl (pv 0)))
      (pss_cons (ps_set (i := 2) nd rfl (.inl rfl) (pe_meth0 (pv 1) T.c_Chain T.h_Chain_copied_rows F_Chain_copied_rows (hr.mono (by decide)) b_Chain_copied_rows .nil pass0))
      (pss_cons (ps_for PassesOwn.never rfl (pi_range1 (by rfl) T.z_range (pa_cons (pe_callB (k_len K rfl) (by rfl) T.z_len PySem.boot_len (pa_cons (pv 2) pa_nil)) pa_nil)) (pg_name (i := 3) nd rfl (.inl rfl)) (pss_one (ps_asg pe_int (pg_sub (pe_ix (k_ixl K rfl) (pv 2) (pv 3) (fun _ _ => rfl)) (pv 3) set_list))))
      (pss_cons (ps_fld (pv 0) (pe_make T.m_Chain F_Chain_init (hr.mono (by decide)) (by rfl) T.g_Chain b_Chain_init .nil pass0 (pa_cons pe_int (pa_cons (pv 2) pa_nil))) rfl)
      (pss_one (ps_ret (pe_lst (pa_cons (k_fld K rfl (pv 1)) pa_nil)))))))), ?_⟩)
  obtain ⟨G, c, x, dx, cv, rest, rfl, sm, gx, hx, hc, rfl, hok, k⟩ := ha
  have ok : COk c := hok
  have h1 : qC K G cv c := hc
  dsimp only at k
  rw [st_embed] at k
  have s8 := ok.le
  refine sq_set sm (ev_chain T hx (ev_var rfl)) fun v G1 H1 e1 p => ?_
  have ev : v = cv := p
  subst ev
  have q1 := Mo.mo (R := qC K) e1.g h1
  refine sq_set e1.sub (ev_meth c (ev_vR rfl q1) ea_nil rfl ok) fun v5 G5 H5 e5 p5 => ?_
  obtain ⟨p, es, rfl, l5, de⟩ := p5
  have e15 := e1.trans e5
  have l5 := l5.back e1.h
  have hl : es.length = size c := by
    have := congrArg List.length de
    simp [datW] at this
    exact this
  let f : Nat → Nat := fun _ => 0
  refine sq (fo_range (n := size c) e5.sub (ea_V (ev_V (ev_lenWo l5 (ev_var rfl)) (by rw [hl])) ea_nil) (by omega) (fun m σ G6 H6 => ∃ r5 es, σ = [some (.ref x), some v, some (.ref p), r5] ∧ Ext G H G6 H6 ∧ Same G5 G6 ∧ LocW es H p G6 H6 ∧ datW es = diagTo c.weights f m) (fun G6 H6 e6 => ⟨none, es, rfl, e15.trans e6, e6.g, l5.ext e6, by rw [diag_zero]; exact de⟩) ?_ ?_)
  · rintro m σ G6 H6 hm sg s6 ⟨r5, es', rfl, e6, sg5, l6, d6⟩
    have at_m : ∃ e, es'[m]? = some e ∧ e.2 = c.weights.getD m [] := by
      have z := diag_at (rows := c.weights) (d := f) (m := m) (j := m) hm
      rw [if_neg (Nat.lt_irrefl m), ← d6] at z
      unfold datW at z
      rw [List.getElem?_map] at z
      cases h : es'[m]? with
      | none => rw [h] at z; cases z
      | some e => rw [h] at z; exact ⟨e, rfl, Option.some.inj z⟩
    obtain ⟨e, he, ee⟩ := at_m
    refine st_put2 (x := f m) l6 s6 ev_c (ev_var rfl) (ev_var rfl) (ev_var rfl) he (by rw [ee, ok.row m hm]; exact hm) fun G7 H7 e7 l7 => ?_
    have E7 := LocI.up (e6.trans e7) (l6.ext e7).i (List.mem_of_getElem? he) (.lst (intsV (e.2.set m (f m))))
    refine ⟨G7, e7.g, E7.sub, some (.int (m : Int)), _, rfl, E7, sg5.trans e7.g, l7, ?_⟩
    rw [dat_set, d6, ee]
    exact (diag_succ hm).symm
  · rintro σ G6 H6 sg s6 ⟨r5, es', rfl, e6, sg5, l6, d6⟩
    rw [diag_end ok] at d6
    obtain ⟨G7, s7, e7, q7⟩ := frzW e6 l6
    rw [d6] at q7
    have q17 := Mo.mo (R := qC K) ((e5.g.trans sg5).trans s7) q1
    refine sq (st_setChain T (c := ⟨false, diagW c f⟩) e7 gx hx (ev_newChain (ea_V ev_c (ea_R (ev_vR rfl q7) ea_nil))) rfl fun cv' G8 H8 e8 s8 r8 => ?_)
    refine st_ret e8.sub (ev_NL (ev_lst1 (R := qI) (x := kc c) (ev_Z (ev_kind T (ev_vR rfl (Mo.mo s8 q17)))))) fun v G9 H9 e9 p => k v cv' G9 H9 (e8.trans e9) (Mo.mo (R := qC K) e9.g r8) p
def maxN (l : List Nat) : Nat := l.foldl max 0
theorem foldl_maxN : ∀ (l : List Nat) (a : Nat), (a ≤ l.foldl max a ∧ ∀ x ∈ l, x ≤ l.foldl max a) ∧ (l.foldl max a = a ∨ l.foldl max a ∈ l)
  | [], a => ⟨⟨Nat.le_refl a, fun x h => absurd h List.not_mem_nil⟩, .inl rfl⟩
  | y :: r, a => by
    obtain ⟨⟨h1, h2⟩, h3⟩ := foldl_maxN r (max a y)
    refine ⟨⟨Nat.le_trans (Nat.le_max_left _ _) h1, fun x hx => ?_⟩, ?_⟩
    · rcases List.mem_cons.mp hx with rfl | hx
      · exact Nat.le_trans (Nat.le_max_right _ _) h1
      · exact h2 x hx
    · rcases h3 with h3 | h3
      · rcases Nat.le_total a y with q | q
        · refine .inr ?_
          rw [List.foldl_cons, h3, Nat.max_eq_right q]
          exact List.mem_cons_self ..
        · refine .inl ?_
          rw [List.foldl_cons, h3, Nat.max_eq_left q]
      · exact .inr (List.mem_cons_of_mem _ h3)
theorem maxN_ge {l : List Nat} : ∀ x ∈ l, x ≤ maxN l := (foldl_maxN l 0).1.2
theorem maxN_mem {l : List Nat} (h : l ≠ []) : maxN l ∈ l := by
  rcases (foldl_maxN l 0).2 with z | z
  · cases l with
    | nil => exact absurd rfl h
    | cons x r =>
      have := maxN_ge (l := x :: r) x (List.mem_cons_self ..)
      have e : maxN (x :: r) = 0 := z
      have : x = 0 := by omega
      rw [e, ← this]
      exact List.mem_cons_self ..
  · exact z
theorem small_is {c : Chain} : Lrx1.isSmall c = decide (maxN (c.weights.map maxN) ≤ 1000000) := by
  rw [Bool.eq_iff_iff, decide_eq_true_iff]
  unfold Lrx1.isSmall
  rw [List.all_eq_true]
  have em : Lrx1.maxWeight = 1000000 := rfl
  rw [em]
  constructor
  · intro h
    by_cases q : c.weights.map maxN = []
    · rw [q]; decide
    · obtain ⟨row, hr, e⟩ := List.mem_map.mp (maxN_mem q)
      rw [← e]
      by_cases q2 : row = []
      · subst q2; decide
      · exact of_decide_eq_true (List.all_eq_true.mp (h row hr) _ (maxN_mem q2))
  · intro h row hr
    rw [List.all_eq_true]
    intro x hx
    have a := maxN_ge x hx
    have b := maxN_ge (maxN row) (List.mem_map.mpr ⟨row, hr, rfl⟩)
    exact decide_eq_true (by omega)
theorem st_lump (c : Chain) (labels : List Nat) : Lrx1.step (some c) (.lump labels) = if Lrx1.isPartition c labels = false then (some c, Lrx1.error (-22)) else if Lrx1.isLumpable c labels = false then (some c, Lrx1.error (-33)) else if Lrx1.isSmall (lumped c labels) = false then (some c, Lrx1.error (-75)) else (some (lumped c labels), Lrx1.number ((blocks labels).length : Nat)) := rfl
abbrev sp_lump (K : PySem.W.Frag) : Sp := spC K (α := Chain × List Nat) (fun a => [aR (qL qN) a.2]) (fun a => COk a.1) (fun a => some a.1) fun a => .lump a.2
theorem sp_lump_len (K : PySem.W.Frag) {vs H Q X} (h : sp_lump K vs H Q X) : vs.length = 2 := spC_len (n := 1) (fun _ => rfl) h
abbrev N_lump : List Str := ["instance", "labels", "chain", "blocks", "rows", "row"]
abbrev P_lump : List Str := ["instance", "labels"]
theorem sc_lump : FnScope N_lump P_lump (defScope s_lump) := ⟨rfl, rfl, rfl, by decide +kernel, rfl, by decide +kernel, by decide +kernel⟩
theorem ok_lump (T : Tx K mg) : Has P w K mg base 7 (He.ga K "lump") P_lump (sp_lump K) := by
  obtain ⟨⟨_, F_Chain_init, b_Chain_init⟩, kp_Chain_init⟩ := ok_Chain_init (P := P) (w := w) (base := base) T
  obtain ⟨⟨_, F_Chain_state_count, b_Chain_state_count⟩, kp_Chain_state_count⟩ := ok_Chain_state_count (P := P) (w := w) (base := base) T
  obtain ⟨⟨_, F_blocks_of, b_blocks_of⟩, kp_blocks_of⟩ := ok_blocks_of (P := P) (w := w) (base := base) T
  obtain ⟨⟨_, F_is_lumpable_into, b_is_lumpable_into⟩, kp_is_lumpable_into⟩ := ok_is_lumpable_into (P := P) (w := w) (base := base) T
  obtain ⟨⟨_, F_lumped_rows, b_lumped_rows⟩, kp_lumped_rows⟩ := ok_lumped_rows (P := P) (w := w) (base := base) T
  obtain ⟨⟨_, F_no_result, b_no_result⟩, kp_no_result⟩ := ok_no_result (P := P) (w := w) (base := base) T
  obtain ⟨⟨_, F_out_of_range, b_out_of_range⟩, kp_out_of_range⟩ := ok_out_of_range (P := P) (w := w) (base := base) T
  obtain ⟨⟨_, F_weight_too_large, b_weight_too_large⟩, kp_weight_too_large⟩ := ok_weight_too_large (P := P) (w := w) (base := base) T
  obtain ⟨_, h_GREATEST_WEIGHT⟩ := T.i_GREATEST_WEIGHT
  have nd := sc_lump.nd
  refine has_sp T.f_lump sc_lump (fun vs H Q X h => sp_lump_len K h) (fun _ _ _ _ _ _ us hl => match us, hl with | [_, _], _ => rfl) (fun cdv E outer s H X hr vs Q ha => ⟨_, (pss_cons (ps_set (i := 2) nd rfl (.inl rfl) (k_fld K rfl (pv 0)))
      (pss_cons (ps_if (pt_cmpR op_ne (pe_callB (k_len K rfl) (by rfl) T.z_len PySem.boot_len (pa_cons (pv 1) pa_nil)) (pe_meth0 (pv 2) T.c_Chain T.h_Chain_state_count F_Chain_state_count (hr.mono (by decide)) b_Chain_state_count .nil pass0) (by rfl)) (pss_one (ps_ret (pe_call0 F_out_of_range (hr.mono (by decide)) (by rfl) T.g_out_of_range kp_out_of_range b_out_of_range .nil pass0))) pss_nil)
      (pss_cons (ps_set (i := 3) nd rfl (.inl rfl) (pe_call F_blocks_of (hr.mono (by decide)) (by rfl) T.g_blocks_of kp_blocks_of b_blocks_of .nil pass0 (pa_cons (pv 1) pa_nil)))
      (pss_cons (ps_if (pt_not (pt_val (pe_call F_is_lumpable_into (hr.mono (by decide)) (by rfl) T.g_is_lumpable_into kp_is_lumpable_into b_is_lumpable_into .nil pass0 (pa_cons (pv 2) (pa_cons (pv 3) pa_nil))))) (pss_one (ps_ret (pe_call0 F_no_result (hr.mono (by decide)) (by rfl) T.g_no_result kp_no_result b_no_result .nil pass0))) pss_nil)
      (pss_cons (ps_set (i := 4) nd rfl (.inl rfl) (pe_call F_lumped_rows (hr.mono (by decide)) (by rfl) T.g_lumped_rows kp_lumped_rows b_lumped_rows .nil pass0 (pa_cons (pv 2) (pa_cons (pv 3) pa_nil))))
      (pss_cons (ps_if (pt_cmpR op_gt (pe_callB (k_max K rfl rfl) (by rfl) T.z_max (by decide +kernel) (pa_cons (pe_lc (own := [("row", 5)]) rfl nd (k_pil K rfl (pv 4)) (blkOk_by (own := [("row", 5)]) (N := N_lump) (sc := defScope s_lump) (by decide +kernel)) (fun _ _ _ _ _ => (pg_name (i := 5) nd rfl (.inl rfl))) (fun _ _ _ _ _ => pts_nil) (fun _ _ _ _ _ => (pe_callB (k_max K rfl rfl) (by rfl) T.z_max (by decide +kernel) (pa_cons (pv 5) pa_nil)))) pa_nil)) (pe_glob (v := .int 1000000) (by rfl) h_GREATEST_WEIGHT ⟨_, rfl⟩) (by rfl)) (pss_one (ps_ret (pe_call0 F_weight_too_large (hr.mono (by decide)) (by rfl) T.g_weight_too_large kp_weight_too_large b_weight_too_large .nil pass0))) pss_nil)
      (pss_cons (ps_fld (pv 0) (pe_make T.m_Chain F_Chain_init (hr.mono (by decide)) (by rfl) T.g_Chain b_Chain_init .nil pass0 (pa_cons (k_fld K rfl (pv 2)) (pa_cons (pv 4) pa_nil))) rfl)
      (pss_one (ps_ret (pe_lst (pa_cons (pe_callB (k_len K rfl) (by rfl) T.z_len PySem.boot_len (pa_cons (pv 3) pa_nil)) pa_nil))))))))))), ?_⟩)
  obtain ⟨G, a, x, dx, cv, rest, rfl, sm, gx, hx, hc, ⟨v2, _, rfl, h2, rfl⟩, hok, k⟩ := ha
  obtain ⟨c, labels⟩ := a
  have ok : COk c := hok
  have h1 : qC K G cv c := hc
  dsimp only at k h2
  rw [st_lump] at k
  have s8 := ok.le
  refine sq_set sm (ev_chain T hx (ev_var rfl)) fun v G1 H1 e1 p => ?_
  have ev : v = cv := p
  subst ev
  have q1 := Mo.mo (R := qC K) e1.g h1
  refine sq_ifN e1.sub (et_is (et_test (ev_ne (ev_lenL (ev_vR rfl (Mo.mo e1.g h2))) (ev_meth c (ev_vR rfl q1) ea_nil rfl trivial) rfl)) (show _ = !decide (labels.length = size c) from by rw [dec_int_nat])) (fun b G2 H2 e2 => ?_) fun b G2 H2 e2 => ?_
  · have b' : Lrx1.isPartition c labels = false := by
      unfold Lrx1.isPartition
      simpa using b
    rw [if_pos b'] at k
    exact st_ret e2.sub (ev_call () ea_nil trivial) fun v G3 H3 e3 p => k v _ G3 H3 (same_ins hx ((e1.trans e2).trans e3)) (Mo.mo (R := qC K) (e2.trans e3).g q1) p
  · have hl : labels.length = size c := by simpa using b
    have b' : ¬ Lrx1.isPartition c labels = false := by
      unfold Lrx1.isPartition
      rw [decide_eq_true hl]
      decide
    rw [if_neg b'] at k
    have e12 := e1.trans e2
    have q2 := Mo.mo (R := qC K) e2.g q1
    refine sq_set e2.sub (ev_call labels (ea_R (ev_vR rfl (Mo.mo e12.g h2)) ea_nil) (by omega)) fun v4 G3 H3 e3 p3 => ?_
    have e13 := e12.trans e3
    have q3 := Mo.mo (R := qC K) e3.g q2
    refine sq_ifN e3.sub (et_not (et_B (ev_call (c, labels) (ea_R (ev_vR rfl q3) (ea_R (ev_vR rfl p3) ea_nil)) ⟨ok, hl⟩))) (fun d G4 H4 e4 => ?_) fun d G4 H4 e4 => ?_
    · have d' : Lrx1.isLumpable c labels = false := by simpa using d
      rw [if_pos d'] at k
      exact st_ret e4.sub (ev_call () ea_nil trivial) fun v G5 H5 e5 p => k v _ G5 H5 (same_ins hx ((e13.trans e4).trans e5)) (Mo.mo (R := qC K) (e4.trans e5).g q3) p
    · have d' : Lrx1.isLumpable c labels = true := by simpa using d
      rw [d', if_neg (by decide)] at k
      have e14 := e13.trans e4
      have q4 := Mo.mo (R := qC K) e4.g q3
      refine sq_set e4.sub (ev_call (c, labels) (ea_R (ev_vR rfl q4) (ea_R (ev_vR rfl (Mo.mo e4.g p3)) ea_nil)) ⟨ok, hl⟩) fun v5 G5 H5 e5 p5 => ?_
      have e15 := e14.trans e5
      have q5 := Mo.mo (R := qC K) e5.g q4
      have bl := EC.blocks_len (labels := labels)
      have bp := EC.blocks_pos (labels := labels) (by have := ok.pos; omega)
      have lw : (lumped c labels).weights = EC.lumpW c labels := by rw [EC.lumped_is ok hl]
      have wl : (lumped c labels).weights.length = (blocks labels).length := by rw [lw]; exact EC.lump_size c labels
      have wn : (lumped c labels).weights.map maxN ≠ [] := fun z => by
        have := congrArg List.length z
        rw [List.length_map, wl] at this
        simp at this
        rw [this] at bp
        simp at bp
      have rn : ∀ row ∈ (lumped c labels).weights, row ≠ [] := fun row hr z => by
        rw [lw] at hr
        unfold EC.lumpW at hr
        obtain ⟨a, _, e⟩ := List.mem_map.mp hr
        rw [z] at e
        have := congrArg List.length e
        rw [List.length_map] at this
        simp at this
        rw [this] at bp
        simp at bp
      refine sq_ifN e5.sub (et_test (ev_I0 (ev_maxN (ev_NL (ev_mapL (K := K) (R := qN) (S := qL qN) (f := maxN) (ev_vR rfl p5) (by rw [wl]; omega) (fun _ => rfl) fun row hr v G' H' e rv => ev_N (ev_maxN (ev_vR rfl rv) (maxN_mem (rn row hr)) maxN_ge))) (maxN_mem wn) maxN_ge) ev_c)) (fun f G6 H6 e6 => ?_) fun f G6 H6 e6 => ?_
      · have f' : Lrx1.isSmall (lumped c labels) = false := by
          rw [small_is, decide_eq_false_iff_not]
          have : ((maxN ((lumped c labels).weights.map maxN) : Nat) : Int) > 1000000 := of_decide_eq_true f
          omega
        rw [if_pos f'] at k
        exact st_ret e6.sub (ev_call () ea_nil trivial) fun v G7 H7 e7 p => k v _ G7 H7 (same_ins hx ((e15.trans e6).trans e7)) (Mo.mo (R := qC K) (e6.trans e7).g q5) p
      · have f' : Lrx1.isSmall (lumped c labels) = true := by
          rw [small_is, decide_eq_true_iff]
          have : ¬ ((maxN ((lumped c labels).weights.map maxN) : Nat) : Int) > 1000000 := of_decide_eq_false f
          omega
        rw [f', if_neg (by decide)] at k
        have e16 := e15.trans e6
        have q6 := Mo.mo (R := qC K) e6.g q5
        refine sq (st_setChain T (c := lumped c labels) e16 gx hx (ev_newChain (ea_V (ev_V (ev_kind (c := c) T (ev_vR rfl q6)) (by rw [EC.lumped_is ok hl]; rfl)) (ea_R (ev_vR rfl (Mo.mo e6.g p5)) ea_nil))) rfl fun cv' G8 H8 e8 s8 r8 => ?_)
        exact st_ret e8.sub (ev_NL (ev_lst1 (R := qI) (ev_Z (ev_lenL (ev_vR (R := qL (qL qN)) rfl (Mo.mo (((e4.trans e5).trans e6).g.trans s8) p3)))))) fun v G9 H9 e9 p => k v cv' G9 H9 (e8.trans e9) (Mo.mo (R := qC K) e9.g r8) p
end
/-! what each step leaves is a chain within its ranges -/
theorem cok_setW {c : Chain} (ok : COk c) {i j y : Nat} (hi : i < size c) (hj : j < size c) (h : wtB c i j y = true) : COk { c with weights := c.weights.set i ((c.weights.getD i []).set j y) } := by
  refine cok_setRow ok hi ?_
  unfold rowB
  rw [Bool.and_eq_true]
  refine ⟨decide_eq_true (by rw [List.length_set]; exact ok.row i hi), ?_⟩
  rw [List.all_eq_true]
  rintro ⟨x, b⟩ hx
  have hx := List.mem_zipIdx_iff_getElem?.mp hx
  have hx : ((c.weights.getD i []).set j y)[b]? = some x := by simpa using hx
  rw [List.getElem?_set] at hx
  by_cases q : j = b
  · subst q
    rw [if_pos rfl] at hx
    split at hx
    · rw [← Option.some.inj hx]; exact h
    · cases hx
  · rw [if_neg q] at hx
    have e : weight c i b = x := getD_at hx
    refine Classical.byContradiction fun z => ?_
    have z : wtB c i b x = false := by simpa using z
    rcases (wt_is c i b x).mp z with z | ⟨z1, z2, z3⟩
    · have := ok.low i b
      have : 1000000 < x := z
      omega
    · subst z2
      have := ok.diag z1 i
      omega
theorem erase_get {α : Type} {l : List α} {i j : Nat} : (l.eraseIdx i)[j]? = l[if j < i then j else j + 1]? := by
  rw [List.getElem?_eraseIdx]
  split <;> rfl
theorem cok_remove {c : Chain} (ok : COk c) {i : Nat} (hi : i < size c) (h1 : size c ≠ 1) : COk { c with weights := (c.weights.eraseIdx i).map fun row => row.eraseIdx i } := by
  have pos := ok.pos
  have hi' : i < c.weights.length := hi
  have sz : size { c with weights := (c.weights.eraseIdx i).map fun row => row.eraseIdx i } = size c - 1 := by
    show ((c.weights.eraseIdx i).map fun row => row.eraseIdx i).length = _
    rw [List.length_map, List.length_eraseIdx, if_pos hi']
    rfl
  have gd : ∀ a, ((c.weights.eraseIdx i).map fun row => row.eraseIdx i).getD a [] = (c.weights.getD (if a < i then a else a + 1) []).eraseIdx i := fun a => by
    rw [List.getD_eq_getElem?_getD, List.getD_eq_getElem?_getD, List.getElem?_map, erase_get]
    cases c.weights[if a < i then a else a + 1]? <;> simp
  have wt : ∀ a b, weight { c with weights := (c.weights.eraseIdx i).map fun row => row.eraseIdx i } a b = weight c (if a < i then a else a + 1) (if b < i then b else b + 1) := fun a b => by
    show (((c.weights.eraseIdx i).map fun row => row.eraseIdx i).getD a []).getD b 0 = _
    rw [gd, List.getD_eq_getElem?_getD, erase_get, ← List.getD_eq_getElem?_getD]
    rfl
  refine ⟨by rw [sz]; omega, by rw [sz]; have := ok.le; omega, fun a ha => ?_, fun a b => ?_, fun hc a => ?_⟩
  · rw [sz] at ha ⊢
    show (((c.weights.eraseIdx i).map fun row => row.eraseIdx i).getD a []).length = _
    have r := ok.row (if a < i then a else a + 1) (by split <;> omega)
    rw [gd, List.length_eraseIdx, r, if_pos hi]
  · rw [wt]; exact ok.low _ _
  · rw [wt]; exact ok.diag hc _
theorem cok_create {ic n : Nat} (h1 : n ≠ 0) (h8 : n ≤ 8) : COk ⟨ic == 1, List.replicate n (List.replicate n 0)⟩ := by
  have sz : size (⟨ic == 1, List.replicate n (List.replicate n 0)⟩ : Chain) = n := by simp [size]
  have wt : ∀ a b, weight (⟨ic == 1, List.replicate n (List.replicate n 0)⟩ : Chain) a b = 0 := fun a b => by
    show ((List.replicate n (List.replicate n 0)).getD a []).getD b 0 = 0
    rw [List.getD_eq_getElem?_getD (l := List.replicate n (List.replicate n 0)), List.getElem?_replicate]
    split
    · rw [Option.getD_some, List.getD_eq_getElem?_getD, List.getElem?_replicate]
      split <;> rfl
    · simp
  refine ⟨by rw [sz]; omega, by rw [sz]; exact h8, fun a ha => ?_, fun a b => by rw [wt]; omega, fun _ a => wt a a⟩
  rw [sz] at ha ⊢
  show ((List.replicate n (List.replicate n 0)).getD a []).length = n
  rw [List.getD_eq_getElem?_getD, List.getElem?_replicate, if_pos ha]
  simp
def SOk (st : Option Chain) : Prop := ∀ c, st = some c → COk c
theorem step_ok {st : Option Chain} (h : SOk st) (x : Lrx1.Call) : SOk (Lrx1.step st x).1 := by
  cases st with
  | none =>
    cases x
    case create ic n =>
      rw [st_create]
      split
      · exact h
      · rename_i z
        intro c e
        rw [not_or, not_or] at z
        have z3 : ¬ 8 < n := z.2.2
        have : (⟨ic == 1, List.replicate n (List.replicate n 0)⟩ : Chain) = c := Option.some.inj e
        subst this
        exact cok_create z.2.1 (by omega)
    all_goals
      intro c e
      cases e
  | some c =>
    have ok := h c rfl
    cases x
    case create ic n =>
      rw [st_create]
      split
      · exact h
      · rename_i z
        intro c e
        rw [not_or, not_or] at z
        have z3 : ¬ 8 < n := z.2.2
        have : (⟨ic == 1, List.replicate n (List.replicate n 0)⟩ : Chain) = c := Option.some.inj e
        subst this
        exact cok_create z.2.1 (by omega)
    case setWeight i j y =>
      rw [st_setW]
      split
      · exact h
      · rename_i z
        split
        · exact h
        · rename_i z2
          intro c' e
          have : ({ c with weights := c.weights.set i ((c.weights.getD i []).set j y) } : Chain) = c' := Option.some.inj e
          subst this
          have z' : isState c i = true ∧ isState c j = true := by simpa using z
          refine cok_setW ok (of_decide_eq_true z'.1) (of_decide_eq_true z'.2) ?_
          refine Classical.byContradiction fun q => z2 ((wt_is c i j y).mp (by simpa using q))
    case setRow i ws =>
      rw [st_setRow]
      split
      · exact h
      · rename_i z
        split
        · exact h
        · rename_i z2
          intro c' e
          have : ({ c with weights := c.weights.set i ws } : Chain) = c' := Option.some.inj e
          subst this
          have z' : isState c i = true := by simpa using z
          have hi : i < size c := of_decide_eq_true z'
          refine cok_setRow ok hi ?_
          refine Classical.byContradiction fun q => z2 ((row_is hi ws).mp (by simpa using q))
    case removeState i =>
      rw [st_remove]
      split
      · exact h
      · rename_i z
        split
        · exact h
        · rename_i z2
          intro c' e
          have : ({ c with weights := (c.weights.eraseIdx i).map fun row => row.eraseIdx i } : Chain) = c' := Option.some.inj e
          subst this
          have z' : isState c i = true := by simpa using z
          exact cok_remove ok (of_decide_eq_true z') z2
    case uniformize r =>
      rw [st_unif]
      split
      · exact h
      · split
        · exact h
        · rename_i z
          intro c' e
          have : (⟨false, diagW c fun i => r - rowSum c i⟩ : Chain) = c' := Option.some.inj e
          subst this
          rw [not_or, not_or] at z
          have z3 : ¬ 1000000 < r := z.2.2
          exact cok_diag ok fun i hi => by omega
    case embed =>
      rw [st_embed]
      intro c' e
      have : (⟨false, diagW c fun _ => 0⟩ : Chain) = c' := Option.some.inj e
      subst this
      exact cok_diag ok fun i hi => by omega
    case lump labels =>
      rw [st_lump]
      split
      · exact h
      · rename_i z
        split
        · exact h
        · split
          · exact h
          · rename_i z3
            intro c' e
            have : lumped c labels = c' := Option.some.inj e
            subst this
            have z' : Lrx1.isPartition c labels = true := by simpa using z
            exact EC.cok_lump ok (of_decide_eq_true z') (by simpa using z3)
    all_goals exact h
end ER
/-! ## ErN -/
/-! which operation a call asks for -/
namespace ER
open PySem PySem.Spec PyProof.Rows
open L2 hiding St
open Lrx1 (Fraction Chain size)
open EC (COk)
inductive Ar where
  | int (n : Nat)
  | row (l : List Nat)
def qA : Rel Ar := fun G v a => match a with
  | .int n => qN G v n
  | .row l => qL qN G v l
instance : Mo qA := ⟨fun {G G' v a} s h => by
  cases a with
  | int n => exact h
  | row l => exact Mo.mo (R := qL qN) s h⟩
def nameOf : Lrx1.Call → Str
  | .create _ _ => "create"
  | .setWeight _ _ _ => "set_weight"
  | .setRow _ _ => "set_row"
  | .removeState _ => "remove_state"
  | .uniformize _ => "uniformize"
  | .embed => "embed"
  | .lump _ => "lump"
  | .getWeight _ _ => "get_weight"
  | .probability _ _ => "probability"
  | .generator _ _ => "generator"
  | .classes => "classes"
  | .classInfo _ => "class_info"
  | .distance _ _ => "distance"
  | .stationary _ => "stationary"
  | .hitting _ _ => "hitting_probability"
  | .hittingTime _ _ => "hitting_time"
  | .absorption _ => "absorption"
  | .returnTime _ => "return_time"
  | .visits _ _ => "visits"
  | .longRun _ => "long_run"
  | .afterSteps _ _ => "after_steps"
  | .isReversible _ => "is_reversible"
  | .reversed _ _ => "reversed"
  | .isLumpable _ => "is_lumpable"
  | .watched _ _ _ => "watched"
  | .summary => "summary"
def argsOf : Lrx1.Call → List Ar
  | .create a b => [.int a, .int b]
  | .setWeight a b c => [.int a, .int b, .int c]
  | .setRow a l => [.int a, .row l]
  | .removeState a => [.int a]
  | .uniformize a => [.int a]
  | .embed => []
  | .lump l => [.row l]
  | .getWeight a b => [.int a, .int b]
  | .probability a b => [.int a, .int b]
  | .generator a b => [.int a, .int b]
  | .classes => []
  | .classInfo a => [.int a]
  | .distance a b => [.int a, .int b]
  | .stationary a => [.int a]
  | .hitting a l => [.int a, .row l]
  | .hittingTime a l => [.int a, .row l]
  | .absorption a => [.int a]
  | .returnTime a => [.int a]
  | .visits a b => [.int a, .int b]
  | .longRun a => [.int a]
  | .afterSteps a l => [.int a, .row l]
  | .isReversible a => [.int a]
  | .reversed a b => [.int a, .int b]
  | .isLumpable l => [.row l]
  | .watched a b l => [.int a, .int b, .row l]
  | .summary => []
def isCre : Lrx1.Call → Bool
  | .create _ _ => true
  | _ => false
def isChg : Lrx1.Call → Bool
  | .setWeight _ _ _ | .setRow _ _ | .removeState _ | .uniformize _ | .embed | .lump _ => true
  | _ => false
def isRea : Lrx1.Call → Bool
  | .hitting _ _ | .hittingTime _ _ | .absorption _ | .visits _ _ | .watched _ _ _ => true
  | _ => false
def isSha : Lrx1.Call → Bool
  | .stationary _ | .returnTime _ | .longRun _ | .afterSteps _ _ | .isReversible _ | .reversed _ _ => true
  | _ => false
def isLoo : Lrx1.Call → Bool
  | .getWeight _ _ | .probability _ _ | .generator _ _ | .classes | .classInfo _ | .distance _ _ | .isLumpable _ | .summary => true
  | _ => false
theorem all_kinds (x : Lrx1.Call) (h1 : isCre x = false) (h2 : isChg x = false) (h3 : isRea x = false) (h4 : isSha x = false) : isLoo x = true := by
  cases x <;> first | rfl | (cases h1; done) | (cases h2; done) | (cases h3; done) | (cases h4; done)
def callOk : Lrx1.Call → Prop
  | .hitting _ l => l.length ≤ 1000
  | .hittingTime _ l => l.length ≤ 1000
  | .watched _ _ l => l.length ≤ 1000
  | _ => True
theorem name_eq (n m : Str) : decide (V.str n = V.str m) = (n == m) := by
  by_cases h : n = m
  · subst h; simp
  · have : (n == m) = false := by simpa using h
    rw [this, decide_eq_false]
    intro z
    exact h (V.str.inj z)
section
variable {σ : L2.St} {G H : Hp} {K : PySem.W.Frag} {ta tb te : TE} {D : Ends} {t w : TS} {c : TT}
theorem et_nm {n m : Str} {b : Bool} (h : Ev ta σ G H (isV (.str n))) (e : (n == m) = b) : EvT (tTest (tOp rEq ta (tC (.str m)))) σ G H b :=
  et_is (et_test (ev_eq h ev_c rfl)) (by rw [name_eq, e])
theorem sq_yes (s : Same G H) (h : EvT c σ G H true) (k : ∀ G' H', Ext G H G' H' → t { D with nx := w D } σ H') : tSeq (tIfS c t tNext) w D σ H :=
  sq_ifN s h (fun _ => k) fun z => by cases z
theorem sq_no (s : Same G H) (h : EvT c σ G H false) (k : ∀ G' H', Ext G H G' H' → w D σ H') : tSeq (tIfS c t tNext) w D σ H :=
  sq_ifN s h (fun z => by cases z) fun _ => k
theorem ev_gI {as : List Ar} {k n : Nat} (h : Ev ta σ G H (isR (qL qA) as)) (hb : Ev tb σ G H (isV (.int (k : Int)))) (e : as[k]? = some (.int n)) : Ev (tOp (rIxL K) ta tb) σ G H (isV (.int (n : Int))) := (ev_ixL (R := qA) h hb e : Ev _ σ G H (isR qA (.int n)))
theorem ev_gR {as : List Ar} {k : Nat} {l : List Nat} (h : Ev ta σ G H (isR (qL qA) as)) (hb : Ev tb σ G H (isV (.int (k : Int)))) (e : as[k]? = some (.row l)) : Ev (tOp (rIxL K) ta tb) σ G H (isR (qL qN) l) := (ev_ixL (R := qA) h hb e : Ev _ σ G H (isR qA (.row l)))
end
section
variable {P : Program} {w : World} {K : PySem.W.Frag} {mg : Str → Option Value} {base : Heap}
theorem st_callC {α : Type} {A : α → List Arg} {ok : α → Prop} {st : α → Option Chain} {call : α → Lrx1.Call} {E : XK} {t : TA} {σ : L2.St} {D : Ends} {G H G1 H1 : Hp} {x dx : Addr} {cv : V} (a : α) (e : Ext G H G1 H1) (gx : G x = none) (hx : H x = some (insO K dx cv)) (hc : qO (qC K) G cv (st a))
    (h : EvA t σ G1 H1 (aV (.ref x) :: A a)) (hok : ok a) (k : ∀ v cv' G' H', Ext G (upd H x (insO K dx cv')) G' H' → qO (qC K) G' cv' (Lrx1.step (st a) (call a)).1 → qL qI G' v (toL (Lrx1.step (st a) (call a)).2) → D.rt v H') : tRet (tCall (spC K A ok st call) [] E t) D σ H1 :=
  h G1 H1 (.refl e.sub) _ fun vs G2 H2 e2 ⟨v, rest, hv, h1, h2⟩ => by
    have ev : v = .ref x := h1
    subst ev hv
    have e12 := e.trans e2
    refine ⟨G2, a, x, dx, cv, rest, by rw [List.append_nil], e2.sub, e12.out hx gx, e12.h _ _ hx, Mo.mo e12.g hc, h2, hok, fun v' cv' G' H' e' r p => k v' cv' G' H' ((e12.mut gx hx).trans e') r p⟩
abbrev NmA (a : Chain × Lrx1.Call) : List Arg := [aV (.str (nameOf a.2)), aR (qL qA) (argsOf a.2)]
abbrev sp_change (K : PySem.W.Frag) : Sp := spC K (α := Chain × Lrx1.Call) NmA (fun a => COk a.1 ∧ isChg a.2 = true) (fun a => some a.1) fun a => a.2
theorem sp_change_len (K : PySem.W.Frag) {vs H Q X} (h : sp_change K vs H Q X) : vs.length = 3 := spC_len (n := 2) (fun _ => rfl) h
abbrev N_change : List Str := ["instance", "name", "given"]
abbrev P_change : List Str := ["instance", "name", "given"]
theorem sc_change : FnScope N_change P_change (defScope s_change) := ⟨rfl, rfl, rfl, by decide +kernel, rfl, by decide +kernel, by decide +kernel⟩
theorem ok_change (T : Tx K mg) : Has P w K mg base 8 (He.ga K "change") P_change (sp_change K) := by
  obtain ⟨⟨_, F_embed, b_embed⟩, kp_embed⟩ := ok_embed (P := P) (w := w) (base := base) T
  obtain ⟨⟨_, F_lump, b_lump⟩, kp_lump⟩ := ok_lump (P := P) (w := w) (base := base) T
  obtain ⟨⟨_, F_remove_state, b_remove_state⟩, kp_remove_state⟩ := ok_remove_state (P := P) (w := w) (base := base) T
  obtain ⟨⟨_, F_set_row, b_set_row⟩, kp_set_row⟩ := ok_set_row (P := P) (w := w) (base := base) T
  obtain ⟨⟨_, F_set_weight, b_set_weight⟩, kp_set_weight⟩ := ok_set_weight (P := P) (w := w) (base := base) T
  obtain ⟨⟨_, F_uniformize, b_uniformize⟩, kp_uniformize⟩ := ok_uniformize (P := P) (w := w) (base := base) T
  have nd := sc_change.nd
  refine has_sp T.f_change sc_change (fun vs H Q X h => sp_change_len K h) (fun _ _ _ _ _ _ us hl => match us, hl with | [_, _, _], _ => rfl) (fun cdv E outer s H X hr vs Q ha => ⟨_, (pss_cons (ps_if (pt_cmpR op_eq (pv 1) pe_str (by rfl)) (pss_one (ps_ret (pe_call F_set_weight (hr.mono (by decide)) (by rfl) T.g_set_weight kp_set_weight b_set_weight .nil pass0 (pa_cons (pv 0) (pa_cons (pe_ix (k_ixl K rfl) (pv 2) pe_int (fun _ _ => rfl)) (pa_cons (pe_ix (k_ixl K rfl) (pv 2) pe_int (fun _ _ => rfl)) (pa_cons (pe_ix (k_ixl K rfl) (pv 2) pe_int (fun _ _ => rfl)) pa_nil))))))) pss_nil)
      (pss_cons (ps_if (pt_cmpR op_eq (pv 1) pe_str (by rfl)) (pss_one (ps_ret (pe_call F_set_row (hr.mono (by decide)) (by rfl) T.g_set_row kp_set_row b_set_row .nil pass0 (pa_cons (pv 0) (pa_cons (pe_ix (k_ixl K rfl) (pv 2) pe_int (fun _ _ => rfl)) (pa_cons (pe_ix (k_ixl K rfl) (pv 2) pe_int (fun _ _ => rfl)) pa_nil)))))) pss_nil)
      (pss_cons (ps_if (pt_cmpR op_eq (pv 1) pe_str (by rfl)) (pss_one (ps_ret (pe_call F_remove_state (hr.mono (by decide)) (by rfl) T.g_remove_state kp_remove_state b_remove_state .nil pass0 (pa_cons (pv 0) (pa_cons (pe_ix (k_ixl K rfl) (pv 2) pe_int (fun _ _ => rfl)) pa_nil))))) pss_nil)
      (pss_cons (ps_if (pt_cmpR op_eq (pv 1) pe_str (by rfl)) (pss_one (ps_ret (pe_call F_uniformize (hr.mono (by decide)) (by rfl) T.g_uniformize kp_uniformize b_uniformize .nil pass0 (pa_cons (pv 0) (pa_cons (pe_ix (k_ixl K rfl) (pv 2) pe_int (fun _ _ => rfl)) pa_nil))))) pss_nil)
      (pss_cons (ps_if (pt_cmpR op_eq (pv 1) pe_str (by rfl)) (pss_one (ps_ret (pe_call F_embed (hr.mono (by decide)) (by rfl) T.g_embed kp_embed b_embed .nil pass0 (pa_cons (pv 0) pa_nil)))) pss_nil)
      (pss_one (ps_ret (pe_call F_lump (hr.mono (by decide)) (by rfl) T.g_lump kp_lump b_lump .nil pass0 (pa_cons (pv 0) (pa_cons (pe_ix (k_ixl K rfl) (pv 2) pe_int (fun _ _ => rfl)) pa_nil)))))))))), ?_⟩)
  obtain ⟨G, a, x, dx, cv, rest, rfl, sm, gx, hx, hc, ⟨_, _, rfl, rfl, v3, _, rfl, h3, rfl⟩, hok, k⟩ := ha
  obtain ⟨c, call⟩ := a
  obtain ⟨ok, ch⟩ := hok
  replace ok : COk c := ok
  have h1 : qC K G cv c := hc
  clear hc
  replace h3 : qL qA G v3 (argsOf call) := h3
  dsimp only at k
  cases call <;> try (exact absurd ch Bool.false_ne_true)
  case setWeight i j y =>
    refine sq_yes sm (et_nm (ev_var rfl) (by dsimp only [nameOf]; decide)) fun G2 H2 e2 => ?_
    have g := ev_vR (σ := L2.start N_change [V.ref x, V.str (nameOf (.setWeight i j y)), v3]) (G := G2) (H := H2) (R := qL qA) (i := 2) rfl (Mo.mo e2.g h3)
    exact st_callC (c, i, j, y) e2 gx hx h1 (ea_V (ev_var rfl) (ea_V (ev_gI g ev_c rfl) (ea_V (ev_gI (k := 1) g ev_c rfl) (ea_V (ev_gI (k := 2) g ev_c rfl) ea_nil)))) ok k
  case setRow i l =>
    refine sq_no sm (et_nm (ev_var rfl) (by dsimp only [nameOf]; decide)) fun G2 H2 e2 => ?_
    refine sq_yes e2.sub (et_nm (ev_var rfl) (by dsimp only [nameOf]; decide)) fun G3 H3 e3 => ?_
    have e23 := e2.trans e3
    have g := ev_vR (σ := L2.start N_change [V.ref x, V.str (nameOf (.setRow i l)), v3]) (G := G3) (H := H3) (R := qL qA) (i := 2) rfl (Mo.mo e23.g h3)
    exact st_callC (c, i, l) e23 gx hx h1 (ea_V (ev_var rfl) (ea_V (ev_gI g ev_c rfl) (ea_R (ev_gR (k := 1) g ev_c rfl) ea_nil))) ok k
  case removeState i =>
    refine sq_no sm (et_nm (ev_var rfl) (by dsimp only [nameOf]; decide)) fun G2 H2 e2 => ?_
    refine sq_no e2.sub (et_nm (ev_var rfl) (by dsimp only [nameOf]; decide)) fun G3 H3 e3 => ?_
    refine sq_yes e3.sub (et_nm (ev_var rfl) (by dsimp only [nameOf]; decide)) fun G4 H4 e4 => ?_
    have e24 := (e2.trans e3).trans e4
    have g := ev_vR (σ := L2.start N_change [V.ref x, V.str (nameOf (.removeState i)), v3]) (G := G4) (H := H4) (R := qL qA) (i := 2) rfl (Mo.mo e24.g h3)
    exact st_callC (c, i) e24 gx hx h1 (ea_V (ev_var rfl) (ea_V (ev_gI g ev_c rfl) ea_nil)) ok k
  case uniformize i =>
    refine sq_no sm (et_nm (ev_var rfl) (by dsimp only [nameOf]; decide)) fun G2 H2 e2 => ?_
    refine sq_no e2.sub (et_nm (ev_var rfl) (by dsimp only [nameOf]; decide)) fun G3 H3 e3 => ?_
    refine sq_no e3.sub (et_nm (ev_var rfl) (by dsimp only [nameOf]; decide)) fun G4 H4 e4 => ?_
    refine sq_yes e4.sub (et_nm (ev_var rfl) (by dsimp only [nameOf]; decide)) fun G5 H5 e5 => ?_
    have e25 := ((e2.trans e3).trans e4).trans e5
    have g := ev_vR (σ := L2.start N_change [V.ref x, V.str (nameOf (.uniformize i)), v3]) (G := G5) (H := H5) (R := qL qA) (i := 2) rfl (Mo.mo e25.g h3)
    exact st_callC (c, i) e25 gx hx h1 (ea_V (ev_var rfl) (ea_V (ev_gI g ev_c rfl) ea_nil)) ok k
  case embed =>
    refine sq_no sm (et_nm (ev_var rfl) (by dsimp only [nameOf]; decide)) fun G2 H2 e2 => ?_
    refine sq_no e2.sub (et_nm (ev_var rfl) (by dsimp only [nameOf]; decide)) fun G3 H3 e3 => ?_
    refine sq_no e3.sub (et_nm (ev_var rfl) (by dsimp only [nameOf]; decide)) fun G4 H4 e4 => ?_
    refine sq_no e4.sub (et_nm (ev_var rfl) (by dsimp only [nameOf]; decide)) fun G5 H5 e5 => ?_
    refine sq_yes e5.sub (et_nm (ev_var rfl) (by dsimp only [nameOf]; decide)) fun G6 H6 e6 => ?_
    exact st_callC c ((((e2.trans e3).trans e4).trans e5).trans e6) gx hx h1 (ea_V (ev_var rfl) ea_nil) ok k
  case lump l =>
    refine sq_no sm (et_nm (ev_var rfl) (by dsimp only [nameOf]; decide)) fun G2 H2 e2 => ?_
    refine sq_no e2.sub (et_nm (ev_var rfl) (by dsimp only [nameOf]; decide)) fun G3 H3 e3 => ?_
    refine sq_no e3.sub (et_nm (ev_var rfl) (by dsimp only [nameOf]; decide)) fun G4 H4 e4 => ?_
    refine sq_no e4.sub (et_nm (ev_var rfl) (by dsimp only [nameOf]; decide)) fun G5 H5 e5 => ?_
    refine sq_no e5.sub (et_nm (ev_var rfl) (by dsimp only [nameOf]; decide)) fun G6 H6 e6 => ?_
    have e26 := (((e2.trans e3).trans e4).trans e5).trans e6
    have g := ev_vR (σ := L2.start N_change [V.ref x, V.str (nameOf (.lump l)), v3]) (G := G6) (H := H6) (R := qL qA) (i := 2) rfl (Mo.mo e26.g h3)
    exact st_callC (c, l) e26 gx hx h1 (ea_V (ev_var rfl) (ea_R (ev_gR g ev_c rfl) ea_nil)) ok k
abbrev OpC (K : PySem.W.Frag) (p : Lrx1.Call → Bool) : Sp := spG (α := Chain × Lrx1.Call) (fun a => [aR (qC K) a.1, aV (.str (nameOf a.2)), aR (qL qA) (argsOf a.2)]) (fun a => COk a.1 ∧ p a.2 = true ∧ callOk a.2) fun a => isR (qL qI) (opR a.1 a.2)
abbrev sp_reach (K : PySem.W.Frag) : Sp := OpC K isRea
abbrev N_reach : List Str := ["chain", "name", "given"]
abbrev P_reach : List Str := ["chain", "name", "given"]
theorem sc_reach : FnScope N_reach P_reach (defScope s_reach) := ⟨rfl, rfl, rfl, by decide +kernel, rfl, by decide +kernel, by decide +kernel⟩
theorem ok_reach (T : Tx K mg) : Has P w K mg base 8 (He.ga K "reach") P_reach (sp_reach K) := by
  obtain ⟨⟨_, F_absorption, b_absorption⟩, kp_absorption⟩ := ok_absorption (P := P) (w := w) (base := base) T
  obtain ⟨⟨_, F_hitting_probability, b_hitting_probability⟩, kp_hitting_probability⟩ := ok_hitting_probability (P := P) (w := w) (base := base) T
  obtain ⟨⟨_, F_hitting_time, b_hitting_time⟩, kp_hitting_time⟩ := ok_hitting_time (P := P) (w := w) (base := base) T
  obtain ⟨⟨_, F_visits, b_visits⟩, kp_visits⟩ := ok_visits (P := P) (w := w) (base := base) T
  obtain ⟨⟨_, F_watched, b_watched⟩, kp_watched⟩ := ok_watched (P := P) (w := w) (base := base) T
  have nd := sc_reach.nd
  refine has_mk T.f_reach sc_reach (fun _ => rfl) (fun _ _ _ _ _ _ us hl => match us, hl with | [_, _, _], _ => rfl) (fun cdv E outer s H X hr a G vs Q sm ha hok k => ⟨_, (pss_cons (ps_if (pt_cmpR op_eq (pv 1) pe_str (by rfl)) (pss_one (ps_ret (pe_call F_hitting_probability (hr.mono (by decide)) (by rfl) T.g_hitting_probability kp_hitting_probability b_hitting_probability .nil pass0 (pa_cons (pv 0) (pa_cons (pe_ix (k_ixl K rfl) (pv 2) pe_int (fun _ _ => rfl)) (pa_cons (pe_ix (k_ixl K rfl) (pv 2) pe_int (fun _ _ => rfl)) pa_nil)))))) pss_nil)
      (pss_cons (ps_if (pt_cmpR op_eq (pv 1) pe_str (by rfl)) (pss_one (ps_ret (pe_call F_hitting_time (hr.mono (by decide)) (by rfl) T.g_hitting_time kp_hitting_time b_hitting_time .nil pass0 (pa_cons (pv 0) (pa_cons (pe_ix (k_ixl K rfl) (pv 2) pe_int (fun _ _ => rfl)) (pa_cons (pe_ix (k_ixl K rfl) (pv 2) pe_int (fun _ _ => rfl)) pa_nil)))))) pss_nil)
      (pss_cons (ps_if (pt_cmpR op_eq (pv 1) pe_str (by rfl)) (pss_one (ps_ret (pe_call F_absorption (hr.mono (by decide)) (by rfl) T.g_absorption kp_absorption b_absorption .nil pass0 (pa_cons (pv 0) (pa_cons (pe_ix (k_ixl K rfl) (pv 2) pe_int (fun _ _ => rfl)) pa_nil))))) pss_nil)
      (pss_cons (ps_if (pt_cmpR op_eq (pv 1) pe_str (by rfl)) (pss_one (ps_ret (pe_call F_visits (hr.mono (by decide)) (by rfl) T.g_visits kp_visits b_visits .nil pass0 (pa_cons (pv 0) (pa_cons (pe_ix (k_ixl K rfl) (pv 2) pe_int (fun _ _ => rfl)) (pa_cons (pe_ix (k_ixl K rfl) (pv 2) pe_int (fun _ _ => rfl)) pa_nil)))))) pss_nil)
      (pss_one (ps_ret (pe_call F_watched (hr.mono (by decide)) (by rfl) T.g_watched kp_watched b_watched .nil pass0 (pa_cons (pv 0) (pa_cons (pe_ix (k_ixl K rfl) (pv 2) pe_int (fun _ _ => rfl)) (pa_cons (pe_ix (k_ixl K rfl) (pv 2) pe_int (fun _ _ => rfl)) (pa_cons (pe_ix (k_ixl K rfl) (pv 2) pe_int (fun _ _ => rfl)) pa_nil))))))))))), ?_⟩)
  obtain ⟨v1, _, rfl, h1, _, _, rfl, rfl, v3, _, rfl, h3, rfl⟩ := ha
  obtain ⟨c, call⟩ := a
  obtain ⟨ok, ch, co⟩ := hok
  replace ok : COk c := ok
  replace h1 : qC K G v1 c := h1
  replace h3 : qL qA G v3 (argsOf call) := h3
  dsimp only at k ch co
  cases call <;> try (exact absurd ch Bool.false_ne_true)
  case hitting i l =>
    refine sq_yes sm (et_nm (ev_var rfl) (by dsimp only [nameOf]; decide)) fun G2 H2 e2 => ?_
    have g := ev_vR (σ := L2.start N_reach [v1, V.str (nameOf (.hitting i l)), v3]) (G := G2) (H := H2) (R := qL qA) (i := 2) rfl (Mo.mo e2.g h3)
    exact st_ret e2.sub (ev_call (c, i, l) (ea_R (ev_vR rfl (Mo.mo e2.g h1)) (ea_V (ev_gI g ev_c rfl) (ea_R (ev_gR (k := 1) g ev_c rfl) ea_nil))) ⟨ok, co⟩) fun v G' H' e p => k v G' H' (e2.trans e) p
  case hittingTime i l =>
    refine sq_no sm (et_nm (ev_var rfl) (by dsimp only [nameOf]; decide)) fun G2 H2 e2 => ?_
    refine sq_yes e2.sub (et_nm (ev_var rfl) (by dsimp only [nameOf]; decide)) fun G3 H3 e3 => ?_
    have e23 := e2.trans e3
    have g := ev_vR (σ := L2.start N_reach [v1, V.str (nameOf (.hittingTime i l)), v3]) (G := G3) (H := H3) (R := qL qA) (i := 2) rfl (Mo.mo e23.g h3)
    exact st_ret e3.sub (ev_call (c, i, l) (ea_R (ev_vR rfl (Mo.mo e23.g h1)) (ea_V (ev_gI g ev_c rfl) (ea_R (ev_gR (k := 1) g ev_c rfl) ea_nil))) ⟨ok, co⟩) fun v G' H' e p => k v G' H' (e23.trans e) p
  case absorption i =>
    refine sq_no sm (et_nm (ev_var rfl) (by dsimp only [nameOf]; decide)) fun G2 H2 e2 => ?_
    refine sq_no e2.sub (et_nm (ev_var rfl) (by dsimp only [nameOf]; decide)) fun G3 H3 e3 => ?_
    refine sq_yes e3.sub (et_nm (ev_var rfl) (by dsimp only [nameOf]; decide)) fun G4 H4 e4 => ?_
    have e24 := (e2.trans e3).trans e4
    have g := ev_vR (σ := L2.start N_reach [v1, V.str (nameOf (.absorption i)), v3]) (G := G4) (H := H4) (R := qL qA) (i := 2) rfl (Mo.mo e24.g h3)
    exact st_ret e4.sub (ev_call (c, i) (ea_R (ev_vR rfl (Mo.mo e24.g h1)) (ea_V (ev_gI g ev_c rfl) ea_nil)) ok) fun v G' H' e p => k v G' H' (e24.trans e) p
  case visits i j =>
    refine sq_no sm (et_nm (ev_var rfl) (by dsimp only [nameOf]; decide)) fun G2 H2 e2 => ?_
    refine sq_no e2.sub (et_nm (ev_var rfl) (by dsimp only [nameOf]; decide)) fun G3 H3 e3 => ?_
    refine sq_no e3.sub (et_nm (ev_var rfl) (by dsimp only [nameOf]; decide)) fun G4 H4 e4 => ?_
    refine sq_yes e4.sub (et_nm (ev_var rfl) (by dsimp only [nameOf]; decide)) fun G5 H5 e5 => ?_
    have e25 := ((e2.trans e3).trans e4).trans e5
    have g := ev_vR (σ := L2.start N_reach [v1, V.str (nameOf (.visits i j)), v3]) (G := G5) (H := H5) (R := qL qA) (i := 2) rfl (Mo.mo e25.g h3)
    exact st_ret e5.sub (ev_call (c, i, j) (ea_R (ev_vR rfl (Mo.mo e25.g h1)) (ea_V (ev_gI g ev_c rfl) (ea_V (ev_gI (k := 1) g ev_c rfl) ea_nil))) ok) fun v G' H' e p => k v G' H' (e25.trans e) p
  case watched i j l =>
    refine sq_no sm (et_nm (ev_var rfl) (by dsimp only [nameOf]; decide)) fun G2 H2 e2 => ?_
    refine sq_no e2.sub (et_nm (ev_var rfl) (by dsimp only [nameOf]; decide)) fun G3 H3 e3 => ?_
    refine sq_no e3.sub (et_nm (ev_var rfl) (by dsimp only [nameOf]; decide)) fun G4 H4 e4 => ?_
    refine sq_no e4.sub (et_nm (ev_var rfl) (by dsimp only [nameOf]; decide)) fun G5 H5 e5 => ?_
    have e25 := ((e2.trans e3).trans e4).trans e5
    have g := ev_vR (σ := L2.start N_reach [v1, V.str (nameOf (.watched i j l)), v3]) (G := G5) (H := H5) (R := qL qA) (i := 2) rfl (Mo.mo e25.g h3)
    exact st_ret e5.sub (ev_call (c, i, j, l) (ea_R (ev_vR rfl (Mo.mo e25.g h1)) (ea_V (ev_gI g ev_c rfl) (ea_V (ev_gI (k := 1) g ev_c rfl) (ea_R (ev_gR (k := 2) g ev_c rfl) ea_nil)))) ⟨ok, co⟩) fun v G' H' e p => k v G' H' (e25.trans e) p
abbrev sp_share (K : PySem.W.Frag) : Sp := OpC K isSha
abbrev N_share : List Str := ["chain", "name", "given"]
abbrev P_share : List Str := ["chain", "name", "given"]
theorem sc_share : FnScope N_share P_share (defScope s_share) := ⟨rfl, rfl, rfl, by decide +kernel, rfl, by decide +kernel, by decide +kernel⟩
theorem ok_share (T : Tx K mg) : Has P w K mg base 9 (He.ga K "share") P_share (sp_share K) := by
  obtain ⟨⟨_, F_after_steps, b_after_steps⟩, kp_after_steps⟩ := ok_after_steps (P := P) (w := w) (base := base) T
  obtain ⟨⟨_, F_is_reversible, b_is_reversible⟩, kp_is_reversible⟩ := ok_is_reversible (P := P) (w := w) (base := base) T
  obtain ⟨⟨_, F_long_run, b_long_run⟩, kp_long_run⟩ := ok_long_run (P := P) (w := w) (base := base) T
  obtain ⟨⟨_, F_return_time, b_return_time⟩, kp_return_time⟩ := ok_return_time (P := P) (w := w) (base := base) T
  obtain ⟨⟨_, F_reversed_generator, b_reversed_generator⟩, kp_reversed_generator⟩ := ok_reversed_generator (P := P) (w := w) (base := base) T
  obtain ⟨⟨_, F_stationary, b_stationary⟩, kp_stationary⟩ := ok_stationary (P := P) (w := w) (base := base) T
  have nd := sc_share.nd
  refine has_mk T.f_share sc_share (fun _ => rfl) (fun _ _ _ _ _ _ us hl => match us, hl with | [_, _, _], _ => rfl) (fun cdv E outer s H X hr a G vs Q sm ha hok k => ⟨_, (pss_cons (ps_if (pt_cmpR op_eq (pv 1) pe_str (by rfl)) (pss_one (ps_ret (pe_call F_stationary (hr.mono (by decide)) (by rfl) T.g_stationary kp_stationary b_stationary .nil pass0 (pa_cons (pv 0) (pa_cons (pe_ix (k_ixl K rfl) (pv 2) pe_int (fun _ _ => rfl)) pa_nil))))) pss_nil)
      (pss_cons (ps_if (pt_cmpR op_eq (pv 1) pe_str (by rfl)) (pss_one (ps_ret (pe_call F_return_time (hr.mono (by decide)) (by rfl) T.g_return_time kp_return_time b_return_time .nil pass0 (pa_cons (pv 0) (pa_cons (pe_ix (k_ixl K rfl) (pv 2) pe_int (fun _ _ => rfl)) pa_nil))))) pss_nil)
      (pss_cons (ps_if (pt_cmpR op_eq (pv 1) pe_str (by rfl)) (pss_one (ps_ret (pe_call F_long_run (hr.mono (by decide)) (by rfl) T.g_long_run kp_long_run b_long_run .nil pass0 (pa_cons (pv 0) (pa_cons (pe_ix (k_ixl K rfl) (pv 2) pe_int (fun _ _ => rfl)) pa_nil))))) pss_nil)
      (pss_cons (ps_if (pt_cmpR op_eq (pv 1) pe_str (by rfl)) (pss_one (ps_ret (pe_call F_after_steps (hr.mono (by decide)) (by rfl) T.g_after_steps kp_after_steps b_after_steps .nil pass0 (pa_cons (pv 0) (pa_cons (pe_ix (k_ixl K rfl) (pv 2) pe_int (fun _ _ => rfl)) (pa_cons (pe_ix (k_ixl K rfl) (pv 2) pe_int (fun _ _ => rfl)) pa_nil)))))) pss_nil)
      (pss_cons (ps_if (pt_cmpR op_eq (pv 1) pe_str (by rfl)) (pss_one (ps_ret (pe_call F_is_reversible (hr.mono (by decide)) (by rfl) T.g_is_reversible kp_is_reversible b_is_reversible .nil pass0 (pa_cons (pv 0) (pa_cons (pe_ix (k_ixl K rfl) (pv 2) pe_int (fun _ _ => rfl)) pa_nil))))) pss_nil)
      (pss_one (ps_ret (pe_call F_reversed_generator (hr.mono (by decide)) (by rfl) T.g_reversed_generator kp_reversed_generator b_reversed_generator .nil pass0 (pa_cons (pv 0) (pa_cons (pe_ix (k_ixl K rfl) (pv 2) pe_int (fun _ _ => rfl)) (pa_cons (pe_ix (k_ixl K rfl) (pv 2) pe_int (fun _ _ => rfl)) pa_nil))))))))))), ?_⟩)
  obtain ⟨v1, _, rfl, h1, _, _, rfl, rfl, v3, _, rfl, h3, rfl⟩ := ha
  obtain ⟨c, call⟩ := a
  obtain ⟨ok, ch, co⟩ := hok
  replace ok : COk c := ok
  replace h1 : qC K G v1 c := h1
  replace h3 : qL qA G v3 (argsOf call) := h3
  dsimp only at k ch co
  cases call <;> try (exact absurd ch Bool.false_ne_true)
  case stationary i =>
    refine sq_yes sm (et_nm (ev_var rfl) (by dsimp only [nameOf]; decide)) fun G2 H2 e2 => ?_
    have g := ev_vR (σ := L2.start N_share [v1, V.str (nameOf (.stationary i)), v3]) (G := G2) (H := H2) (R := qL qA) (i := 2) rfl (Mo.mo e2.g h3)
    exact st_ret e2.sub (ev_call (c, i) (ea_R (ev_vR rfl (Mo.mo e2.g h1)) (ea_V (ev_gI g ev_c rfl) ea_nil)) ok) fun v G' H' e p => k v G' H' (e2.trans e) p
  case returnTime i =>
    refine sq_no sm (et_nm (ev_var rfl) (by dsimp only [nameOf]; decide)) fun G2 H2 e2 => ?_
    refine sq_yes e2.sub (et_nm (ev_var rfl) (by dsimp only [nameOf]; decide)) fun G3 H3 e3 => ?_
    have e23 := e2.trans e3
    have g := ev_vR (σ := L2.start N_share [v1, V.str (nameOf (.returnTime i)), v3]) (G := G3) (H := H3) (R := qL qA) (i := 2) rfl (Mo.mo e23.g h3)
    exact st_ret e3.sub (ev_call (c, i) (ea_R (ev_vR rfl (Mo.mo e23.g h1)) (ea_V (ev_gI g ev_c rfl) ea_nil)) ok) fun v G' H' e p => k v G' H' (e23.trans e) p
  case longRun i =>
    refine sq_no sm (et_nm (ev_var rfl) (by dsimp only [nameOf]; decide)) fun G2 H2 e2 => ?_
    refine sq_no e2.sub (et_nm (ev_var rfl) (by dsimp only [nameOf]; decide)) fun G3 H3 e3 => ?_
    refine sq_yes e3.sub (et_nm (ev_var rfl) (by dsimp only [nameOf]; decide)) fun G4 H4 e4 => ?_
    have e24 := (e2.trans e3).trans e4
    have g := ev_vR (σ := L2.start N_share [v1, V.str (nameOf (.longRun i)), v3]) (G := G4) (H := H4) (R := qL qA) (i := 2) rfl (Mo.mo e24.g h3)
    exact st_ret e4.sub (ev_call (c, i) (ea_R (ev_vR rfl (Mo.mo e24.g h1)) (ea_V (ev_gI g ev_c rfl) ea_nil)) ok) fun v G' H' e p => k v G' H' (e24.trans e) p
  case afterSteps i l =>
    refine sq_no sm (et_nm (ev_var rfl) (by dsimp only [nameOf]; decide)) fun G2 H2 e2 => ?_
    refine sq_no e2.sub (et_nm (ev_var rfl) (by dsimp only [nameOf]; decide)) fun G3 H3 e3 => ?_
    refine sq_no e3.sub (et_nm (ev_var rfl) (by dsimp only [nameOf]; decide)) fun G4 H4 e4 => ?_
    refine sq_yes e4.sub (et_nm (ev_var rfl) (by dsimp only [nameOf]; decide)) fun G5 H5 e5 => ?_
    have e25 := ((e2.trans e3).trans e4).trans e5
    have g := ev_vR (σ := L2.start N_share [v1, V.str (nameOf (.afterSteps i l)), v3]) (G := G5) (H := H5) (R := qL qA) (i := 2) rfl (Mo.mo e25.g h3)
    exact st_ret e5.sub (ev_call (c, i, l) (ea_R (ev_vR rfl (Mo.mo e25.g h1)) (ea_V (ev_gI g ev_c rfl) (ea_R (ev_gR (k := 1) g ev_c rfl) ea_nil))) ok) fun v G' H' e p => k v G' H' (e25.trans e) p
  case isReversible i =>
    refine sq_no sm (et_nm (ev_var rfl) (by dsimp only [nameOf]; decide)) fun G2 H2 e2 => ?_
    refine sq_no e2.sub (et_nm (ev_var rfl) (by dsimp only [nameOf]; decide)) fun G3 H3 e3 => ?_
    refine sq_no e3.sub (et_nm (ev_var rfl) (by dsimp only [nameOf]; decide)) fun G4 H4 e4 => ?_
    refine sq_no e4.sub (et_nm (ev_var rfl) (by dsimp only [nameOf]; decide)) fun G5 H5 e5 => ?_
    refine sq_yes e5.sub (et_nm (ev_var rfl) (by dsimp only [nameOf]; decide)) fun G6 H6 e6 => ?_
    have e26 := (((e2.trans e3).trans e4).trans e5).trans e6
    have g := ev_vR (σ := L2.start N_share [v1, V.str (nameOf (.isReversible i)), v3]) (G := G6) (H := H6) (R := qL qA) (i := 2) rfl (Mo.mo e26.g h3)
    exact st_ret e6.sub (ev_call (c, i) (ea_R (ev_vR rfl (Mo.mo e26.g h1)) (ea_V (ev_gI g ev_c rfl) ea_nil)) ok) fun v G' H' e p => k v G' H' (e26.trans e) p
  case reversed i j =>
    refine sq_no sm (et_nm (ev_var rfl) (by dsimp only [nameOf]; decide)) fun G2 H2 e2 => ?_
    refine sq_no e2.sub (et_nm (ev_var rfl) (by dsimp only [nameOf]; decide)) fun G3 H3 e3 => ?_
    refine sq_no e3.sub (et_nm (ev_var rfl) (by dsimp only [nameOf]; decide)) fun G4 H4 e4 => ?_
    refine sq_no e4.sub (et_nm (ev_var rfl) (by dsimp only [nameOf]; decide)) fun G5 H5 e5 => ?_
    refine sq_no e5.sub (et_nm (ev_var rfl) (by dsimp only [nameOf]; decide)) fun G6 H6 e6 => ?_
    have e26 := (((e2.trans e3).trans e4).trans e5).trans e6
    have g := ev_vR (σ := L2.start N_share [v1, V.str (nameOf (.reversed i j)), v3]) (G := G6) (H := H6) (R := qL qA) (i := 2) rfl (Mo.mo e26.g h3)
    exact st_ret e6.sub (ev_call (c, i, j) (ea_R (ev_vR rfl (Mo.mo e26.g h1)) (ea_V (ev_gI g ev_c rfl) (ea_V (ev_gI (k := 1) g ev_c rfl) ea_nil))) ok) fun v G' H' e p => k v G' H' (e26.trans e) p
abbrev sp_look_up (K : PySem.W.Frag) : Sp := OpC K isLoo
abbrev N_look_up : List Str := ["chain", "name", "given"]
abbrev P_look_up : List Str := ["chain", "name", "given"]
theorem sc_look_up : FnScope N_look_up P_look_up (defScope s_look_up) := ⟨rfl, rfl, rfl, by decide +kernel, rfl, by decide +kernel, by decide +kernel⟩
theorem ok_look_up (T : Tx K mg) : Has P w K mg base 8 (He.ga K "look_up") P_look_up (sp_look_up K) := by
  obtain ⟨⟨_, F_class_info, b_class_info⟩, kp_class_info⟩ := ok_class_info (P := P) (w := w) (base := base) T
  obtain ⟨⟨_, F_classes, b_classes⟩, kp_classes⟩ := ok_classes (P := P) (w := w) (base := base) T
  obtain ⟨⟨_, F_distance, b_distance⟩, kp_distance⟩ := ok_distance (P := P) (w := w) (base := base) T
  obtain ⟨⟨_, F_generator, b_generator⟩, kp_generator⟩ := ok_generator (P := P) (w := w) (base := base) T
  obtain ⟨⟨_, F_get_weight, b_get_weight⟩, kp_get_weight⟩ := ok_get_weight (P := P) (w := w) (base := base) T
  obtain ⟨⟨_, F_is_lumpable, b_is_lumpable⟩, kp_is_lumpable⟩ := ok_is_lumpable (P := P) (w := w) (base := base) T
  obtain ⟨⟨_, F_probability, b_probability⟩, kp_probability⟩ := ok_probability (P := P) (w := w) (base := base) T
  obtain ⟨⟨_, F_summary, b_summary⟩, kp_summary⟩ := ok_summary (P := P) (w := w) (base := base) T
  have nd := sc_look_up.nd
  refine has_mk T.f_look_up sc_look_up (fun _ => rfl) (fun _ _ _ _ _ _ us hl => match us, hl with | [_, _, _], _ => rfl) (fun cdv E outer s H X hr a G vs Q sm ha hok k => ⟨_, (pss_cons (ps_if (pt_cmpR op_eq (pv 1) pe_str (by rfl)) (pss_one (ps_ret (pe_call F_get_weight (hr.mono (by decide)) (by rfl) T.g_get_weight kp_get_weight b_get_weight .nil pass0 (pa_cons (pv 0) (pa_cons (pe_ix (k_ixl K rfl) (pv 2) pe_int (fun _ _ => rfl)) (pa_cons (pe_ix (k_ixl K rfl) (pv 2) pe_int (fun _ _ => rfl)) pa_nil)))))) pss_nil)
      (pss_cons (ps_if (pt_cmpR op_eq (pv 1) pe_str (by rfl)) (pss_one (ps_ret (pe_call F_probability (hr.mono (by decide)) (by rfl) T.g_probability kp_probability b_probability .nil pass0 (pa_cons (pv 0) (pa_cons (pe_ix (k_ixl K rfl) (pv 2) pe_int (fun _ _ => rfl)) (pa_cons (pe_ix (k_ixl K rfl) (pv 2) pe_int (fun _ _ => rfl)) pa_nil)))))) pss_nil)
      (pss_cons (ps_if (pt_cmpR op_eq (pv 1) pe_str (by rfl)) (pss_one (ps_ret (pe_call F_generator (hr.mono (by decide)) (by rfl) T.g_generator kp_generator b_generator .nil pass0 (pa_cons (pv 0) (pa_cons (pe_ix (k_ixl K rfl) (pv 2) pe_int (fun _ _ => rfl)) (pa_cons (pe_ix (k_ixl K rfl) (pv 2) pe_int (fun _ _ => rfl)) pa_nil)))))) pss_nil)
      (pss_cons (ps_if (pt_cmpR op_eq (pv 1) pe_str (by rfl)) (pss_one (ps_ret (pe_call F_classes (hr.mono (by decide)) (by rfl) T.g_classes kp_classes b_classes .nil pass0 (pa_cons (pv 0) pa_nil)))) pss_nil)
      (pss_cons (ps_if (pt_cmpR op_eq (pv 1) pe_str (by rfl)) (pss_one (ps_ret (pe_call F_class_info (hr.mono (by decide)) (by rfl) T.g_class_info kp_class_info b_class_info .nil pass0 (pa_cons (pv 0) (pa_cons (pe_ix (k_ixl K rfl) (pv 2) pe_int (fun _ _ => rfl)) pa_nil))))) pss_nil)
      (pss_cons (ps_if (pt_cmpR op_eq (pv 1) pe_str (by rfl)) (pss_one (ps_ret (pe_call F_distance (hr.mono (by decide)) (by rfl) T.g_distance kp_distance b_distance .nil pass0 (pa_cons (pv 0) (pa_cons (pe_ix (k_ixl K rfl) (pv 2) pe_int (fun _ _ => rfl)) (pa_cons (pe_ix (k_ixl K rfl) (pv 2) pe_int (fun _ _ => rfl)) pa_nil)))))) pss_nil)
      (pss_cons (ps_if (pt_cmpR op_eq (pv 1) pe_str (by rfl)) (pss_one (ps_ret (pe_call F_is_lumpable (hr.mono (by decide)) (by rfl) T.g_is_lumpable kp_is_lumpable b_is_lumpable .nil pass0 (pa_cons (pv 0) (pa_cons (pe_ix (k_ixl K rfl) (pv 2) pe_int (fun _ _ => rfl)) pa_nil))))) pss_nil)
      (pss_one (ps_ret (pe_call F_summary (hr.mono (by decide)) (by rfl) T.g_summary kp_summary b_summary .nil pass0 (pa_cons (pv 0) pa_nil))))))))))), ?_⟩)
  obtain ⟨v1, _, rfl, h1, _, _, rfl, rfl, v3, _, rfl, h3, rfl⟩ := ha
  obtain ⟨c, call⟩ := a
  obtain ⟨ok, ch, co⟩ := hok
  replace ok : COk c := ok
  replace h1 : qC K G v1 c := h1
  replace h3 : qL qA G v3 (argsOf call) := h3
  dsimp only at k ch co
  cases call <;> try (exact absurd ch Bool.false_ne_true)
  case getWeight i j =>
    refine sq_yes sm (et_nm (ev_var rfl) (by dsimp only [nameOf]; decide)) fun G2 H2 e2 => ?_
    have g := ev_vR (σ := L2.start N_look_up [v1, V.str (nameOf (.getWeight i j)), v3]) (G := G2) (H := H2) (R := qL qA) (i := 2) rfl (Mo.mo e2.g h3)
    exact st_ret e2.sub (ev_call (c, i, j) (ea_R (ev_vR rfl (Mo.mo e2.g h1)) (ea_V (ev_gI g ev_c rfl) (ea_V (ev_gI (k := 1) g ev_c rfl) ea_nil))) ok) fun v G' H' e p => k v G' H' (e2.trans e) p
  case probability i j =>
    refine sq_no sm (et_nm (ev_var rfl) (by dsimp only [nameOf]; decide)) fun G2 H2 e2 => ?_
    refine sq_yes e2.sub (et_nm (ev_var rfl) (by dsimp only [nameOf]; decide)) fun G3 H3 e3 => ?_
    have e23 := e2.trans e3
    have g := ev_vR (σ := L2.start N_look_up [v1, V.str (nameOf (.probability i j)), v3]) (G := G3) (H := H3) (R := qL qA) (i := 2) rfl (Mo.mo e23.g h3)
    exact st_ret e3.sub (ev_call (c, i, j) (ea_R (ev_vR rfl (Mo.mo e23.g h1)) (ea_V (ev_gI g ev_c rfl) (ea_V (ev_gI (k := 1) g ev_c rfl) ea_nil))) ok) fun v G' H' e p => k v G' H' (e23.trans e) p
  case generator i j =>
    refine sq_no sm (et_nm (ev_var rfl) (by dsimp only [nameOf]; decide)) fun G2 H2 e2 => ?_
    refine sq_no e2.sub (et_nm (ev_var rfl) (by dsimp only [nameOf]; decide)) fun G3 H3 e3 => ?_
    refine sq_yes e3.sub (et_nm (ev_var rfl) (by dsimp only [nameOf]; decide)) fun G4 H4 e4 => ?_
    have e24 := (e2.trans e3).trans e4
    have g := ev_vR (σ := L2.start N_look_up [v1, V.str (nameOf (.generator i j)), v3]) (G := G4) (H := H4) (R := qL qA) (i := 2) rfl (Mo.mo e24.g h3)
    exact st_ret e4.sub (ev_call (c, i, j) (ea_R (ev_vR rfl (Mo.mo e24.g h1)) (ea_V (ev_gI g ev_c rfl) (ea_V (ev_gI (k := 1) g ev_c rfl) ea_nil))) ok) fun v G' H' e p => k v G' H' (e24.trans e) p
  case classes =>
    refine sq_no sm (et_nm (ev_var rfl) (by dsimp only [nameOf]; decide)) fun G2 H2 e2 => ?_
    refine sq_no e2.sub (et_nm (ev_var rfl) (by dsimp only [nameOf]; decide)) fun G3 H3 e3 => ?_
    refine sq_no e3.sub (et_nm (ev_var rfl) (by dsimp only [nameOf]; decide)) fun G4 H4 e4 => ?_
    refine sq_yes e4.sub (et_nm (ev_var rfl) (by dsimp only [nameOf]; decide)) fun G5 H5 e5 => ?_
    have e25 := ((e2.trans e3).trans e4).trans e5
    exact st_ret e5.sub (ev_call c (ea_R (ev_vR rfl (Mo.mo e25.g h1)) ea_nil) ok) fun v G' H' e p => k v G' H' (e25.trans e) p
  case classInfo i =>
    refine sq_no sm (et_nm (ev_var rfl) (by dsimp only [nameOf]; decide)) fun G2 H2 e2 => ?_
    refine sq_no e2.sub (et_nm (ev_var rfl) (by dsimp only [nameOf]; decide)) fun G3 H3 e3 => ?_
    refine sq_no e3.sub (et_nm (ev_var rfl) (by dsimp only [nameOf]; decide)) fun G4 H4 e4 => ?_
    refine sq_no e4.sub (et_nm (ev_var rfl) (by dsimp only [nameOf]; decide)) fun G5 H5 e5 => ?_
    refine sq_yes e5.sub (et_nm (ev_var rfl) (by dsimp only [nameOf]; decide)) fun G6 H6 e6 => ?_
    have e26 := (((e2.trans e3).trans e4).trans e5).trans e6
    have g := ev_vR (σ := L2.start N_look_up [v1, V.str (nameOf (.classInfo i)), v3]) (G := G6) (H := H6) (R := qL qA) (i := 2) rfl (Mo.mo e26.g h3)
    exact st_ret e6.sub (ev_call (c, i) (ea_R (ev_vR rfl (Mo.mo e26.g h1)) (ea_V (ev_gI g ev_c rfl) ea_nil)) ok) fun v G' H' e p => k v G' H' (e26.trans e) p
  case distance i j =>
    refine sq_no sm (et_nm (ev_var rfl) (by dsimp only [nameOf]; decide)) fun G2 H2 e2 => ?_
    refine sq_no e2.sub (et_nm (ev_var rfl) (by dsimp only [nameOf]; decide)) fun G3 H3 e3 => ?_
    refine sq_no e3.sub (et_nm (ev_var rfl) (by dsimp only [nameOf]; decide)) fun G4 H4 e4 => ?_
    refine sq_no e4.sub (et_nm (ev_var rfl) (by dsimp only [nameOf]; decide)) fun G5 H5 e5 => ?_
    refine sq_no e5.sub (et_nm (ev_var rfl) (by dsimp only [nameOf]; decide)) fun G6 H6 e6 => ?_
    refine sq_yes e6.sub (et_nm (ev_var rfl) (by dsimp only [nameOf]; decide)) fun G7 H7 e7 => ?_
    have e27 := ((((e2.trans e3).trans e4).trans e5).trans e6).trans e7
    have g := ev_vR (σ := L2.start N_look_up [v1, V.str (nameOf (.distance i j)), v3]) (G := G7) (H := H7) (R := qL qA) (i := 2) rfl (Mo.mo e27.g h3)
    exact st_ret e7.sub (ev_call (c, i, j) (ea_R (ev_vR rfl (Mo.mo e27.g h1)) (ea_V (ev_gI g ev_c rfl) (ea_V (ev_gI (k := 1) g ev_c rfl) ea_nil))) ok) fun v G' H' e p => k v G' H' (e27.trans e) p
  case isLumpable l =>
    refine sq_no sm (et_nm (ev_var rfl) (by dsimp only [nameOf]; decide)) fun G2 H2 e2 => ?_
    refine sq_no e2.sub (et_nm (ev_var rfl) (by dsimp only [nameOf]; decide)) fun G3 H3 e3 => ?_
    refine sq_no e3.sub (et_nm (ev_var rfl) (by dsimp only [nameOf]; decide)) fun G4 H4 e4 => ?_
    refine sq_no e4.sub (et_nm (ev_var rfl) (by dsimp only [nameOf]; decide)) fun G5 H5 e5 => ?_
    refine sq_no e5.sub (et_nm (ev_var rfl) (by dsimp only [nameOf]; decide)) fun G6 H6 e6 => ?_
    refine sq_no e6.sub (et_nm (ev_var rfl) (by dsimp only [nameOf]; decide)) fun G7 H7 e7 => ?_
    refine sq_yes e7.sub (et_nm (ev_var rfl) (by dsimp only [nameOf]; decide)) fun G8 H8 e8 => ?_
    have e28 := (((((e2.trans e3).trans e4).trans e5).trans e6).trans e7).trans e8
    have g := ev_vR (σ := L2.start N_look_up [v1, V.str (nameOf (.isLumpable l)), v3]) (G := G8) (H := H8) (R := qL qA) (i := 2) rfl (Mo.mo e28.g h3)
    exact st_ret e8.sub (ev_call (c, l) (ea_R (ev_vR rfl (Mo.mo e28.g h1)) (ea_R (ev_gR g ev_c rfl) ea_nil)) ok) fun v G' H' e p => k v G' H' (e28.trans e) p
  case summary =>
    refine sq_no sm (et_nm (ev_var rfl) (by dsimp only [nameOf]; decide)) fun G2 H2 e2 => ?_
    refine sq_no e2.sub (et_nm (ev_var rfl) (by dsimp only [nameOf]; decide)) fun G3 H3 e3 => ?_
    refine sq_no e3.sub (et_nm (ev_var rfl) (by dsimp only [nameOf]; decide)) fun G4 H4 e4 => ?_
    refine sq_no e4.sub (et_nm (ev_var rfl) (by dsimp only [nameOf]; decide)) fun G5 H5 e5 => ?_
    refine sq_no e5.sub (et_nm (ev_var rfl) (by dsimp only [nameOf]; decide)) fun G6 H6 e6 => ?_
    refine sq_no e6.sub (et_nm (ev_var rfl) (by dsimp only [nameOf]; decide)) fun G7 H7 e7 => ?_
    refine sq_no e7.sub (et_nm (ev_var rfl) (by dsimp only [nameOf]; decide)) fun G8 H8 e8 => ?_
    have e28 := (((((e2.trans e3).trans e4).trans e5).trans e6).trans e7).trans e8
    exact st_ret e8.sub (ev_call c (ea_R (ev_vR rfl (Mo.mo e28.g h1)) ea_nil) ok) fun v G' H' e p => k v G' H' (e28.trans e) p
end
end ER
/-! ## ErO -/
/-! one call, and reading it -/
namespace ER
open PySem PySem.Spec PyProof.Rows
open L2 hiding St
open Lrx1 (Fraction Chain size)
open EC (COk)
section
variable {P : Program} {w : World} {K : PySem.W.Frag} {mg : Str → Option Value} {base : Heap}
/-! the tables of the top -/
theorem tupAt_ok {K : PySem.W.Frag} {a : Addr} {vs : List He.Dv} (h : tupAt K a vs = true) (H : Hp) : SqT K H a (vs.map (He.Dv.v K)) := by
  unfold tupAt at h
  cases q : K.lookup a with
  | none =>
    rw [q] at h
    cases h
  | some o =>
    obtain ⟨oc, od, dt, osl⟩ := o
    rw [q] at h
    cases oc with
    | type c =>
      cases dt with
      | seq its n =>
        obtain ⟨h1, h2⟩ := He.ba (show (decide (c = "tuple") && (decide (its.size ≤ sizeLine) && He.relAll (vs.map (He.Dv.v K)) its.toList)) = true from h)
        obtain ⟨h3, h4⟩ := He.ba h2
        exact .inr ⟨_, its, n, q, congrArg Value.type (of_decide_eq_true h1), rfl, of_decide_eq_true h3, He.relAll_ok h4⟩
      | _ => cases h
    | _ => cases dt <;> cases h
abbrev chgN : List Str := ["set_weight", "set_row", "remove_state", "uniformize", "embed", "lump"]
abbrev reaN : List Str := ["hitting_probability", "hitting_time", "absorption", "visits", "watched"]
abbrev shaN : List Str := ["stationary", "return_time", "long_run", "after_steps", "is_reversible", "reversed"]
theorem Tx.chg (T : Tx K mg) (H : Hp) : SqT K H (He.ga K "CHANGING") (chgN.map V.str) := by
  have h := T.x
  unfold ex at h
  exact He.tupB_ok (He.ba h).1 H
theorem Tx.rea (T : Tx K mg) (H : Hp) : SqT K H (He.ga K "REACHING") (reaN.map V.str) := by
  have h := T.x
  unfold ex at h
  exact He.tupB_ok (He.ba (He.ba h).2).1 H
theorem Tx.sha (T : Tx K mg) (H : Hp) : SqT K H (He.ga K "SHARING") (shaN.map V.str) := by
  have h := T.x
  unfold ex at h
  exact He.tupB_ok (He.ba (He.ba (He.ba h).2).2).1 H
theorem Tx.ops (T : Tx K mg) (H : Hp) : SqT K H (He.ga K "OPERATIONS") ((List.range 26).map fun i => V.ref (opAd i K)) := by
  have h := T.x
  unfold ex at h
  have := He.tupB_ok (He.ba (He.ba (He.ba (He.ba h).2).2).2).1 H
  rw [List.map_map] at this
  exact this
theorem Tx.op (T : Tx K mg) (H : Hp) {i : Nat} {o : Str × Int × Int} (ho : ER.ops[i]? = some o) : SqT K H (opAd i K) [.str o.1, .int o.2.1, .int o.2.2] := by
  have h := T.x
  unfold ex at h
  have h := (He.ba (He.ba (He.ba (He.ba h).2).2).2).2
  have hi : i < 26 := (List.getElem?_eq_some_iff.mp ho).1
  have := List.all_eq_true.mp h i (List.mem_range.mpr hi)
  rw [ho] at this
  exact tupAt_ok (K := K) (vs := [.str o.1, .int o.2.1, .int o.2.2]) this H
theorem in_names (n : Str) : ∀ l : List Str, inV (.str n) (l.map V.str) = l.contains n
  | [] => rfl
  | m :: r => by
    have ih := in_names n r
    unfold inV at ih ⊢
    rw [List.map_cons, List.any_cons, ih, List.contains_cons]
    congr 1
    show (m == n) = (n == m)
    exact Bool.eq_iff_iff.mpr ⟨fun h => by rw [eq_of_beq h]; simp, fun h => by rw [eq_of_beq h]; simp⟩
theorem flat_names : ∀ l : List Str, (l.map V.str).all flatV = true
  | [] => rfl
  | m :: r => by rw [List.map_cons, List.all_cons, flat_names r]; rfl
theorem ev_inN {σ : L2.St} {G H : Hp} {ta : TE} {n : Str} {a : Addr} {l : List Str} (h : Ev ta σ G H (isV (.str n))) (hs : ∀ H, SqT K H a (l.map V.str)) : Ev (tOp (rIn K false) ta (tC (.ref a))) σ G H (isV (.bl (l.contains n))) :=
  ev_op2 (P1 := aV (.str n)) (P2 := aV (.ref a)) h ev_c fun x y G1 H1 e h1 h2 Q q => by
    have e1 : x = .str n := h1
    subst e1
    refine ⟨a, _, h2, .inr (hs H1), rfl, flat_names l, ?_⟩
    rw [if_neg Bool.false_ne_true, in_names]
    exact q _ G1 H1 (.refl e.sub) rfl
theorem chg_in (x : Lrx1.Call) : chgN.contains (nameOf x) = isChg x := by cases x <;> (dsimp only [nameOf, isChg, isRea, isSha, isCre]; decide)
theorem rea_in (x : Lrx1.Call) : reaN.contains (nameOf x) = isRea x := by cases x <;> (dsimp only [nameOf, isChg, isRea, isSha, isCre]; decide)
theorem sha_in (x : Lrx1.Call) : shaN.contains (nameOf x) = isSha x := by cases x <;> (dsimp only [nameOf, isChg, isRea, isSha, isCre]; decide)
theorem cre_in (x : Lrx1.Call) : (nameOf x == ("create" : Str)) = isCre x := by cases x <;> (dsimp only [nameOf, isChg, isRea, isSha, isCre]; decide)
/-! a call as an object -/
def callO (K : PySem.W.Frag) (dx : Addr) (n : Str) (gv : V) : HO := .ins (He.ga K "Call") dx [("name", .str n), ("arguments", gv)]
def qCall (K : PySem.W.Frag) : Rel Lrx1.Call := fun G v x => ∃ p dx gv, v = .ref p ∧ G p = some (callO K dx (nameOf x) gv) ∧ qL qA G gv (argsOf x)
instance : Mo (qCall K) := ⟨fun s ⟨p, dx, gv, e, h, r⟩ => ⟨p, dx, gv, e, s _ _ h, Mo.mo s r⟩⟩
section
variable {σ : L2.St} {G H : Hp} {ta : TE}
theorem ev_cname {x : Lrx1.Call} (T : Tx K mg) (h : Ev ta σ G H (isR (qCall K) x)) : Ev (tFld K ta "name") σ G H (isV (.str (nameOf x))) := fun G1 H1 e Q q =>
  h G1 H1 e _ fun v G2 H2 e2 ⟨p, dx, gv, h1, h2, h3⟩ => ⟨p, _, dx, _, _, h1, e2.sub _ _ h2, T.c_Call, T.n_Call_name, rfl, q _ G2 H2 e2 rfl⟩
theorem ev_cargs {x : Lrx1.Call} (T : Tx K mg) (h : Ev ta σ G H (isR (qCall K) x)) : Ev (tFld K ta "arguments") σ G H (isR (qL qA) (argsOf x)) := fun G1 H1 e Q q =>
  h G1 H1 e _ fun v G2 H2 e2 ⟨p, dx, gv, h1, h2, h3⟩ => ⟨p, _, dx, _, gv, h1, e2.sub _ _ h2, T.c_Call, T.n_Call_arguments, rfl, q _ G2 H2 e2 h3⟩
end
theorem step_none (x : Lrx1.Call) (h : isCre x = false) : Lrx1.step none x = (none, Lrx1.error (-11)) := by
  cases x <;> first | rfl | (cases h; done)
theorem step_keep (c : Chain) (x : Lrx1.Call) (h : isCre x = false) (h2 : isChg x = false) : (Lrx1.step (some c) x).1 = some c := by
  cases x <;> first | rfl | (cases h; done) | (cases h2; done)
abbrev sp_answer (K : PySem.W.Frag) : Sp := spC K (α := Option Chain × Lrx1.Call) (fun a => [aR (qCall K) a.2]) (fun a => SOk a.1 ∧ callOk a.2) (fun a => a.1) fun a => a.2
theorem sp_answer_len (K : PySem.W.Frag) {vs H Q X} (h : sp_answer K vs H Q X) : vs.length = 2 := spC_len (n := 1) (fun _ => rfl) h
abbrev N_answer : List Str := ["instance", "call"]
abbrev P_answer : List Str := ["instance", "call"]
theorem sc_answer : FnScope N_answer P_answer (defScope s_answer) := ⟨rfl, rfl, rfl, by decide +kernel, rfl, by decide +kernel, by decide +kernel⟩
theorem ok_answer (T : Tx K mg) : Has P w K mg base 10 (He.ga K "answer") P_answer (sp_answer K) := by
  obtain ⟨⟨_, F_change, b_change⟩, kp_change⟩ := ok_change (P := P) (w := w) (base := base) T
  obtain ⟨⟨_, F_create, b_create⟩, kp_create⟩ := ok_create (P := P) (w := w) (base := base) T
  obtain ⟨⟨_, F_look_up, b_look_up⟩, kp_look_up⟩ := ok_look_up (P := P) (w := w) (base := base) T
  obtain ⟨⟨_, F_no_instance, b_no_instance⟩, kp_no_instance⟩ := ok_no_instance (P := P) (w := w) (base := base) T
  obtain ⟨⟨_, F_reach, b_reach⟩, kp_reach⟩ := ok_reach (P := P) (w := w) (base := base) T
  obtain ⟨⟨_, F_share, b_share⟩, kp_share⟩ := ok_share (P := P) (w := w) (base := base) T
  have nd := sc_answer.nd
  refine has_sp T.f_answer sc_answer (fun vs H Q X h => sp_answer_len K h) (fun _ _ _ _ _ _ us hl => match us, hl with | [_, _], _ => rfl) (fun cdv E outer s H X hr vs Q ha => ⟨_, (pss_cons (ps_if (pt_cmpR op_eq (k_fld K rfl (pv 1)) pe_str (by rfl)) (pss_one (ps_ret (pe_call F_create (hr.mono (by decide)) (by rfl) T.g_create kp_create b_create .nil pass0 (pa_cons (pv 0) (pa_cons (pe_ix (k_ixl K rfl) (k_fld K rfl (pv 1)) pe_int (fun _ _ => rfl)) (pa_cons (pe_ix (k_ixl K rfl) (k_fld K rfl (pv 1)) pe_int (fun _ _ => rfl)) pa_nil)))))) pss_nil)
      (pss_cons (ps_if (pt_cmpR op_isN (k_fld K rfl (pv 0)) pe_non (by rfl)) (pss_one (ps_ret (pe_call0 F_no_instance (hr.mono (by decide)) (by rfl) T.g_no_instance kp_no_instance b_no_instance .nil pass0))) pss_nil)
      (pss_cons (ps_if (pt_cmpR (k_in K rfl) (k_fld K rfl (pv 1)) (pe_glob (v := .ref (He.ga K "CHANGING")) (by rfl) T.g_CHANGING rfl) (by rfl)) (pss_one (ps_ret (pe_call F_change (hr.mono (by decide)) (by rfl) T.g_change kp_change b_change .nil pass0 (pa_cons (pv 0) (pa_cons (k_fld K rfl (pv 1)) (pa_cons (k_fld K rfl (pv 1)) pa_nil)))))) pss_nil)
      (pss_cons (ps_if (pt_cmpR (k_in K rfl) (k_fld K rfl (pv 1)) (pe_glob (v := .ref (He.ga K "REACHING")) (by rfl) T.g_REACHING rfl) (by rfl)) (pss_one (ps_ret (pe_call F_reach (hr.mono (by decide)) (by rfl) T.g_reach kp_reach b_reach .nil pass0 (pa_cons (k_fld K rfl (pv 0)) (pa_cons (k_fld K rfl (pv 1)) (pa_cons (k_fld K rfl (pv 1)) pa_nil)))))) pss_nil)
      (pss_cons (ps_if (pt_cmpR (k_in K rfl) (k_fld K rfl (pv 1)) (pe_glob (v := .ref (He.ga K "SHARING")) (by rfl) T.g_SHARING rfl) (by rfl)) (pss_one (ps_ret (pe_call F_share (hr.mono (by decide)) (by rfl) T.g_share kp_share b_share .nil pass0 (pa_cons (k_fld K rfl (pv 0)) (pa_cons (k_fld K rfl (pv 1)) (pa_cons (k_fld K rfl (pv 1)) pa_nil)))))) pss_nil)
      (pss_one (ps_ret (pe_call F_look_up (hr.mono (by decide)) (by rfl) T.g_look_up kp_look_up b_look_up .nil pass0 (pa_cons (k_fld K rfl (pv 0)) (pa_cons (k_fld K rfl (pv 1)) (pa_cons (k_fld K rfl (pv 1)) pa_nil))))))))))), ?_⟩)
  obtain ⟨G, a, x, dx, cv, rest, rfl, sm, gx, hx, hc, ⟨v2, _, rfl, h2, rfl⟩, hok, k⟩ := ha
  obtain ⟨st, call⟩ := a
  obtain ⟨so, co⟩ := hok
  dsimp only at so co hc h2 k
  refine sq_ifN sm (et_is (et_nm (ev_cname T (ev_vR rfl h2)) rfl) (cre_in call)) (fun b G2 H2 e2 => ?_) fun b G2 H2 e2 => ?_
  · cases call <;> try (cases b; done)
    rename_i ic n
    have g := ev_cargs T (ev_vR (σ := L2.start N_answer [V.ref x, v2]) (G := G2) (H := H2) (R := qCall K) (i := 1) rfl (Mo.mo e2.g h2))
    exact st_callC (st, ic, n) e2 gx hx hc (ea_V (ev_var rfl) (ea_V (ev_gI g ev_c rfl) (ea_V (ev_gI (k := 1) g ev_c rfl) ea_nil))) trivial k
  · have nc : isCre call = false := b
    refine sq_ifN e2.sub (et_test (ev_isN (nn_C K) (ev_R (R := qO (qC K)) (ev_chain T (cv := cv) (e2.h _ _ hx) (ev_var rfl)) (Mo.mo e2.g hc)))) (fun d G3 H3 e3 => ?_) fun d G3 H3 e3 => ?_
    · have d' : st = none := by simpa using d
      subst d'
      rw [step_none call nc] at k
      have e23 := e2.trans e3
      exact st_ret e3.sub (ev_call () ea_nil trivial) fun v G4 H4 e4 p => k v cv G4 H4 (same_ins hx (e23.trans e4)) hc p
    · cases st with
      | none => cases d
      | some c =>
        have ok : COk c := so c rfl
        have h1 : qC K G cv c := hc
        have e23 := e2.trans e3
        have gc : ∀ {G H' : Hp} , Same G H' → H' x = some (insO K dx cv) → qC K G cv c → Ev (tFld K (tVar 0) "chain") (L2.start N_answer [V.ref x, v2]) G H' (isR (qC K) c) := fun s hx' r => ev_R (ev_chain T hx' (ev_var rfl)) r
        refine sq_ifN e3.sub (et_is (et_test (ev_inN (ev_cname T (ev_vR rfl (Mo.mo e23.g h2))) T.chg)) (chg_in call)) (fun f G4 H4 e4 => ?_) fun f G4 H4 e4 => ?_
        · have e24 := e23.trans e4
          have hv := ev_vR (σ := L2.start N_answer [V.ref x, v2]) (G := G4) (H := H4) (R := qCall K) (i := 1) rfl (Mo.mo e24.g h2)
          exact st_callC (c, call) e24 gx hx h1 (ea_V (ev_var rfl) (ea_V (ev_cname T hv) (ea_R (ev_cargs T hv) ea_nil))) ⟨ok, f⟩ k
        · have ks := step_keep c call nc f
          have e24 := e23.trans e4
          have k' : ∀ {v : V} {G' H' : Hp}, Ext G H G' H' → qL qI G' v (opR c call) → Q v H' := fun {v G' H'} e p => k v cv G' H' (same_ins hx e) (by rw [ks]; exact Mo.mo (R := qC K) e.g h1) p
          refine sq_ifN e4.sub (et_is (et_test (ev_inN (ev_cname T (ev_vR rfl (Mo.mo e24.g h2))) T.rea)) (rea_in call)) (fun g G5 H5 e5 => ?_) fun g G5 H5 e5 => ?_
          · have e25 := e24.trans e5
            have hv := ev_vR (σ := L2.start N_answer [V.ref x, v2]) (G := G5) (H := H5) (R := qCall K) (i := 1) rfl (Mo.mo e25.g h2)
            exact st_ret e5.sub (ev_call (c, call) (ea_R (gc e5.sub (e25.h _ _ hx) (Mo.mo e25.g h1)) (ea_V (ev_cname T hv) (ea_R (ev_cargs T hv) ea_nil))) ⟨ok, g, co⟩) fun v G6 H6 e6 p => k' (e25.trans e6) p
          · have e25 := e24.trans e5
            refine sq_ifN e5.sub (et_is (et_test (ev_inN (ev_cname T (ev_vR rfl (Mo.mo e25.g h2))) T.sha)) (sha_in call)) (fun h G6 H6 e6 => ?_) fun h G6 H6 e6 => ?_
            · have e26 := e25.trans e6
              have hv := ev_vR (σ := L2.start N_answer [V.ref x, v2]) (G := G6) (H := H6) (R := qCall K) (i := 1) rfl (Mo.mo e26.g h2)
              exact st_ret e6.sub (ev_call (c, call) (ea_R (gc e6.sub (e26.h _ _ hx) (Mo.mo e26.g h1)) (ea_V (ev_cname T hv) (ea_R (ev_cargs T hv) ea_nil))) ⟨ok, h, co⟩) fun v G7 H7 e7 p => k' (e26.trans e7) p
            · have e26 := e25.trans e6
              have hv := ev_vR (σ := L2.start N_answer [V.ref x, v2]) (G := G6) (H := H6) (R := qCall K) (i := 1) rfl (Mo.mo e26.g h2)
              exact st_ret e6.sub (ev_call (c, call) (ea_R (gc e6.sub (e26.h _ _ hx) (Mo.mo e26.g h1)) (ea_V (ev_cname T hv) (ea_R (ev_cargs T hv) ea_nil))) ⟨ok, all_kinds call nc f g h, co⟩) fun v G7 H7 e7 p => k' (e26.trans e7) p
/-! the reader -/
def insR (K : PySem.W.Frag) (dx l : Addr) (k : Nat) : HO := .ins (He.ga K "Reader") dx [("numbers", .ref l), ("place", .int (k : Int))]
def intL (ns : List Int) : List V := ns.map V.int
theorem Ext.mut2 {G H G2 H2 : Hp} {x : Addr} {o u : HO} (e : Ext G (upd H x o) G2 H2) (g : G x = none) : Ext G (upd H x u) G2 (upd H2 x u) := by
  have := e.mut (o := u) g upd_same
  rw [upd_upd] at this
  exact this
abbrev sp_Reader_init (K : PySem.W.Frag) : Sp := fun vs H Q _ => ∃ x dx l, vs = [.ref x, .ref l] ∧ H x = some (.ins (He.ga K "Reader") dx []) ∧ ∀ o, Q .non (upd (upd H x o) x (insR K dx l 0))
theorem sp_Reader_init_len (K : PySem.W.Frag) {vs H Q X} (h : sp_Reader_init K vs H Q X) : vs.length = 2 := by
  obtain ⟨_, _, _, rfl, _⟩ := h
  rfl
abbrev N_Reader_init : List Str := ["self", "numbers"]
abbrev P_Reader_init : List Str := ["self", "numbers"]
theorem sc_Reader_init : FnScope N_Reader_init P_Reader_init (defScope s_Reader_init) := ⟨rfl, rfl, rfl, by decide +kernel, rfl, by decide +kernel, by decide +kernel⟩
theorem ok_Reader_init (T : Tx K mg) : Has P w K mg base 1 (He.ma K (He.ga K "Reader") "__init__") P_Reader_init (sp_Reader_init K) := by
  have nd := sc_Reader_init.nd
  refine has_sp T.f_Reader_init sc_Reader_init (fun vs H Q X h => sp_Reader_init_len K h) (fun _ _ _ _ _ _ us hl => match us, hl with | [_, _], _ => rfl) (fun cdv E outer s H X hr vs Q ha => ⟨_, (pss_cons (ps_fld (pv 0) (pv 1) rfl)
      (pss_one (ps_fld (pv 0) pe_int rfl))), ?_⟩)
  obtain ⟨x, dx, l, rfl, hx, q⟩ := ha
  refine ⟨.ref l, rfl, .ref x, rfl, x, _, dx, [], rfl, hx, T.c_Reader, T.n_Reader_numbers, by show 0 < 1000; decide, ?_⟩
  exact ⟨.ref x, rfl, x, _, dx, _, rfl, upd_same, T.c_Reader, T.n_Reader_place, by show 1 < 1000; decide, q _⟩
abbrev sp_Call_init (K : PySem.W.Frag) : Sp := fun vs H Q _ => ∃ x dx u r, vs = [.ref x, u, r] ∧ H x = some (.ins (He.ga K "Call") dx []) ∧ ∀ o, Q .non (upd (upd H x o) x (.ins (He.ga K "Call") dx [("name", u), ("arguments", r)]))
theorem sp_Call_init_len (K : PySem.W.Frag) {vs H Q X} (h : sp_Call_init K vs H Q X) : vs.length = 3 := by
  obtain ⟨_, _, _, _, rfl, _⟩ := h
  rfl
abbrev N_Call_init : List Str := ["self", "name", "arguments"]
abbrev P_Call_init : List Str := ["self", "name", "arguments"]
theorem sc_Call_init : FnScope N_Call_init P_Call_init (defScope s_Call_init) := ⟨rfl, rfl, rfl, by decide +kernel, rfl, by decide +kernel, by decide +kernel⟩
theorem ok_Call_init (T : Tx K mg) : Has P w K mg base 1 (He.ma K (He.ga K "Call") "__init__") P_Call_init (sp_Call_init K) := by
  have nd := sc_Call_init.nd
  refine has_sp T.f_Call_init sc_Call_init (fun vs H Q X h => sp_Call_init_len K h) (fun _ _ _ _ _ _ us hl => match us, hl with | [_, _, _], _ => rfl) (fun cdv E outer s H X hr vs Q ha => ⟨_, (pss_cons (ps_fld (pv 0) (pv 1) rfl)
      (pss_one (ps_fld (pv 0) (pv 2) rfl))), ?_⟩)
  obtain ⟨x, dx, u, r, rfl, hx, q⟩ := ha
  refine ⟨u, rfl, .ref x, rfl, x, _, dx, [], rfl, hx, T.c_Call, T.n_Call_name, by show 0 < 1000; decide, ?_⟩
  exact ⟨r, rfl, .ref x, rfl, x, _, dx, _, rfl, upd_same, T.c_Call, T.n_Call_arguments, by show 1 < 1000; decide, q _⟩
abbrev sp_Reader_at_end (K : PySem.W.Frag) : Sp := fun vs H Q _ => ∃ G x dx l k ns, vs = [.ref x] ∧ Same G H ∧ H x = some (insR K dx l k) ∧ SqL K G l (intL ns) ∧ ∀ G' H', Ext G H G' H' → Q (.bl (decide (ns.length ≤ k))) H'
theorem sp_Reader_at_end_len (K : PySem.W.Frag) {vs H Q X} (h : sp_Reader_at_end K vs H Q X) : vs.length = 1 := by
  obtain ⟨_, _, _, _, _, _, rfl, _⟩ := h
  rfl
abbrev N_Reader_at_end : List Str := ["self"]
abbrev P_Reader_at_end : List Str := ["self"]
theorem sc_Reader_at_end : FnScope N_Reader_at_end P_Reader_at_end (defScope s_Reader_at_end) := ⟨rfl, rfl, rfl, by decide +kernel, rfl, by decide +kernel, by decide +kernel⟩
theorem ok_Reader_at_end (T : Tx K mg) : Has P w K mg base 1 (He.ma K (He.ga K "Reader") "at_end") P_Reader_at_end (sp_Reader_at_end K) := by
  have nd := sc_Reader_at_end.nd
  refine has_sp T.f_Reader_at_end sc_Reader_at_end (fun vs H Q X h => sp_Reader_at_end_len K h) (fun _ _ _ _ _ _ us hl => match us, hl with | [_], _ => rfl) (fun cdv E outer s H X hr vs Q ha => ⟨_, (pss_one (ps_ret (pe_cmpR op_ge (k_fld K rfl (pv 0)) (pe_callB (k_len K rfl) (by rfl) T.z_len PySem.boot_len (pa_cons (k_fld K rfl (pv 0)) pa_nil)) (by rfl)))), ?_⟩)
  obtain ⟨G, x, dx, l, k, ns, rfl, sm, hx, hl, q⟩ := ha
  refine ⟨.ref x, rfl, x, _, dx, _, .int (k : Int), rfl, hx, T.c_Reader, T.n_Reader_place, rfl, ?_⟩
  refine ⟨.ref x, rfl, x, _, dx, _, .ref l, rfl, hx, T.c_Reader, T.n_Reader_numbers, rfl, ?_⟩
  refine ⟨l, intL ns, rfl, .inl (sm.seq hl), ?_⟩
  refine ⟨k, (intL ns).length, rfl, rfl, ?_⟩
  have e : decide ((k : Int) ≥ ((intL ns).length : Int)) = decide (ns.length ≤ k) := by
    unfold intL
    rw [List.length_map]
    exact decide_eq_decide.mpr ⟨fun h => by omega, fun h => by omega⟩
  show Q (.bl (decide ((k : Int) ≥ ((intL ns).length : Int)))) H
  rw [e]
  exact q G H (.refl sm)
abbrev sp_Reader_take_number (K : PySem.W.Frag) : Sp := fun vs H Q _ => ∃ G x dx l k ns n, vs = [.ref x] ∧ Same G H ∧ G x = none ∧ H x = some (insR K dx l k) ∧ SqL K G l (intL ns) ∧ ns[k]? = some n ∧ ∀ G' H', Ext G (upd H x (insR K dx l (k + 1))) G' H' → Q (.int n) H'
theorem sp_Reader_take_number_len (K : PySem.W.Frag) {vs H Q X} (h : sp_Reader_take_number K vs H Q X) : vs.length = 1 := by
  obtain ⟨_, _, _, _, _, _, _, rfl, _⟩ := h
  rfl
abbrev N_Reader_take_number : List Str := ["self", "number"]
abbrev P_Reader_take_number : List Str := ["self"]
theorem sc_Reader_take_number : FnScope N_Reader_take_number P_Reader_take_number (defScope s_Reader_take_number) := ⟨rfl, rfl, rfl, by decide +kernel, rfl, by decide +kernel, by decide +kernel⟩
theorem ok_Reader_take_number (T : Tx K mg) : Has P w K mg base 1 (He.ma K (He.ga K "Reader") "take_number") P_Reader_take_number (sp_Reader_take_number K) := by
  have nd := sc_Reader_take_number.nd
  refine has_sp T.f_Reader_take_number sc_Reader_take_number (fun vs H Q X h => sp_Reader_take_number_len K h) (fun _ _ _ _ _ _ us hl => match us, hl with | [_], _ => rfl) (fun cdv E outer s H X hr vs Q ha => ⟨_, (pss_cons (ps_set (i := 1) nd rfl (.inl rfl) (pe_ix (k_ixl K rfl) (k_fld K rfl (pv 0)) (k_fld K rfl (pv 0)) (fun _ _ => rfl)))
      (pss_cons (ps_fldaug (pv 0) pe_int in_add)
      (pss_one (ps_ret (pv 1))))), ?_⟩)
  obtain ⟨G, x, dx, l, k, ns, n, rfl, sm, gx, hx, hl, hn, q⟩ := ha
  refine ⟨.ref x, rfl, x, _, dx, _, .ref l, rfl, hx, T.c_Reader, T.n_Reader_numbers, rfl, ?_⟩
  refine ⟨.ref x, rfl, x, _, dx, _, .int (k : Int), rfl, hx, T.c_Reader, T.n_Reader_place, rfl, ?_⟩
  refine ⟨l, intL ns, k, .int n, rfl, rfl, sm.seq hl, atI_nat (by unfold intL; rw [List.getElem?_map, hn]; rfl), ?_⟩
  refine ⟨.ref x, rfl, x, _, dx, _, .int (k : Int), rfl, hx, T.c_Reader, T.n_Reader_place, rfl, ?_⟩
  refine ⟨k, 1, rfl, rfl, dx, _, hx, by show 2 < 1000; decide, ?_⟩
  refine ⟨.int n, rfl, ?_⟩
  exact q G _ ((Ext.refl sm).mut gx hx)
section
variable {σ : L2.St} {i : Nat} {G H G1 H1 : Hp} {x dx l : Addr} {k : Nat} {ns : List Int} {E : XK} {Q : VK}
/-- the reader's state: all that was tracked, the reader at its place -/
structure RdS (K : PySem.W.Frag) (x dx l : Addr) (G H : Hp) (k : Nat) (G1 H1 : Hp) : Prop where
  e : Ext G (upd H x (insR K dx l k)) G1 H1
  gx : G x = none
  hx : H x ≠ none
theorem RdS.at (r : RdS K x dx l G H k G1 H1) : H1 x = some (insR K dx l k) := r.e.h _ _ upd_same
theorem RdS.g1 (r : RdS K x dx l G H k G1 H1) : G1 x = none := r.e.out upd_same r.gx
theorem RdS.next (r : RdS K x dx l G H k G1 H1) {k' : Nat} {G2 H2 : Hp} (e : Ext G1 (upd H1 x (insR K dx l k')) G2 H2) : RdS K x dx l G H k' G2 H2 := ⟨(r.e.mut2 r.gx).trans e, r.gx, r.hx⟩
theorem RdS.ext (r : RdS K x dx l G H k G1 H1) {G2 H2 : Hp} (e : Ext G1 H1 G2 H2) : RdS K x dx l G H k G2 H2 := ⟨r.e.trans e, r.gx, r.hx⟩
theorem RdS.loc (r : RdS K x dx l G H k G1 H1) {p : Addr} {o : HO} (h : H p = none) (g : G1 p = none) : RdS K x dx l G H k G1 (upd H1 p o) :=
  ⟨r.e.loc (by rw [upd_ne (fun z => r.hx (by rw [← z]; exact h))]; exact h) g, r.gx, r.hx⟩
theorem use_number (r : RdS K x dx l G H k G1 H1) (hl : SqL K G l (intL ns)) {n : Int} (hn : ns[k]? = some n) (ho : σ[i]? = some (some (.ref x))) (q : ∀ G2 H2, Ext G1 (upd H1 x (insR K dx l (k + 1))) G2 H2 → Q (.int n) H2) :
    tMeth (He.ga K "Reader") "take_number" (sp_Reader_take_number K) [] E (tVar i) tNil σ H1 Q :=
  ⟨_, ho, x, dx, _, rfl, r.at, rfl, G1, x, dx, l, k, ns, n, rfl, r.e.sub, r.g1, r.at, r.e.g.seq hl, hn, q⟩
end
def rowAt (ns : List Int) (k : Nat) (row : List Int) : Prop := ∃ n, ns[k]? = some n ∧ 0 ≤ n ∧ n.toNat = row.length ∧ ∀ j, j < row.length → ns[k + 1 + j]? = row[j]?
abbrev sp_Reader_take_row (K : PySem.W.Frag) : Sp := fun vs H Q _ => ∃ G x dx l k ns row, vs = [.ref x] ∧ Same G H ∧ G x = none ∧ H x = some (insR K dx l k) ∧ SqL K G l (intL ns) ∧ rowAt ns k row ∧ row.length ≤ 1000 ∧ ∀ v G' H', Ext G (upd H x (insR K dx l (k + 1 + row.length))) G' H' → qL qI G' v row → Q v H'
theorem sp_Reader_take_row_len (K : PySem.W.Frag) {vs H Q X} (h : sp_Reader_take_row K vs H Q X) : vs.length = 1 := by
  obtain ⟨_, _, _, _, _, _, _, rfl, _⟩ := h
  rfl
abbrev N_Reader_take_row : List Str := ["self", "length", "place"]
abbrev P_Reader_take_row : List Str := ["self"]
theorem sc_Reader_take_row : FnScope N_Reader_take_row P_Reader_take_row (defScope s_Reader_take_row) := ⟨rfl, rfl, rfl, by decide +kernel, rfl, by decide +kernel, by decide +kernel⟩
theorem ok_Reader_take_row (T : Tx K mg) : Has P w K mg base 2 (He.ma K (He.ga K "Reader") "take_row") P_Reader_take_row (sp_Reader_take_row K) := by
  obtain ⟨⟨_, F_Reader_take_number, b_Reader_take_number⟩, kp_Reader_take_number⟩ := ok_Reader_take_number (P := P) (w := w) (base := base) T
  have nd := sc_Reader_take_row.nd
  refine has_sp T.f_Reader_take_row sc_Reader_take_row (fun vs H Q X h => sp_Reader_take_row_len K h) (fun _ _ _ _ _ _ us hl => match us, hl with | [_], _ => rfl) (fun cdv E outer s H X hr vs Q ha => ⟨_, (pss_cons (ps_set (i := 1) nd rfl (.inl rfl) (pe_meth0 (pv 0) T.c_Reader T.h_Reader_take_number F_Reader_take_number (hr.mono (by decide)) b_Reader_take_number .nil pass0))
      (pss_one (ps_ret (pe_lc (own := [("place", 2)]) rfl nd (pi_range1 (by rfl) T.z_range (pa_cons (pv 1) pa_nil)) (blkOk_by (own := [("place", 2)]) (N := N_Reader_take_row) (sc := defScope s_Reader_take_row) (by decide +kernel)) (fun _ _ _ _ _ => (pg_name (i := 2) nd rfl (.inl rfl))) (fun _ _ _ _ _ => pts_nil) (fun _ _ _ _ _ => (pe_meth0 (pv 0) T.c_Reader T.h_Reader_take_number F_Reader_take_number (hr.mono (by decide)) b_Reader_take_number .nil pass0)))))), ?_⟩)
  obtain ⟨G, x, dx, l, k, ns, row, rfl, sm, gx, hx, hl, ⟨n, hn, n0, nr, hr'⟩, rl, q⟩ := ha
  have r0 : RdS K x dx l G H k G H := ⟨by rw [upd_self hx]; exact .refl sm, gx, ne_none hx⟩
  refine use_number r0 hl hn rfl fun G1 H1 e1 => ?_
  have r1 := r0.next e1
  have en : (n : Int) = (row.length : Int) := by omega
  refine ⟨_, rfl, n, rfl, by omega, by omega, ?_⟩
  rw [nr]
  intro D hD
  have gD := none_of r1.e.sub hD
  have Dx : D ≠ x := fun z => by rw [z, r1.at] at hD; cases hD
  have D0 : H D = none := by
    have := none_of r1.e.h hD
    rw [upd_ne Dx] at this
    exact this
  refine ⟨fun i m H' => m = row.length - i ∧ i ≤ row.length ∧ ∃ G', RdS K x dx l G H (k + 1 + i) G' H' ∧ G' D = none ∧ H' D = some (.lst (intL (row.take i))), ⟨row.length, by simp, Nat.zero_le _, G1, r1.loc D0 gD, gD, upd_same⟩, ?_⟩
  rintro i m H' ⟨rfl, hi, G', r', g', h'⟩
  by_cases hlt : i < row.length
  · refine .inr ⟨hlt, fun H' => ∃ G', RdS K x dx l G H (k + 1 + (i + 1)) G' H' ∧ G' D = none ∧ H' D = some (.lst (intL (row.take (i + 1)))), fun H2 ⟨G2, a⟩ => ⟨row.length - (i + 1), by omega, rfl, hlt, G2, a⟩, fun y H2 yy => ?_⟩
    obtain ⟨rfl, rfl⟩ := yy
    refine ⟨rfl, et_yes G' _ (.refl r'.e.sub) _ fun G3 H3 e3 => ?_⟩
    rw [if_pos rfl]
    have hx' : row[i]? = some row[i] := List.getElem?_eq_getElem hlt
    refine use_number (r'.ext e3) hl (n := row[i]) (by rw [hr' i hlt]; exact hx') rfl fun G4 H4 e4 => ?_
    have r4 := (r'.ext e3).next e4
    have h3 := e3.h _ _ h'
    have g3 := e3.out h' g'
    have h3' : upd H3 x (insR K dx l (k + 1 + i + 1)) D = some (.lst (intL (row.take i))) := by rw [upd_ne Dx]; exact h3
    have h4 := e4.h _ _ h3'
    have g4 := e4.out h3' g3
    refine ⟨_, h4, small1000 (by unfold intL; rw [List.length_map, List.length_take]; omega), G4, r4.loc D0 g4, g4, ?_⟩
    rw [upd_same, take_step hx']
    unfold intL
    rw [List.map_append]
    rfl
  · have ei : i = row.length := by omega
    subst ei
    rw [List.take_length] at h'
    refine .inl ⟨Nat.le_refl _, ?_⟩
    have E := r'.e.frz (by rw [upd_ne Dx]; exact D0) g' h'
    exact q _ _ _ E ⟨D, _, rfl, upd_same, list_qI row⟩
end
end ER
/-! ## ErP -/
/-! the calls in the list of numbers -/
namespace ER
open PySem PySem.Spec PyProof.Rows
open L2 hiding St
def RdIs (p : Nat) (xs : List Int) (rws : List (List Int)) : Prop := ∃ x, Lrx1Neutral.callOf (PyLrx1.whole (((p : Int) :: xs) :: rws)) = some x ∧ ER.ops[p]? = some (nameOf x, (xs.length : Int), (rws.length : Int)) ∧ argsOf x = xs.map (fun z => Ar.int z.toNat) ++ rws.map (fun r => Ar.row (r.map Int.toNat)) ∧ (∀ r ∈ rws, r.length ≤ 1000) ∧ callOk x ∧ xs.length ≤ 3 ∧ rws.length ≤ 1
theorem rd_len {l : List Int} (h : Lrx1Neutral.list l = true) : l.length ≤ 1000 := by
  unfold Lrx1Neutral.list at h
  have := of_decide_eq_true (Bool.and_eq_true_iff.mp h).2
  omega
theorem rd_0 {xs : List Int} {rws : List (List Int)} (h1 : xs.length = 2) (h2 : rws.length = 0) (h3 : Lrx1Neutral.asked1 (PyLrx1.whole ((((0 : Nat) : Int) :: xs) :: rws)) = true) : RdIs 0 xs rws := by
  match xs, h1 with
  | [a0, a1], _ =>
    match rws, h2 with
    | [], _ =>
      exact ⟨.create a0.toNat a1.toNat, rfl, rfl, rfl, fun r hr => absurd hr List.not_mem_nil, trivial, Nat.le_of_ble_eq_true rfl, Nat.le_of_ble_eq_true rfl⟩
theorem rd_1 {xs : List Int} {rws : List (List Int)} (h1 : xs.length = 3) (h2 : rws.length = 0) (h3 : Lrx1Neutral.asked1 (PyLrx1.whole ((((1 : Nat) : Int) :: xs) :: rws)) = true) : RdIs 1 xs rws := by
  match xs, h1 with
  | [a0, a1, a2], _ =>
    match rws, h2 with
    | [], _ =>
      exact ⟨.setWeight a0.toNat a1.toNat a2.toNat, rfl, rfl, rfl, fun r hr => absurd hr List.not_mem_nil, trivial, Nat.le_of_ble_eq_true rfl, Nat.le_of_ble_eq_true rfl⟩
theorem rd_2 {xs : List Int} {rws : List (List Int)} (h1 : xs.length = 1) (h2 : rws.length = 1) (h3 : Lrx1Neutral.asked1 (PyLrx1.whole ((((2 : Nat) : Int) :: xs) :: rws)) = true) : RdIs 2 xs rws := by
  match xs, h1 with
  | [a0], _ =>
    match rws, h2 with
    | [r0], _ =>
      have h4 : (Lrx1Neutral.natural a0 && Lrx1Neutral.list r0) = true := h3
      have hl : r0.length ≤ 1000 := rd_len (Bool.and_eq_true_iff.mp h4).2
      exact ⟨.setRow a0.toNat (r0.map Int.toNat), rfl, rfl, rfl, fun r hr => (by rw [List.mem_singleton.mp hr]; exact hl), trivial, Nat.le_of_ble_eq_true rfl, Nat.le_of_ble_eq_true rfl⟩
theorem rd_3 {xs : List Int} {rws : List (List Int)} (h1 : xs.length = 1) (h2 : rws.length = 0) (h3 : Lrx1Neutral.asked1 (PyLrx1.whole ((((3 : Nat) : Int) :: xs) :: rws)) = true) : RdIs 3 xs rws := by
  match xs, h1 with
  | [a0], _ =>
    match rws, h2 with
    | [], _ =>
      exact ⟨.removeState a0.toNat, rfl, rfl, rfl, fun r hr => absurd hr List.not_mem_nil, trivial, Nat.le_of_ble_eq_true rfl, Nat.le_of_ble_eq_true rfl⟩
theorem rd_4 {xs : List Int} {rws : List (List Int)} (h1 : xs.length = 1) (h2 : rws.length = 0) (h3 : Lrx1Neutral.asked1 (PyLrx1.whole ((((4 : Nat) : Int) :: xs) :: rws)) = true) : RdIs 4 xs rws := by
  match xs, h1 with
  | [a0], _ =>
    match rws, h2 with
    | [], _ =>
      exact ⟨.uniformize a0.toNat, rfl, rfl, rfl, fun r hr => absurd hr List.not_mem_nil, trivial, Nat.le_of_ble_eq_true rfl, Nat.le_of_ble_eq_true rfl⟩
theorem rd_5 {xs : List Int} {rws : List (List Int)} (h1 : xs.length = 0) (h2 : rws.length = 0) (h3 : Lrx1Neutral.asked1 (PyLrx1.whole ((((5 : Nat) : Int) :: xs) :: rws)) = true) : RdIs 5 xs rws := by
  match xs, h1 with
  | [], _ =>
    match rws, h2 with
    | [], _ =>
      exact ⟨.embed , rfl, rfl, rfl, fun r hr => absurd hr List.not_mem_nil, trivial, Nat.le_of_ble_eq_true rfl, Nat.le_of_ble_eq_true rfl⟩
theorem rd_6 {xs : List Int} {rws : List (List Int)} (h1 : xs.length = 0) (h2 : rws.length = 1) (h3 : Lrx1Neutral.asked1 (PyLrx1.whole ((((6 : Nat) : Int) :: xs) :: rws)) = true) : RdIs 6 xs rws := by
  match xs, h1 with
  | [], _ =>
    match rws, h2 with
    | [r0], _ =>
      have h4 : (Lrx1Neutral.list r0) = true := h3
      have hl : r0.length ≤ 1000 := rd_len h4
      exact ⟨.lump (r0.map Int.toNat), rfl, rfl, rfl, fun r hr => (by rw [List.mem_singleton.mp hr]; exact hl), trivial, Nat.le_of_ble_eq_true rfl, Nat.le_of_ble_eq_true rfl⟩
theorem rd_7 {xs : List Int} {rws : List (List Int)} (h1 : xs.length = 2) (h2 : rws.length = 0) (h3 : Lrx1Neutral.asked1 (PyLrx1.whole ((((7 : Nat) : Int) :: xs) :: rws)) = true) : RdIs 7 xs rws := by
  match xs, h1 with
  | [a0, a1], _ =>
    match rws, h2 with
    | [], _ =>
      exact ⟨.getWeight a0.toNat a1.toNat, rfl, rfl, rfl, fun r hr => absurd hr List.not_mem_nil, trivial, Nat.le_of_ble_eq_true rfl, Nat.le_of_ble_eq_true rfl⟩
theorem rd_8 {xs : List Int} {rws : List (List Int)} (h1 : xs.length = 2) (h2 : rws.length = 0) (h3 : Lrx1Neutral.asked1 (PyLrx1.whole ((((8 : Nat) : Int) :: xs) :: rws)) = true) : RdIs 8 xs rws := by
  match xs, h1 with
  | [a0, a1], _ =>
    match rws, h2 with
    | [], _ =>
      exact ⟨.probability a0.toNat a1.toNat, rfl, rfl, rfl, fun r hr => absurd hr List.not_mem_nil, trivial, Nat.le_of_ble_eq_true rfl, Nat.le_of_ble_eq_true rfl⟩
theorem rd_9 {xs : List Int} {rws : List (List Int)} (h1 : xs.length = 2) (h2 : rws.length = 0) (h3 : Lrx1Neutral.asked1 (PyLrx1.whole ((((9 : Nat) : Int) :: xs) :: rws)) = true) : RdIs 9 xs rws := by
  match xs, h1 with
  | [a0, a1], _ =>
    match rws, h2 with
    | [], _ =>
      exact ⟨.generator a0.toNat a1.toNat, rfl, rfl, rfl, fun r hr => absurd hr List.not_mem_nil, trivial, Nat.le_of_ble_eq_true rfl, Nat.le_of_ble_eq_true rfl⟩
theorem rd_10 {xs : List Int} {rws : List (List Int)} (h1 : xs.length = 0) (h2 : rws.length = 0) (h3 : Lrx1Neutral.asked1 (PyLrx1.whole ((((10 : Nat) : Int) :: xs) :: rws)) = true) : RdIs 10 xs rws := by
  match xs, h1 with
  | [], _ =>
    match rws, h2 with
    | [], _ =>
      exact ⟨.classes , rfl, rfl, rfl, fun r hr => absurd hr List.not_mem_nil, trivial, Nat.le_of_ble_eq_true rfl, Nat.le_of_ble_eq_true rfl⟩
theorem rd_11 {xs : List Int} {rws : List (List Int)} (h1 : xs.length = 1) (h2 : rws.length = 0) (h3 : Lrx1Neutral.asked1 (PyLrx1.whole ((((11 : Nat) : Int) :: xs) :: rws)) = true) : RdIs 11 xs rws := by
  match xs, h1 with
  | [a0], _ =>
    match rws, h2 with
    | [], _ =>
      exact ⟨.classInfo a0.toNat, rfl, rfl, rfl, fun r hr => absurd hr List.not_mem_nil, trivial, Nat.le_of_ble_eq_true rfl, Nat.le_of_ble_eq_true rfl⟩
theorem rd_12 {xs : List Int} {rws : List (List Int)} (h1 : xs.length = 2) (h2 : rws.length = 0) (h3 : Lrx1Neutral.asked1 (PyLrx1.whole ((((12 : Nat) : Int) :: xs) :: rws)) = true) : RdIs 12 xs rws := by
  match xs, h1 with
  | [a0, a1], _ =>
    match rws, h2 with
    | [], _ =>
      exact ⟨.distance a0.toNat a1.toNat, rfl, rfl, rfl, fun r hr => absurd hr List.not_mem_nil, trivial, Nat.le_of_ble_eq_true rfl, Nat.le_of_ble_eq_true rfl⟩
theorem rd_13 {xs : List Int} {rws : List (List Int)} (h1 : xs.length = 1) (h2 : rws.length = 0) (h3 : Lrx1Neutral.asked1 (PyLrx1.whole ((((13 : Nat) : Int) :: xs) :: rws)) = true) : RdIs 13 xs rws := by
  match xs, h1 with
  | [a0], _ =>
    match rws, h2 with
    | [], _ =>
      exact ⟨.stationary a0.toNat, rfl, rfl, rfl, fun r hr => absurd hr List.not_mem_nil, trivial, Nat.le_of_ble_eq_true rfl, Nat.le_of_ble_eq_true rfl⟩
theorem rd_14 {xs : List Int} {rws : List (List Int)} (h1 : xs.length = 1) (h2 : rws.length = 1) (h3 : Lrx1Neutral.asked1 (PyLrx1.whole ((((14 : Nat) : Int) :: xs) :: rws)) = true) : RdIs 14 xs rws := by
  match xs, h1 with
  | [a0], _ =>
    match rws, h2 with
    | [r0], _ =>
      have h4 : (Lrx1Neutral.natural a0 && Lrx1Neutral.list r0) = true := h3
      have hl : r0.length ≤ 1000 := rd_len (Bool.and_eq_true_iff.mp h4).2
      exact ⟨.hitting a0.toNat (r0.map Int.toNat), rfl, rfl, rfl, fun r hr => (by rw [List.mem_singleton.mp hr]; exact hl), (by show (r0.map Int.toNat).length ≤ 1000; rw [List.length_map]; exact hl), Nat.le_of_ble_eq_true rfl, Nat.le_of_ble_eq_true rfl⟩
theorem rd_15 {xs : List Int} {rws : List (List Int)} (h1 : xs.length = 1) (h2 : rws.length = 1) (h3 : Lrx1Neutral.asked1 (PyLrx1.whole ((((15 : Nat) : Int) :: xs) :: rws)) = true) : RdIs 15 xs rws := by
  match xs, h1 with
  | [a0], _ =>
    match rws, h2 with
    | [r0], _ =>
      have h4 : (Lrx1Neutral.natural a0 && Lrx1Neutral.list r0) = true := h3
      have hl : r0.length ≤ 1000 := rd_len (Bool.and_eq_true_iff.mp h4).2
      exact ⟨.hittingTime a0.toNat (r0.map Int.toNat), rfl, rfl, rfl, fun r hr => (by rw [List.mem_singleton.mp hr]; exact hl), (by show (r0.map Int.toNat).length ≤ 1000; rw [List.length_map]; exact hl), Nat.le_of_ble_eq_true rfl, Nat.le_of_ble_eq_true rfl⟩
theorem rd_16 {xs : List Int} {rws : List (List Int)} (h1 : xs.length = 1) (h2 : rws.length = 0) (h3 : Lrx1Neutral.asked1 (PyLrx1.whole ((((16 : Nat) : Int) :: xs) :: rws)) = true) : RdIs 16 xs rws := by
  match xs, h1 with
  | [a0], _ =>
    match rws, h2 with
    | [], _ =>
      exact ⟨.absorption a0.toNat, rfl, rfl, rfl, fun r hr => absurd hr List.not_mem_nil, trivial, Nat.le_of_ble_eq_true rfl, Nat.le_of_ble_eq_true rfl⟩
theorem rd_17 {xs : List Int} {rws : List (List Int)} (h1 : xs.length = 1) (h2 : rws.length = 0) (h3 : Lrx1Neutral.asked1 (PyLrx1.whole ((((17 : Nat) : Int) :: xs) :: rws)) = true) : RdIs 17 xs rws := by
  match xs, h1 with
  | [a0], _ =>
    match rws, h2 with
    | [], _ =>
      exact ⟨.returnTime a0.toNat, rfl, rfl, rfl, fun r hr => absurd hr List.not_mem_nil, trivial, Nat.le_of_ble_eq_true rfl, Nat.le_of_ble_eq_true rfl⟩
theorem rd_18 {xs : List Int} {rws : List (List Int)} (h1 : xs.length = 2) (h2 : rws.length = 0) (h3 : Lrx1Neutral.asked1 (PyLrx1.whole ((((18 : Nat) : Int) :: xs) :: rws)) = true) : RdIs 18 xs rws := by
  match xs, h1 with
  | [a0, a1], _ =>
    match rws, h2 with
    | [], _ =>
      exact ⟨.visits a0.toNat a1.toNat, rfl, rfl, rfl, fun r hr => absurd hr List.not_mem_nil, trivial, Nat.le_of_ble_eq_true rfl, Nat.le_of_ble_eq_true rfl⟩
theorem rd_19 {xs : List Int} {rws : List (List Int)} (h1 : xs.length = 1) (h2 : rws.length = 0) (h3 : Lrx1Neutral.asked1 (PyLrx1.whole ((((19 : Nat) : Int) :: xs) :: rws)) = true) : RdIs 19 xs rws := by
  match xs, h1 with
  | [a0], _ =>
    match rws, h2 with
    | [], _ =>
      exact ⟨.longRun a0.toNat, rfl, rfl, rfl, fun r hr => absurd hr List.not_mem_nil, trivial, Nat.le_of_ble_eq_true rfl, Nat.le_of_ble_eq_true rfl⟩
theorem rd_20 {xs : List Int} {rws : List (List Int)} (h1 : xs.length = 1) (h2 : rws.length = 1) (h3 : Lrx1Neutral.asked1 (PyLrx1.whole ((((20 : Nat) : Int) :: xs) :: rws)) = true) : RdIs 20 xs rws := by
  match xs, h1 with
  | [a0], _ =>
    match rws, h2 with
    | [r0], _ =>
      have h4 : (Lrx1Neutral.natural a0 && Lrx1Neutral.list r0) = true := h3
      have hl : r0.length ≤ 1000 := rd_len (Bool.and_eq_true_iff.mp h4).2
      exact ⟨.afterSteps a0.toNat (r0.map Int.toNat), rfl, rfl, rfl, fun r hr => (by rw [List.mem_singleton.mp hr]; exact hl), trivial, Nat.le_of_ble_eq_true rfl, Nat.le_of_ble_eq_true rfl⟩
theorem rd_21 {xs : List Int} {rws : List (List Int)} (h1 : xs.length = 1) (h2 : rws.length = 0) (h3 : Lrx1Neutral.asked1 (PyLrx1.whole ((((21 : Nat) : Int) :: xs) :: rws)) = true) : RdIs 21 xs rws := by
  match xs, h1 with
  | [a0], _ =>
    match rws, h2 with
    | [], _ =>
      exact ⟨.isReversible a0.toNat, rfl, rfl, rfl, fun r hr => absurd hr List.not_mem_nil, trivial, Nat.le_of_ble_eq_true rfl, Nat.le_of_ble_eq_true rfl⟩
theorem rd_22 {xs : List Int} {rws : List (List Int)} (h1 : xs.length = 2) (h2 : rws.length = 0) (h3 : Lrx1Neutral.asked1 (PyLrx1.whole ((((22 : Nat) : Int) :: xs) :: rws)) = true) : RdIs 22 xs rws := by
  match xs, h1 with
  | [a0, a1], _ =>
    match rws, h2 with
    | [], _ =>
      exact ⟨.reversed a0.toNat a1.toNat, rfl, rfl, rfl, fun r hr => absurd hr List.not_mem_nil, trivial, Nat.le_of_ble_eq_true rfl, Nat.le_of_ble_eq_true rfl⟩
theorem rd_23 {xs : List Int} {rws : List (List Int)} (h1 : xs.length = 0) (h2 : rws.length = 1) (h3 : Lrx1Neutral.asked1 (PyLrx1.whole ((((23 : Nat) : Int) :: xs) :: rws)) = true) : RdIs 23 xs rws := by
  match xs, h1 with
  | [], _ =>
    match rws, h2 with
    | [r0], _ =>
      have h4 : (Lrx1Neutral.list r0) = true := h3
      have hl : r0.length ≤ 1000 := rd_len h4
      exact ⟨.isLumpable (r0.map Int.toNat), rfl, rfl, rfl, fun r hr => (by rw [List.mem_singleton.mp hr]; exact hl), trivial, Nat.le_of_ble_eq_true rfl, Nat.le_of_ble_eq_true rfl⟩
theorem rd_24 {xs : List Int} {rws : List (List Int)} (h1 : xs.length = 2) (h2 : rws.length = 1) (h3 : Lrx1Neutral.asked1 (PyLrx1.whole ((((24 : Nat) : Int) :: xs) :: rws)) = true) : RdIs 24 xs rws := by
  match xs, h1 with
  | [a0, a1], _ =>
    match rws, h2 with
    | [r0], _ =>
      have h4 : (Lrx1Neutral.natural a0 && (Lrx1Neutral.natural a1 && Lrx1Neutral.list r0)) = true := h3
      have hl : r0.length ≤ 1000 := rd_len (Bool.and_eq_true_iff.mp (Bool.and_eq_true_iff.mp h4).2).2
      exact ⟨.watched a0.toNat a1.toNat (r0.map Int.toNat), rfl, rfl, rfl, fun r hr => (by rw [List.mem_singleton.mp hr]; exact hl), (by show (r0.map Int.toNat).length ≤ 1000; rw [List.length_map]; exact hl), Nat.le_of_ble_eq_true rfl, Nat.le_of_ble_eq_true rfl⟩
theorem rd_25 {xs : List Int} {rws : List (List Int)} (h1 : xs.length = 0) (h2 : rws.length = 0) (h3 : Lrx1Neutral.asked1 (PyLrx1.whole ((((25 : Nat) : Int) :: xs) :: rws)) = true) : RdIs 25 xs rws := by
  match xs, h1 with
  | [], _ =>
    match rws, h2 with
    | [], _ =>
      exact ⟨.summary , rfl, rfl, rfl, fun r hr => absurd hr List.not_mem_nil, trivial, Nat.le_of_ble_eq_true rfl, Nat.le_of_ble_eq_true rfl⟩
theorem rd_all {p : Int} {n kk : Nat} (h : PyLrx1.shape p = some (n, kk)) {xs : List Int} {rws : List (List Int)} (h1 : xs.length = n) (h2 : rws.length = kk) (h3 : Lrx1Neutral.asked1 (PyLrx1.whole ((p :: xs) :: rws)) = true) : ∃ q : Nat, p = (q : Int) ∧ RdIs q xs rws := by
  unfold PyLrx1.shape at h
  by_cases c0 : p = 0
  · subst c0
    rw [if_pos rfl] at h
    have hp := Option.some.inj h
    cases hp
    exact ⟨0, rfl, rd_0 h1 h2 h3⟩
  rw [if_neg c0] at h
  by_cases c1 : p = 1
  · subst c1
    rw [if_pos rfl] at h
    have hp := Option.some.inj h
    cases hp
    exact ⟨1, rfl, rd_1 h1 h2 h3⟩
  rw [if_neg c1] at h
  by_cases c2 : p = 2
  · subst c2
    rw [if_pos rfl] at h
    have hp := Option.some.inj h
    cases hp
    exact ⟨2, rfl, rd_2 h1 h2 h3⟩
  rw [if_neg c2] at h
  by_cases c3 : p = 3
  · subst c3
    rw [if_pos rfl] at h
    have hp := Option.some.inj h
    cases hp
    exact ⟨3, rfl, rd_3 h1 h2 h3⟩
  rw [if_neg c3] at h
  by_cases c4 : p = 4
  · subst c4
    rw [if_pos rfl] at h
    have hp := Option.some.inj h
    cases hp
    exact ⟨4, rfl, rd_4 h1 h2 h3⟩
  rw [if_neg c4] at h
  by_cases c5 : p = 5
  · subst c5
    rw [if_pos rfl] at h
    have hp := Option.some.inj h
    cases hp
    exact ⟨5, rfl, rd_5 h1 h2 h3⟩
  rw [if_neg c5] at h
  by_cases c6 : p = 6
  · subst c6
    rw [if_pos rfl] at h
    have hp := Option.some.inj h
    cases hp
    exact ⟨6, rfl, rd_6 h1 h2 h3⟩
  rw [if_neg c6] at h
  by_cases c7 : p = 7
  · subst c7
    rw [if_pos rfl] at h
    have hp := Option.some.inj h
    cases hp
    exact ⟨7, rfl, rd_7 h1 h2 h3⟩
  rw [if_neg c7] at h
  by_cases c8 : p = 8
  · subst c8
    rw [if_pos rfl] at h
    have hp := Option.some.inj h
    cases hp
    exact ⟨8, rfl, rd_8 h1 h2 h3⟩
  rw [if_neg c8] at h
  by_cases c9 : p = 9
  · subst c9
    rw [if_pos rfl] at h
    have hp := Option.some.inj h
    cases hp
    exact ⟨9, rfl, rd_9 h1 h2 h3⟩
  rw [if_neg c9] at h
  by_cases c10 : p = 10
  · subst c10
    rw [if_pos rfl] at h
    have hp := Option.some.inj h
    cases hp
    exact ⟨10, rfl, rd_10 h1 h2 h3⟩
  rw [if_neg c10] at h
  by_cases c11 : p = 11
  · subst c11
    rw [if_pos rfl] at h
    have hp := Option.some.inj h
    cases hp
    exact ⟨11, rfl, rd_11 h1 h2 h3⟩
  rw [if_neg c11] at h
  by_cases c12 : p = 12
  · subst c12
    rw [if_pos rfl] at h
    have hp := Option.some.inj h
    cases hp
    exact ⟨12, rfl, rd_12 h1 h2 h3⟩
  rw [if_neg c12] at h
  by_cases c13 : p = 13
  · subst c13
    rw [if_pos rfl] at h
    have hp := Option.some.inj h
    cases hp
    exact ⟨13, rfl, rd_13 h1 h2 h3⟩
  rw [if_neg c13] at h
  by_cases c14 : p = 14
  · subst c14
    rw [if_pos rfl] at h
    have hp := Option.some.inj h
    cases hp
    exact ⟨14, rfl, rd_14 h1 h2 h3⟩
  rw [if_neg c14] at h
  by_cases c15 : p = 15
  · subst c15
    rw [if_pos rfl] at h
    have hp := Option.some.inj h
    cases hp
    exact ⟨15, rfl, rd_15 h1 h2 h3⟩
  rw [if_neg c15] at h
  by_cases c16 : p = 16
  · subst c16
    rw [if_pos rfl] at h
    have hp := Option.some.inj h
    cases hp
    exact ⟨16, rfl, rd_16 h1 h2 h3⟩
  rw [if_neg c16] at h
  by_cases c17 : p = 17
  · subst c17
    rw [if_pos rfl] at h
    have hp := Option.some.inj h
    cases hp
    exact ⟨17, rfl, rd_17 h1 h2 h3⟩
  rw [if_neg c17] at h
  by_cases c18 : p = 18
  · subst c18
    rw [if_pos rfl] at h
    have hp := Option.some.inj h
    cases hp
    exact ⟨18, rfl, rd_18 h1 h2 h3⟩
  rw [if_neg c18] at h
  by_cases c19 : p = 19
  · subst c19
    rw [if_pos rfl] at h
    have hp := Option.some.inj h
    cases hp
    exact ⟨19, rfl, rd_19 h1 h2 h3⟩
  rw [if_neg c19] at h
  by_cases c20 : p = 20
  · subst c20
    rw [if_pos rfl] at h
    have hp := Option.some.inj h
    cases hp
    exact ⟨20, rfl, rd_20 h1 h2 h3⟩
  rw [if_neg c20] at h
  by_cases c21 : p = 21
  · subst c21
    rw [if_pos rfl] at h
    have hp := Option.some.inj h
    cases hp
    exact ⟨21, rfl, rd_21 h1 h2 h3⟩
  rw [if_neg c21] at h
  by_cases c22 : p = 22
  · subst c22
    rw [if_pos rfl] at h
    have hp := Option.some.inj h
    cases hp
    exact ⟨22, rfl, rd_22 h1 h2 h3⟩
  rw [if_neg c22] at h
  by_cases c23 : p = 23
  · subst c23
    rw [if_pos rfl] at h
    have hp := Option.some.inj h
    cases hp
    exact ⟨23, rfl, rd_23 h1 h2 h3⟩
  rw [if_neg c23] at h
  by_cases c24 : p = 24
  · subst c24
    rw [if_pos rfl] at h
    have hp := Option.some.inj h
    cases hp
    exact ⟨24, rfl, rd_24 h1 h2 h3⟩
  rw [if_neg c24] at h
  by_cases c25 : p = 25
  · subst c25
    rw [if_pos rfl] at h
    have hp := Option.some.inj h
    cases hp
    exact ⟨25, rfl, rd_25 h1 h2 h3⟩
  rw [if_neg c25] at h
  cases h
/-! where a row, and rows, stand -/
def rowsAt (ns : List Int) : Nat → List (List Int) → Nat → Prop
  | k, [], k' => k' = k
  | k, r :: rs, k' => rowAt ns k r ∧ rowsAt ns (k + 1 + r.length) rs k'
theorem drop_at {ns : List Int} {k : Nat} {l : List Int} (h : ns.drop k = l) (j : Nat) : ns[k + j]? = l[j]? := by rw [← h, List.getElem?_drop]
theorem row_of {ns : List Int} {k : Nat} {l x t : List Int} (h : ns.drop k = l) (hr : PyFlat.row l = some (x, t)) : rowAt ns k x ∧ t = ns.drop (k + 1 + x.length) := by
  cases l with
  | nil => cases hr
  | cons n r =>
    unfold PyFlat.row at hr
    dsimp only at hr
    by_cases c : 0 ≤ n ∧ n.toNat ≤ r.length
    · rw [if_pos c] at hr
      have e := Option.some.inj hr
      cases e
      have xl : (r.take n.toNat).length = n.toNat := by rw [List.length_take]; omega
      have hd : ns.drop (k + 1) = r := by
        have := congrArg List.tail h
        rw [List.tail_drop] at this
        exact this
      refine ⟨⟨n, by have := drop_at h 0; exact this, c.1, xl.symm, fun j hj => ?_⟩, ?_⟩
      · rw [drop_at hd j, List.getElem?_take, if_pos (by omega)]
      · rw [xl, ← hd, List.drop_drop]
    · rw [if_neg c] at hr
      cases hr
theorem rows_of {ns : List Int} : ∀ (kk k : Nat) {l : List Int} {rws : List (List Int)} {t : List Int}, ns.drop k = l → PyFlat.rows kk l = some (rws, t) → rws.length = kk ∧ ∃ k', rowsAt ns k rws k' ∧ t = ns.drop k'
  | 0, k, l, rws, t, h, hr => by
    have e := Option.some.inj hr
    cases e
    exact ⟨rfl, k, rfl, h.symm⟩
  | kk + 1, k, l, rws, t, h, hr => by
    unfold PyFlat.rows at hr
    cases h1 : PyFlat.row l with
    | none => rw [h1] at hr; cases hr
    | some q =>
      obtain ⟨x, s⟩ := q
      rw [h1] at hr
      dsimp only at hr
      cases h2 : PyFlat.rows kk s with
      | none => rw [h2] at hr; cases hr
      | some q2 =>
        obtain ⟨xs, t2⟩ := q2
        rw [h2] at hr
        have e := Option.some.inj hr
        cases e
        obtain ⟨a1, a2⟩ := row_of h h1
        obtain ⟨b1, k', b2, b3⟩ := rows_of kk (k + 1 + x.length) a2.symm h2
        exact ⟨by rw [List.length_cons, b1], k', ⟨a1, b2⟩, b3⟩
structure ReadOk (ns : List Int) (k : Nat) (x : Lrx1.Call) (k' : Nat) : Prop where
  ex : ∃ (p : Nat) (xs : List Int) (rws : List (List Int)), ns[k]? = some (p : Int) ∧ ER.ops[p]? = some (nameOf x, (xs.length : Int), (rws.length : Int)) ∧ xs.length ≤ 3 ∧ rws.length ≤ 1 ∧ (∀ j, j < xs.length → ns[k + 1 + j]? = xs[j]?) ∧ rowsAt ns (k + 1 + xs.length) rws k' ∧
    argsOf x = xs.map (fun z => Ar.int z.toNat) ++ rws.map (fun r => Ar.row (r.map Int.toNat)) ∧ ∀ r ∈ rws, r.length ≤ 1000
theorem read_ok {ns : List Int} {k : Nat} {c : List (List Int)} {t : List Int} (h : PyFlat.call PyLrx1.shape (ns.drop k) = some (c, t)) (ha : Lrx1Neutral.asked1 (PyLrx1.whole c) = true) :
    ∃ x k', Lrx1Neutral.callOf (PyLrx1.whole c) = some x ∧ callOk x ∧ ReadOk ns k x k' ∧ t = ns.drop k' := by
  cases hl : ns.drop k with
  | nil => rw [hl] at h; cases h
  | cons p r =>
    rw [hl] at h
    unfold PyFlat.call at h
    dsimp only at h
    cases hs : PyLrx1.shape p with
    | none => rw [hs] at h; cases h
    | some q =>
      obtain ⟨n, kk⟩ := q
      rw [hs] at h
      dsimp only at h
      by_cases c1 : r.length < n
      · rw [if_pos c1] at h; cases h
      · rw [if_neg c1] at h
        cases hr : PyFlat.rows kk (r.drop n) with
        | none => rw [hr] at h; cases h
        | some q2 =>
          obtain ⟨rws, t2⟩ := q2
          rw [hr] at h
          have e := Option.some.inj h
          cases e
          have xl : (r.take n).length = n := by rw [List.length_take]; omega
          have hd : ns.drop (k + 1) = r := by
            have := congrArg List.tail hl
            rw [List.tail_drop] at this
            exact this
          have hd2 : ns.drop (k + 1 + n) = r.drop n := by rw [← hd, List.drop_drop]
          obtain ⟨b1, k', b2, b3⟩ := rows_of kk (k + 1 + n) hd2 hr
          obtain ⟨q, hq, x, x1, x2, x3, x4, x5, s1, s2⟩ := rd_all hs xl b1 ha
          subst hq
          refine ⟨x, k', x1, x5, ⟨q, r.take n, rws, ?_, x2, s1, s2, fun j hj => ?_, by rw [xl]; exact b2, x3, x4⟩, b3⟩
          · have := drop_at hl 0
            exact this
          · rw [drop_at hd j, List.getElem?_take, if_pos (by omega)]
theorem calls_step {f : Nat} {l : List Int} {raw : List (List (List Int))} (h : PyFlat.calls PyLrx1.shape f l = some raw) (hl : l ≠ []) : ∃ c raw' f' t, raw = c :: raw' ∧ PyFlat.call PyLrx1.shape l = some (c, t) ∧ PyFlat.calls PyLrx1.shape f' t = some raw' := by
  cases l with
  | nil => exact absurd rfl hl
  | cons p r =>
    cases f with
    | zero => cases h
    | succ f =>
      unfold PyFlat.calls at h
      cases h1 : PyFlat.call PyLrx1.shape (p :: r) with
      | none => rw [h1] at h; cases h
      | some q =>
        obtain ⟨c, t⟩ := q
        rw [h1] at h
        dsimp only at h
        cases h2 : PyFlat.calls PyLrx1.shape f t with
        | none => rw [h2] at h; cases h
        | some cs =>
          rw [h2] at h
          have e := Option.some.inj h
          cases e
          exact ⟨c, cs, f, t, rfl, rfl, h2⟩
theorem calls_end {f : Nat} {raw : List (List (List Int))} (h : PyFlat.calls PyLrx1.shape f [] = some raw) : raw = [] := by
  cases f <;> exact (Option.some.inj h).symm
/-- what is left behind some calls -/
structure Rest (ns : List Int) (k : Nat) (st : Option Lrx1.Chain) (ans : List Int) : Prop where
  ex : ∃ f raw, PyFlat.calls PyLrx1.shape f (ns.drop k) = some raw ∧ (∀ c ∈ raw, Lrx1Neutral.asked1 (PyLrx1.whole c) = true) ∧ ans ++ PyFlat.told (PyFlat.played Lrx1Neutral.step st (raw.map PyLrx1.whole)) = PyLrx1.answers ns
  so : SOk st
theorem Rest.done {ns : List Int} {k : Nat} {st : Option Lrx1.Chain} {ans : List Int} (r : Rest ns k st ans) (h : ns.length ≤ k) : ans = PyLrx1.answers ns := by
  obtain ⟨f, raw, h1, h2, h3⟩ := r.ex
  rw [List.drop_of_length_le h] at h1
  rw [calls_end h1] at h3
  have e : ans ++ [] = PyLrx1.answers ns := h3
  rw [List.append_nil] at e
  exact e
theorem Rest.len {ns : List Int} {k : Nat} {st : Option Lrx1.Chain} {ans : List Int} (r : Rest ns k st ans) : ans.length ≤ (PyLrx1.answers ns).length := by
  obtain ⟨f, raw, h1, h2, h3⟩ := r.ex
  rw [← h3, List.length_append]
  omega
theorem Rest.go {ns : List Int} {k : Nat} {st : Option Lrx1.Chain} {ans : List Int} (r : Rest ns k st ans) (h : k < ns.length) : ∃ x k', callOk x ∧ ReadOk ns k x k' ∧ k < k' ∧ k' ≤ ns.length ∧ Rest ns k' (Lrx1.step st x).1 (ans ++ ((toL (Lrx1.step st x).2).length : Int) :: toL (Lrx1.step st x).2) := by
  obtain ⟨f, raw, h1, h2, h3⟩ := r.ex
  obtain ⟨c, raw', f', t, e1, e2, e3⟩ := calls_step h1 (fun z => by
    have := congrArg List.length z
    rw [List.length_drop] at this
    simp at this
    omega)
  subst e1
  obtain ⟨x, k', x1, x2, x3, x4⟩ := read_ok e2 (h2 c (List.mem_cons_self ..))
  have st' : Lrx1Neutral.step st (PyLrx1.whole c) = ((Lrx1.step st x).1, toL (Lrx1.step st x).2) := by
    unfold Lrx1Neutral.step
    rw [x1]
    rfl
  have hk : k < k' ∧ k' ≤ ns.length := by
    obtain ⟨p, xs, rws, a1, a2, a3, a4, a5, a6, a7, a8⟩ := x3.ex
    have g : ∀ (rws : List (List Int)) (k0 : Nat), k0 ≤ ns.length → rowsAt ns k0 rws k' → k0 ≤ k' ∧ k' ≤ ns.length := fun rws => by
      induction rws with
      | nil => intro k0 h0 h; have : k' = k0 := h; omega
      | cons r rs ih =>
        intro k0 h0 h
        obtain ⟨⟨n, n1, n2, n3, n4⟩, hh⟩ := h
        have l0 := (List.getElem?_eq_some_iff.mp n1).1
        have l1 : k0 + 1 + r.length ≤ ns.length := by
          by_cases q : r.length = 0
          · omega
          · have z := n4 (r.length - 1) (by omega)
            rw [List.getElem?_eq_getElem (l := r) (by omega)] at z
            have := (List.getElem?_eq_some_iff.mp z).1
            omega
        have := ih (k0 + 1 + r.length) l1 hh
        omega
    have l1 : k + 1 + xs.length ≤ ns.length := by
      by_cases q : xs.length = 0
      · omega
      · have z := a5 (xs.length - 1) (by omega)
        rw [List.getElem?_eq_getElem (l := xs) (by omega)] at z
        have := (List.getElem?_eq_some_iff.mp z).1
        omega
    have := g rws (k + 1 + xs.length) l1 a6
    omega
  refine ⟨x, k', x2, x3, hk.1, hk.2, ⟨f', raw', by rw [← x4]; exact e3, fun c hc => h2 c (List.mem_cons_of_mem _ hc), ?_⟩, step_ok r.so x⟩
  rw [← h3]
  show _ = ans ++ PyFlat.told ((Lrx1Neutral.step st (PyLrx1.whole c)).2 :: PyFlat.played Lrx1Neutral.step (Lrx1Neutral.step st (PyLrx1.whole c)).1 (raw'.map PyLrx1.whole))
  rw [st']
  show _ = ans ++ (((toL (Lrx1.step st x).2).length : Int) :: toL (Lrx1.step st x).2 ++ PyFlat.told (PyFlat.played Lrx1Neutral.step (Lrx1.step st x).1 (raw'.map PyLrx1.whole)))
  rw [List.append_assoc]
/-- what is asked of the numbers handed in -/
structure Good (ns : List Int) : Prop where
  nn : ∀ z ∈ ns, 0 ≤ z
  rest : Rest ns 0 none []
  len : (PyLrx1.answers ns).length ≤ 10000000
theorem good_of {ns : List Int} (hn : ∀ z ∈ ns, 0 ≤ z) (h : PyLrx1.answers_asked ns = true) : Good ns := by
  unfold PyLrx1.answers_asked at h
  cases hc : PyFlat.calls PyLrx1.shape ns.length ns with
  | none => rw [hc] at h; cases h
  | some raw =>
    rw [hc] at h
    dsimp only at h
    rw [Bool.and_eq_true, Bool.and_eq_true, Bool.and_eq_true, Bool.and_eq_true] at h
    obtain ⟨⟨⟨⟨_, _⟩, _⟩, h4⟩, h5⟩ := h
    unfold Lrx1Neutral.asked at h4
    rw [Bool.and_eq_true, Bool.and_eq_true] at h4
    have ha := List.all_eq_true.mp h4.2.2
    refine ⟨hn, ⟨⟨ns.length, raw, hc, fun c hcm => ha _ (List.mem_map.mpr ⟨c, hcm, rfl⟩), ?_⟩, fun c e => by cases e⟩, ?_⟩
    · unfold PyLrx1.answers PyLrx1.calls
      rw [hc]
      rfl
    · exact of_decide_eq_true h5
end ER
/-! ## ErQ -/
/-! reading a call, and all answers -/
namespace ER
open PySem PySem.Spec PyProof.Rows
open L2 hiding St
open Lrx1 (Fraction Chain size)
open EC (COk)
section
variable {P : Program} {w : World} {K : PySem.W.Frag} {mg : Str → Option Value} {base : Heap}
def nil : Hp := fun _ => none
theorem same_nil (H : Hp) : Same nil H := fun b u h => by cases h
section
variable {σ : L2.St} {i : Nat} {G H G1 H1 : Hp} {x dx l : Addr} {k : Nat} {ns : List Int} {E : XK} {Q : VK} {ta tb : TE} {t : TA}
theorem use_row (r : RdS K x dx l G H k G1 H1) (hl : SqL K G l (intL ns)) {row : List Int} (hr : rowAt ns k row) (hn : row.length ≤ 1000) (ho : σ[i]? = some (some (.ref x))) (q : ∀ v G2 H2, Ext G1 (upd H1 x (insR K dx l (k + 1 + row.length))) G2 H2 → qL qI G2 v row → Q v H2) :
    tMeth (He.ga K "Reader") "take_row" (sp_Reader_take_row K) [] E (tVar i) tNil σ H1 Q :=
  ⟨_, ho, x, dx, _, rfl, r.at, rfl, G1, x, dx, l, k, ns, row, rfl, r.e.sub, r.g1, r.at, r.e.g.seq hl, hr, hn, q⟩
theorem ev_ixTS {a : Addr} {vs : List V} {j : Nat} {v : V} (h : Ev ta σ G H (isV (.ref a))) (hs : ∀ H, SqT K H a vs) (hb : Ev tb σ G H (isV (.int (j : Int)))) (e : vs[j]? = some v) : Ev (tOp (rIxT K) ta tb) σ G H (isV v) :=
  ev_op2 (P1 := aV (.ref a)) (P2 := aV (.int (j : Int))) h hb fun x y G1 H1 e1 h1 h2 Q q => ⟨a, vs, j, v, h1, h2, hs H1, atI_nat e, q v G1 H1 (.refl e1.sub) rfl⟩
theorem nat_of {z : Int} (h : 0 ≤ z) : V.int z = V.int ((z.toNat : Nat) : Int) := by rw [Int.toNat_of_nonneg h]
theorem row_nat {G : Hp} {v : V} {row : List Int} (h : qL qI G v row) (hn : ∀ z ∈ row, 0 ≤ z) : qL qN G v (row.map Int.toNat) := by
  obtain ⟨p, vs, hv, hp, pr⟩ := h
  refine ⟨p, vs, hv, hp, ?_⟩
  clear hp hv
  induction pr with
  | nil => exact .nil
  | cons r _ ih =>
    refine .cons ?_ (ih fun z hz => hn z (List.mem_cons_of_mem _ hz))
    rw [show _ = _ from r]
    exact nat_of (hn _ (List.mem_cons_self ..))
theorem ev_newCall (T : Tx K mg) {n : Str} {as : List Ar} (h : EvA t σ G H [aV (.str n), aR (qL qA) as]) : Ev (tMake (He.ga K "Call") (sp_Call_init K) [] E t) σ G H (fun _ v G _ => ∃ p dx gv, v = .ref p ∧ G p = some (callO K dx n gv) ∧ qL qA G gv as) := fun G1 H1 e Q q =>
  h G1 H1 e _ fun us G2 H2 e2 ⟨u, r, hu, h1, r2, r3, hr, h2, h3⟩ x dx hx hdx ne => by
    have eu : u = .str n := h1
    have e3 : r3 = [] := h3
    subst eu e3 hr hu
    refine ⟨x, dx, .str n, r2, rfl, upd_same, fun o => ?_⟩
    have E1 := e2.new (o := .own x) hdx
    have xn : upd H2 dx (.own x) x = none := by rw [upd_ne ne.symm]; exact hx
    have E2 := E1.new (o := callO K dx n r2) xn
    rw [upd_upd, upd_upd]
    refine ⟨rfl, q _ _ _ E2 ⟨x, dx, r2, rfl, upd_same, ?_⟩⟩
    refine Mo.mo (R := qL qA) ?_ h2
    exact (same_upd (none_of e2.sub hdx)).trans (same_upd (none_of E1.sub xn))
end
theorem rowAt_nn {ns : List Int} {k : Nat} {row : List Int} (hnn : ∀ z ∈ ns, 0 ≤ z) (h : rowAt ns k row) : ∀ z ∈ row, 0 ≤ z := fun z hz => by
  obtain ⟨n, _, _, _, h4⟩ := h
  obtain ⟨j, hj⟩ := List.mem_iff_getElem?.mp hz
  have := h4 j (List.getElem?_eq_some_iff.mp hj).1
  rw [hj] at this
  exact hnn z (List.mem_of_getElem? this)
abbrev sp_Reader_take_call (K : PySem.W.Frag) : Sp := fun vs H Q _ => ∃ G x dx l k ns call k', vs = [.ref x] ∧ Same G H ∧ G x = none ∧ H x = some (insR K dx l k) ∧ SqL K G l (intL ns) ∧ (∀ z ∈ ns, 0 ≤ z) ∧ ReadOk ns k call k' ∧ ∀ v G' H', Ext G (upd H x (insR K dx l k')) G' H' → qCall K G' v call → Q v H'
theorem sp_Reader_take_call_len (K : PySem.W.Frag) {vs H Q X} (h : sp_Reader_take_call K vs H Q X) : vs.length = 1 := by
  obtain ⟨_, _, _, _, _, _, _, _, rfl, _⟩ := h
  rfl
abbrev N_Reader_take_call : List Str := ["self", "operation", "arguments", "place"]
abbrev P_Reader_take_call : List Str := ["self"]
theorem sc_Reader_take_call : FnScope N_Reader_take_call P_Reader_take_call (defScope s_Reader_take_call) := ⟨rfl, rfl, rfl, by decide +kernel, rfl, by decide +kernel, by decide +kernel⟩
theorem ok_Reader_take_call (T : Tx K mg) : Has P w K mg base 3 (He.ma K (He.ga K "Reader") "take_call") P_Reader_take_call (sp_Reader_take_call K) := by
  obtain ⟨⟨_, F_Call_init, b_Call_init⟩, kp_Call_init⟩ := ok_Call_init (P := P) (w := w) (base := base) T
  obtain ⟨⟨_, F_Reader_take_number, b_Reader_take_number⟩, kp_Reader_take_number⟩ := ok_Reader_take_number (P := P) (w := w) (base := base) T
  obtain ⟨⟨_, F_Reader_take_row, b_Reader_take_row⟩, kp_Reader_take_row⟩ := ok_Reader_take_row (P := P) (w := w) (base := base) T
  have nd := sc_Reader_take_call.nd
  refine has_sp T.f_Reader_take_call sc_Reader_take_call (fun vs H Q X h => sp_Reader_take_call_len K h) (fun _ _ _ _ _ _ us hl => match us, hl with | [_], _ => rfl) (fun cdv E outer s H X hr vs Q ha => ⟨_, (pss_cons (ps_set (i := 1) nd rfl (.inl rfl) (pe_ix (k_ixt K rfl) (pe_glob (v := .ref (He.ga K "OPERATIONS")) (by rfl) T.g_OPERATIONS rfl) (pe_meth0 (pv 0) T.c_Reader T.h_Reader_take_number F_Reader_take_number (hr.mono (by decide)) b_Reader_take_number .nil pass0) (fun _ _ => rfl)))
      (pss_cons (ps_set (i := 2) nd rfl (.inl rfl) (pe_lst pa_nil))
      (pss_cons (ps_for PassesOwn.never rfl (pi_range1 (by rfl) T.z_range (pa_cons (pe_ix (k_ixt K rfl) (pv 1) pe_int (fun _ _ => rfl)) pa_nil)) (pg_name (i := 3) nd rfl (.inl rfl)) (pss_one (ps_expr (k_bm K rfl PySem.F.plainAttrs_list PySem.F.slot_list_append PySem.F.type_list_append mt_append (pv 2) (pa_cons (pe_meth0 (pv 0) T.c_Reader T.h_Reader_take_number F_Reader_take_number (hr.mono (by decide)) b_Reader_take_number .nil pass0) pa_nil)))))
      (pss_cons (ps_for PassesOwn.never rfl (pi_range1 (by rfl) T.z_range (pa_cons (pe_ix (k_ixt K rfl) (pv 1) pe_int (fun _ _ => rfl)) pa_nil)) (pg_name (i := 3) nd rfl (.inl rfl)) (pss_one (ps_expr (k_bm K rfl PySem.F.plainAttrs_list PySem.F.slot_list_append PySem.F.type_list_append mt_append (pv 2) (pa_cons (pe_meth0 (pv 0) T.c_Reader T.h_Reader_take_row F_Reader_take_row (hr.mono (by decide)) b_Reader_take_row .nil pass0) pa_nil)))))
      (pss_one (ps_ret (pe_make T.m_Call F_Call_init (hr.mono (by decide)) (by rfl) T.g_Call b_Call_init .nil pass0 (pa_cons (pe_ix (k_ixt K rfl) (pv 1) pe_int (fun _ _ => rfl)) (pa_cons (pv 2) pa_nil))))))))), ?_⟩)
  obtain ⟨G, x, dx, l, k, ns, call, k', rfl, sm, gx, hx, hl, hnn, rd, q⟩ := ha
  obtain ⟨p, xs, rws, hp, ho, x3, r1', hxs, hrs, hargs, hlen⟩ := rd.ex
  have r0 : RdS K x dx l G H k G H := ⟨by rw [upd_self hx]; exact .refl sm, gx, ne_none hx⟩
  have p26 : p < 26 := (List.getElem?_eq_some_iff.mp ho).1
  have opT := fun H => T.op (mg := mg) H ho
  refine use_number r0 hl hp rfl fun G1 H1 e1 => ?_
  have r1 := r0.next e1
  refine ⟨_, _, p, .ref (opAd p K), rfl, rfl, T.ops H1, atI_nat (by rw [List.getElem?_map, List.getElem?_range p26]; rfl), ?_⟩
  refine sq_set r1.e.sub (ev_lst0 (R := qA)) fun v G2 H2 e2 n2 => ?_
  obtain ⟨a, rfl, l2⟩ := locl_of n2
  have l2 := l2.back (same_nil _)
  have r2 := r1.ext e2
  have ha1 : H1 a = none := by
    obtain ⟨p', vs', z1, z2, z3⟩ := n2
    cases z1
    exact z2
  have ax : a ≠ x := fun z => by rw [z, r1.at] at ha1; cases ha1
  have a0 : H a = none := by
    have := none_of r1.e.h ha1
    rw [upd_ne ax] at this
    exact this
  refine sq (fo_range (n := xs.length) r2.e.sub (ea_V (ev_ixTS (j := 1) (ev_var rfl) opT ev_c rfl) ea_nil) (by omega) (fun m σ G3 H3 => ∃ r3, σ = [some (.ref x), some (.ref (opAd p K)), some (.ref a), r3] ∧ RdS K x dx l G H (k + 1 + m) G3 H3 ∧ LocL qA ((xs.take m).map fun z => Ar.int z.toNat) nil a G3 H3) (fun G3 H3 e3 => ⟨none, rfl, r2.ext e3, l2.ext e3⟩) ?_ ?_)
  · rintro m σ G3 H3 hm sg s3 ⟨r3, rfl, r3', l3⟩
    have hx' : xs[m]? = some xs[m] := List.getElem?_eq_getElem hm
    have hn : ns[k + 1 + m]? = some xs[m] := by rw [hxs m hm]; exact hx'
    have znn := hnn _ (List.mem_of_getElem? hn)
    obtain ⟨vs3, c1, c2, c3, c4⟩ := l3
    refine ⟨_, rfl, .inl ⟨rfl, vs3, SqL.of c3⟩, ?_⟩
    refine use_number r3' hl hn rfl fun G4 H4 e4 => ?_
    have r4 := r3'.next e4
    have l3' : LocL qA ((xs.take m).map fun z => Ar.int z.toNat) nil a G3 (upd H3 x (insR K dx l (k + 1 + m + 1))) := ⟨vs3, c1, c2, by rw [upd_ne ax]; exact c3, c4⟩
    have l4 := l3'.ext e4
    obtain ⟨vs4, d1, d2, d3, d4⟩ := l4
    have ln := paired_len d4
    rw [List.length_map, List.length_take] at ln
    refine ⟨a, vs4, .int xs[m], rfl, rfl, d3, small1000 (by omega), G4, e4.g, ?_, some (.int (m : Int)), rfl, r4.loc a0 d2, ?_⟩
    · exact (r4.loc (o := .lst (vs4 ++ [.int xs[m]])) a0 d2).e.sub
    · refine ⟨_, d1, d2, upd_same, ?_⟩
      rw [take_step hx', List.map_append]
      exact paired_append d4 (.cons (nat_of znn) .nil)
  · rintro σ G3 H3 sg s3 ⟨r3, rfl, r3', l3⟩
    rw [List.take_length] at l3
    refine sq (fo_range (n := rws.length) s3 (ea_V (ev_ixTS (j := 2) (ev_var rfl) opT ev_c rfl) ea_nil) (by omega) (fun m σ G4 H4 => ∃ k2 r3, σ = [some (.ref x), some (.ref (opAd p K)), some (.ref a), r3] ∧ rowsAt ns k2 (rws.drop m) k' ∧ RdS K x dx l G H k2 G4 H4 ∧ LocL qA ((xs.map fun z => Ar.int z.toNat) ++ (rws.take m).map fun r => Ar.row (r.map Int.toNat)) nil a G4 H4) (fun G4 H4 e4 => ⟨_, r3, rfl, hrs, r3'.ext e4, by rw [List.take_zero, List.map_nil, List.append_nil]; exact l3.ext e4⟩) ?_ ?_)
    · rintro m σ G4 H4 hm sg4 s4 ⟨k2, r3, rfl, hat, r4, l4⟩
      have hx' : rws[m]? = some rws[m] := List.getElem?_eq_getElem hm
      rw [List.drop_eq_getElem_cons hm] at hat
      obtain ⟨ra, rb⟩ := hat
      obtain ⟨vs4, c1, c2, c3, c4⟩ := l4
      refine ⟨_, rfl, .inl ⟨rfl, vs4, SqL.of c3⟩, ?_⟩
      refine use_row r4 hl ra (hlen _ (List.getElem_mem hm)) rfl fun v G5 H5 e5 q5 => ?_
      have r5 := r4.next e5
      have l4' : LocL qA ((xs.map fun z => Ar.int z.toNat) ++ (rws.take m).map fun r => Ar.row (r.map Int.toNat)) nil a G4 (upd H4 x (insR K dx l (k2 + 1 + rws[m].length))) := ⟨vs4, c1, c2, by rw [upd_ne ax]; exact c3, c4⟩
      have l5 := l4'.ext e5
      obtain ⟨vs5, d1, d2, d3, d4⟩ := l5
      have ln := paired_len d4
      rw [List.length_append, List.length_map, List.length_map, List.length_take] at ln
      refine ⟨a, vs5, v, rfl, rfl, d3, small1000 (by omega), G5, e5.g, ?_, k2 + 1 + rws[m].length, some (.int (m : Int)), rfl, rb, r5.loc a0 d2, ?_⟩
      · exact (r5.loc (o := .lst (vs5 ++ [v])) a0 d2).e.sub
      · refine ⟨_, d1, d2, upd_same, ?_⟩
        rw [take_step hx', List.map_append, ← List.append_assoc]
        exact paired_append d4 (.cons (row_nat q5 (rowAt_nn hnn ra)) .nil)
    · rintro σ G4 H4 sg4 s4 ⟨k2, r3, rfl, hat, r4, l4⟩
      rw [List.drop_length] at hat
      have ek : k' = k2 := hat
      subst ek
      rw [List.take_length, ← hargs] at l4
      obtain ⟨vs4, c1, c2, c3, c4⟩ := l4
      have E4 := r4.e.frz (by rw [upd_ne ax]; exact a0) c2 c3
      have qa : qL qA (upd G4 a (.lst vs4)) (.ref a) (argsOf call) := ⟨a, vs4, rfl, upd_same, paired_mono (fun _ _ => Mo.mo (same_upd c2)) c4⟩
      refine st_ret E4.sub (ev_newCall T (n := nameOf call) (as := argsOf call) (ea_V (ev_ixTS (j := 0) (ev_var rfl) opT ev_c rfl) (ea_R (ev_vR rfl qa) ea_nil))) fun v G5 H5 e5 p5 => q v G5 H5 (E4.trans e5) p5
/-! all answers -/
structure AnS (K : PySem.W.Frag) (l xi dxi xr dxr pa : Addr) (ns : List Int) (k : Nat) (st : Option Chain) (ans : List Int) (G H : Hp) : Prop where
  sm : Same G H
  gl : SqL K G l (intL ns)
  gi : G xi = none
  hi : ∃ cv, H xi = some (insO K dxi cv) ∧ qO (qC K) G cv st
  gr : G xr = none
  hr : H xr = some (insR K dxr l k)
  ga : G pa = none
  ha : H pa = some (.lst (intL ans))
  n1 : xi ≠ xr
  n2 : pa ≠ xi
  n3 : pa ≠ xr
theorem AnS.ext {l xi dxi xr dxr pa : Addr} {ns : List Int} {k : Nat} {st : Option Chain} {ans : List Int} {G H G2 H2 : Hp} (a : AnS K l xi dxi xr dxr pa ns k st ans G H) (e : Ext G H G2 H2) : AnS K l xi dxi xr dxr pa ns k st ans G2 H2 := by
  obtain ⟨cv, h1, h2⟩ := a.hi
  exact ⟨e.sub, e.g.seq a.gl, e.out h1 a.gi, ⟨cv, e.h _ _ h1, Mo.mo e.g h2⟩, e.out a.hr a.gr, e.h _ _ a.hr, e.out a.ha a.ga, e.h _ _ a.ha, a.n1, a.n2, a.n3⟩
abbrev sp_answers (K : PySem.W.Frag) : Sp := fun vs H Q _ => ∃ l ns, vs = [.ref l] ∧ SqL K H l (intL ns) ∧ Good ns ∧ ∀ (H' : Hp) (p : Addr), H' p = some (.lst (intL (PyLrx1.answers ns))) → Q (.ref p) H'
theorem sp_answers_len (K : PySem.W.Frag) {vs H Q X} (h : sp_answers K vs H Q X) : vs.length = 1 := by
  obtain ⟨_, _, rfl, _⟩ := h
  rfl
theorem big_line {n : Nat} (h : n ≤ 10000000) : n < sizeLine := Nat.lt_of_le_of_lt h (by decide)
abbrev N_answers : List Str := ["calls", "instance", "reader", "answered", "numbers"]
abbrev P_answers : List Str := ["calls"]
theorem sc_answers : FnScope N_answers P_answers (defScope s_answers) := ⟨rfl, rfl, rfl, by decide +kernel, rfl, by decide +kernel, by decide +kernel⟩
theorem bd_answers (T : Tx K mg) (cdv : Value) (E : Around) (outer : List Env) (s : Shared) (H : Hp) (X : XK) (hr : Room 10 (E.deeper (PyProof.Rows.envOfC "answers" (defScope s_answers) s.heap.objs.size (He.ga K "answers") cdv))) (vs : List V) (Q : VK) (ha : sp_answers K vs H Q X) :
    ∃ t, PSs (cxOf CX0 P w K mg base N_answers "answers" (defScope s_answers) (He.ga K "answers") cdv E outer s H X).nox (defBody s_answers) t ∧ t { nx := fun _ H' => Q .non H', rt := Q } (L2.start N_answers vs) H := by
  obtain ⟨⟨_, F_Instance_init, b_Instance_init⟩, kp_Instance_init⟩ := ok_Instance_init (P := P) (w := w) (base := base) T
  obtain ⟨⟨_, F_Reader_at_end, b_Reader_at_end⟩, kp_Reader_at_end⟩ := ok_Reader_at_end (P := P) (w := w) (base := base) T
  obtain ⟨⟨_, F_Reader_init, b_Reader_init⟩, kp_Reader_init⟩ := ok_Reader_init (P := P) (w := w) (base := base) T
  obtain ⟨⟨_, F_Reader_take_call, b_Reader_take_call⟩, kp_Reader_take_call⟩ := ok_Reader_take_call (P := P) (w := w) (base := base) T
  obtain ⟨⟨_, F_answer, b_answer⟩, kp_answer⟩ := ok_answer (P := P) (w := w) (base := base) T
  have nd := sc_answers.nd
  refine ⟨_, (pss_cons (ps_set (i := 1) nd rfl (.inl rfl) (pe_make0 T.m_Instance F_Instance_init (hr.mono (by decide)) (by rfl) T.g_Instance b_Instance_init .nil pass0))
      (pss_cons (ps_set (i := 2) nd rfl (.inl rfl) (pe_make T.m_Reader F_Reader_init (hr.mono (by decide)) (by rfl) T.g_Reader b_Reader_init .nil pass0 (pa_cons (pv 0) pa_nil)))
      (pss_cons (ps_set (i := 3) nd rfl (.inl rfl) (pe_lst pa_nil))
      (pss_cons (ps_while PassesOwn.never (pt_not (pt_val (pe_meth0 (pv 2) T.c_Reader T.h_Reader_at_end F_Reader_at_end (hr.mono (by decide)) b_Reader_at_end .nil pass0))) (pss_cons (ps_set (i := 4) nd rfl (.inl rfl) (pe_call F_answer (hr.mono (by decide)) (by rfl) T.g_answer kp_answer b_answer .nil pass0 (pa_cons (pv 1) (pa_cons (pe_meth0 (pv 2) T.c_Reader T.h_Reader_take_call F_Reader_take_call (hr.mono (by decide)) b_Reader_take_call .nil pass0) pa_nil))))
      (pss_cons (ps_expr (k_bm K rfl PySem.F.plainAttrs_list PySem.F.slot_list_append PySem.F.type_list_append mt_append (pv 3) (pa_cons (pe_callB (k_len K rfl) (by rfl) T.z_len PySem.boot_len (pa_cons (pv 4) pa_nil)) pa_nil)))
      (pss_one (ps_expr (k_bm K rfl PySem.F.plainAttrs_list PySem.F.slot_list_extend PySem.F.type_list_extend mt_extend (pv 3) (pa_cons (pv 4) pa_nil)))))))
      (pss_one (ps_ret (pv 3))))))), ?_⟩
  obtain ⟨l, ns, rfl, hl, good, q⟩ := ha
  intro xi dxi hxi hdxi nei
  refine ⟨xi, dxi, rfl, upd_same, rfl, ?_⟩
  rw [upd_upd]
  have E1 : Ext H H H (upd (upd H dxi (.own xi)) xi (insO K dxi .non)) := by
    have e1 : Ext H H H (upd H dxi (.own xi)) := (Ext.refl (.refl H)).loc hdxi hdxi
    exact e1.loc hxi hxi
  refine ⟨_, rfl, ?_⟩
  intro xr dxr hxr hdxr ner
  refine ⟨xr, dxr, l, rfl, upd_same, fun o => ⟨rfl, ?_⟩⟩
  rw [upd_upd, upd_upd]
  have ni : xi ≠ xr := fun z => by rw [← z, upd_same] at hxr; cases hxr
  have ndi : xi ≠ dxr := fun z => by rw [← z, upd_same] at hdxr; cases hdxr
  have E2 : Ext H H H (upd (upd (upd (upd H dxi (.own xi)) xi (insO K dxi .non)) dxr (.own xr)) xr (insR K dxr l 0)) := by
    have e2 := E1.loc (o := .own xr) (none_of E1.h hdxr) (none_of E1.h hdxr)
    exact e2.loc (none_of E1.h hxr) (none_of E1.h hxr)
  refine sq_set E2.sub (ev_lst0 (R := qI)) fun v G3 H3 e3 n3 => ?_
  obtain ⟨pa, vs, rfl, b1, b2, b3, b4⟩ := n3
  cases b4
  have hi2 : (upd (upd (upd (upd H dxi (.own xi)) xi (insO K dxi .non)) dxr (.own xr)) xr (insR K dxr l 0)) xi = some (insO K dxi .non) := by rw [upd_ne ni, upd_ne ndi, upd_same]
  have hr2 : (upd (upd (upd (upd H dxi (.own xi)) xi (insO K dxi .non)) dxr (.own xr)) xr (insR K dxr l 0)) xr = some (insR K dxr l 0) := upd_same
  have A3 : AnS K l xi dxi xr dxr pa ns 0 none [] G3 H3 := ⟨e3.sub, e3.g.seq hl, e3.out hi2 hxi, ⟨.non, e3.h _ _ hi2, rfl⟩, e3.out hr2 (none_of E1.h hxr), e3.h _ _ hr2, b2, b3, ni, (fun z => by rw [z, hi2] at b1; cases b1), (fun z => by rw [z, hr2] at b1; cases b1)⟩
  refine sq (wh_by (m := ns.length) e3.sub (fun m σ G4 H4 => ∃ r4 k st ans, σ = [some (.ref l), some (.ref xi), some (.ref xr), some (.ref pa), r4] ∧ m = ns.length - k ∧ Rest ns k st ans ∧ AnS K l xi dxi xr dxr pa ns k st ans G4 H4) ⟨none, 0, none, [], rfl, by omega, good.rest, A3⟩ ?_)
  rintro m σ G4 H4 s4 ⟨r4, k, st, ans, rfl, rfl, rest, A⟩
  refine ⟨!decide (ns.length ≤ k), et_not (fun G5 H5 e5 Q5 q5 => ⟨_, rfl, xr, dxr, _, rfl, (A.ext e5).hr, rfl, G5, xr, dxr, l, k, ns, rfl, e5.sub, (A.ext e5).hr, (A.ext e5).gl, fun G6 H6 e6 => ⟨_, rfl, q5 G6 H6 e6⟩⟩), fun b G5 H5 e5 => ?_, fun b G5 H5 e5 => ?_⟩
  · have hk : k < ns.length := by
      have : ¬ ns.length ≤ k := by simpa using b
      omega
    have A5 := A.ext e5
    obtain ⟨call, k', co, rd, kk, kl, rest'⟩ := rest.go hk
    obtain ⟨cv, hi5, hc5⟩ := A5.hi
    refine ⟨_, rfl, _, rfl, xr, dxr, _, rfl, A5.hr, rfl, G5, xr, dxr, l, k, ns, call, k', rfl, A5.sm, A5.gr, A5.hr, A5.gl, good.nn, rd, fun v6 G6 H6 e6 q6 => ?_⟩
    have hi5' : upd H5 xr (insR K dxr l k') xi = some (insO K dxi cv) := by rw [upd_ne A5.n1]; exact hi5
    have ha5' : upd H5 xr (insR K dxr l k') pa = some (.lst (intL ans)) := by rw [upd_ne A5.n3]; exact A5.ha
    refine ⟨G6, (st, call), xi, dxi, cv, [v6], rfl, e6.sub, e6.out hi5' A5.gi, e6.h _ _ hi5', Mo.mo e6.g hc5, ⟨v6, [], rfl, q6, rfl⟩, ⟨rest.so, co⟩, fun v7 cv' G7 H7 e7 r7 p7 => ?_⟩
    have g6r := e6.out upd_same A5.gr
    have g6i := e6.out hi5' A5.gi
    have g6a := e6.out ha5' A5.ga
    have h6r : upd H6 xi (insO K dxi cv') xr = some (insR K dxr l k') := by rw [upd_ne A5.n1.symm]; exact e6.h _ _ upd_same
    have h6a : upd H6 xi (insO K dxi cv') pa = some (.lst (intL ans)) := by rw [upd_ne A5.n2]; exact e6.h _ _ ha5'
    have A7 : AnS K l xi dxi xr dxr pa ns k' (Lrx1.step st call).1 ans G7 H7 := ⟨e7.sub, (e6.g.trans e7.g).seq A5.gl, e7.out upd_same g6i, ⟨cv', e7.h _ _ upd_same, r7⟩, e7.out h6r g6r, e7.h _ _ h6r, e7.out h6a g6a, e7.h _ _ h6a, A5.n1, A5.n2, A5.n3⟩
    have p7 : qL qI G7 v7 (toL (Lrx1.step st call).2) := p7
    have tl := rest'.len
    have gl := good.len
    rw [List.length_append, List.length_cons] at tl
    -- answered.append(len(numbers))
    refine ⟨_, rfl, .inl ⟨rfl, _, SqL.of A7.ha⟩, ?_⟩
    refine ev_lenL (K := K) (ev_vR (σ := [some (.ref l), some (.ref xi), some (.ref xr), some (.ref pa), some v7]) (i := 4) rfl p7) G7 H7 (.refl A7.sm) _ fun u G8 H8 e8 hu => ?_
    have eu : u = .int ((toL (Lrx1.step st call).2).length : Int) := hu
    subst eu
    have A8 := A7.ext e8
    refine ⟨pa, intL ans, .int ((toL (Lrx1.step st call).2).length : Int), rfl, rfl, A8.ha, big_line (by unfold intL; rw [List.length_map]; omega), ?_⟩
    -- answered.extend(numbers)
    obtain ⟨b, zs, rfl, hb, pr⟩ := Mo.mo (R := qL qI) e8.g p7
    have ez := qI_list pr
    subst ez
    have hb8 := A8.sm _ _ hb
    have bp : b ≠ pa := fun z => by rw [z, A8.ga] at hb; cases hb
    have ha9 : upd H8 pa (.lst (intL ans ++ [.int ((toL (Lrx1.step st call).2).length : Int)])) pa = some (.lst (intL ans ++ [.int ((toL (Lrx1.step st call).2).length : Int)])) := upd_same
    refine ⟨_, rfl, .inl ⟨rfl, _, SqL.of ha9⟩, _, rfl, ?_⟩
    refine ⟨pa, b, _, _, rfl, rfl, ha9, by rw [upd_ne bp]; exact hb8, ?_, ?_⟩
    · have : (intL ans ++ [V.int ((toL (Lrx1.step st call).2).length : Int)]).length + ((toL (Lrx1.step st call).2).map V.int).length ≤ 10000000 := by
        unfold intL
        rw [List.length_append, List.length_map, List.length_map]
        show ans.length + 1 + _ ≤ _
        omega
      exact Nat.le_of_lt (big_line this)
    · rw [upd_upd]
      have fin : intL ans ++ [V.int ((toL (Lrx1.step st call).2).length : Int)] ++ (toL (Lrx1.step st call).2).map V.int = intL (ans ++ ((toL (Lrx1.step st call).2).length : Int) :: toL (Lrx1.step st call).2) := by
        unfold intL
        rw [List.map_append, List.append_assoc]
        rfl
      rw [fin]
      obtain ⟨cv8, hi8, hc8⟩ := A8.hi
      refine ⟨ns.length - k', G8, by omega, same_upd2 A8.sm A8.ga, some (.ref b), k', _, _, rfl, rfl, rest', ?_⟩
      exact ⟨same_upd2 A8.sm A8.ga, A8.gl, A8.gi, ⟨cv8, by rw [upd_ne A8.n2.symm]; exact hi8, hc8⟩, A8.gr, by rw [upd_ne A8.n3.symm]; exact A8.hr, A8.ga, upd_same, A8.n1, A8.n2, A8.n3⟩
  · have hk : ns.length ≤ k := by simpa using b
    have A5 := A.ext e5
    have ed := rest.done hk
    refine ⟨_, rfl, q H5 pa ?_⟩
    rw [← ed]
    exact A5.ha
theorem ok_answers (T : Tx K mg) : ∃ fd, (∀ (s : Shared) (us : List Value), us.length = P_answers.length → BindsTo s fd ⟨us, []⟩ (P_answers.zip us)) ∧ ∀ base : Heap, FnOk P w K mg base CX0 11 (He.ga K "answers") fd P_answers (sp_answers K) := by
  obtain ⟨fd, F⟩ := T.f_answers
  refine ⟨fd, fun s us hu => ?_, fun base => F.ok sc_answers (fun vs H Q X h => sp_answers_len K h) fun cdv E outer s H vs Q X hr ha => ?_⟩
  · obtain ⟨oc, od, dV, kV, doc, pm, an, cdv, ct, osl, rfl, _, _, hD, _⟩ := F.ex
    rcases hD with ⟨_, rfl⟩ | ⟨n, _⟩
    · match us, hu with
      | [_], _ => exact .of_eq rfl
    · exact absurd rfl n
  · obtain ⟨t, d, r⟩ := bd_answers (P := P) (w := w) (base := base) T cdv E outer s H X hr vs Q ha
    exact ⟨t, PSs.nox d, r⟩
end
end ER
/-! ## ErEnd -/
set_option maxHeartbeats 0
namespace ER
open PySem PySem.Spec PyProof.Rows L2
/-- the walk where the written part is told by what the top has left -/
theorem walk_X {r : PySem.W.OpenSpec} {k : Nat} {q : Program} {loose : List Str} {XP : (Str → Option Value) → Heap → Prop} {d : DefRec} {ps : List Str} {sp : PySem.W.Frag → Sp}
    (hwell : r.wellSaid = true) (hdf : d.params.defaults = []) (hlen : r.args.length = ps.length) (hr : Room k callerA)
    (F : ∀ (w : World) (mg : Str → Option Value) (fa' : Addr) (h : Heap) (K : PySem.W.Frag), K.In h → He.SaysD fa fn K → ex K = true → h.Ns mainGlobals mg → mg d.name = some (.ref fa') →
      ∃ fd : FuncData, (∀ (s : Shared) (us : List Value), us.length = ps.length → BindsTo s fd ⟨us, []⟩ (ps.zip us)) ∧
        ∀ base : Heap, K.In base → base.Ns mainGlobals mg → FnOk r.prog w K mg base CX0 k fa' fd ps (sp K))
    (hsp : ∀ (K : PySem.W.Frag) (H : Hp) (xs : List V) (a : PySem.W.Codec.denoteAll r.args), OnlyF H → PySem.W.Codec.withinAll r.args a = true → PySem.W.Codec.app r.args r.asked a = true → DwAll K H xs (PySem.W.Codec.encAll r.args a) →
      sp K xs H (fun v H' => Dw K H' v (r.ret.enc (PySem.W.Codec.app r.args r.f a))) fun _ _ _ => False) :
    PySem.W.WalkOS q loose XP hk.says r d [] (fun f vs => PySem.call f vs) := by
  intro w s₀ s₁ mg mb G Y fa' o pm cd doc dV kV ho hd hcd hD hmg hg args vals as hpre hlay hrd hwl hlo
  obtain ⟨a, e1, e2⟩ := PySem.W.os_pre_some hpre
  obtain ⟨e3, hwi⟩ := PySem.W.Codec.encAll_of_decAll r.args args a e1
  subst e3
  obtain ⟨K, KX, Z, Z2⟩ := Y
  obtain ⟨fd, hb, hF⟩ := F w mg fa' _ K KX Z Z2 G.T.g hmg
  refine PySem.W.enter_call (codeAny_mono (spec_call (R := []) (cl := classAt s₀.heap) (d0 := r.ret.enc (PySem.W.Codec.app r.args r.f a)) KX G.T.g G.T.b G.T.builtins G.T.nolimit hg hwl (pl_encAll _ _) (layable_weight hlay) hr hF hb (by rw [encAll_len]; exact hlen)
    (fun H xs hO hS => hsp K H xs a hO hwi e2 hS) fun H e s' z => z) fun r' s' hq => ?_)
  obtain ⟨u, as', rfl, h1, h2, h3, h4⟩ := hq
  exact ⟨.inl ⟨u, _, as', rfl, fun _ => rfl, h1, (PySem.W.OpenSpec.post_iff hwell hwi _ _).mpr rfl, fun z => Bool.noConfusion (show false = true from z)⟩, h2, h3, h4⟩
theorem promise (K : PySem.W.Frag) (H : Hp) (xs : List V) (a : PySem.W.Codec.denoteAll R.args) (hwi : PySem.W.Codec.withinAll R.args a = true) (hask : PySem.W.Codec.app R.args R.asked a = true) (hx : DwAll K H xs (PySem.W.Codec.encAll R.args a)) :
    sp_answers K xs H (fun v H' => Dw K H' v (R.ret.enc (PySem.W.Codec.app R.args R.f a))) fun _ _ _ => False := by
  cases hx with
  | cons h1 h2 =>
    cases h2
    cases h1 with
    | lst hs ha =>
      have e := L2.ints_dw a.1 _ ha
      subst e
      have q : ((PySem.W.Codec.inLen 0 1200 a.1 && a.1.all (PySem.W.Codec.inInt 0 4294967295)) && true) = true := hwi
      rw [Bool.and_eq_true, Bool.and_eq_true] at q
      have nn : ∀ z ∈ a.1, 0 ≤ z := fun z hz => (PySem.W.Codec.inInt_iff.mp (List.all_eq_true.mp q.1.2 z hz)).1
      exact ⟨_, a.1, rfl, hs, good_of nn hask, fun H' p hp => .lst (L2.SqL.of hp) (L2.dw_ints _)⟩
end ER
open PySem PySem.W PyProof.Rows
set_option maxRecDepth 100000 in
set_option maxHeartbeats 8000000 in
theorem PySem.Challenge.cw_exactchains_s01_answers_holds : PySem.Challenge.rw_exactchains_s01_answers.Holds := by
  refine HandSHeadRun.head_spec (r := ER.R) (q := PySem.W.view ER.R.prog [106]) (H := ER.hk) (ob := ER.ob) (M := 6000) (loose := ER.names) (kwd := []) ER.ob_eq (by kernel_rfl) (fun s => by kernel_rfl) ER.run (by rfl) (by rfl) (by rfl) os_shapes (by decide +kernel) (by decide +kernel) ⟨rfl, rfl, rfl, rfl, rfl, by decide +kernel⟩ ⟨[.list [.int 10]], by decide +kernel, by decide +kernel⟩ ?_
  refine ER.walk_X (k := 11) (ps := ER.P_answers) (sp := ER.sp_answers) (by decide +kernel) rfl rfl ⟨rfl, by decide, by decide⟩ (fun w mg fa' h K KX Z Z2 hns hmg => ?_) fun K H xs a _ hwi hask hx => ER.promise K H xs a hwi hask hx
  have T : ER.Tx K mg := ⟨⟨h, KX, hns⟩, Z, Z2⟩
  have e := hmg.symm.trans T.g_answers
  cases e
  obtain ⟨fd, hb, hF⟩ := ER.ok_answers (P := ER.R.prog) (w := w) T
  exact ⟨fd, hb, fun base _ _ => hF base⟩
