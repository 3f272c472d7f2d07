import PyProof.Rows.All
import Wide.All
import OpenK.AllK
import Wide.FinOn
import HandS.Words
import HandS.Defaults
import HandS.HeadHook1
import HandS.HeadHook2
import PySem.Challenge.RW_drawnsums_s01_answers
import KE.KStateDown
import Open.SpecLaws
import KE.OsGo
import Lean
import HandS.ForMost
import HandS.ForSpec
import HandS.More
import HandS.Wide
import HandS.Flow
import HandS.Evl
import HandS.Head4
import HandS.HeadEnd
import HandS.HeadHook4
import HandS.Head0
import HandS.Head1
import HandS.Head2
import HandS.Zip
import KE.DataMinMax
import HandS.SortKw
import HandS.CallLocal
import HandS.SortInts
import HandS.Walk
import KE.KEqDeep
section
set_option Elab.async false
set_option linter.all false
namespace Su
/-! ### What each call brings: its whole numbers, its rows -/
def wholeL : List Int := [0, 2, 0, 2, 4, 3, 4, 3, 3, 2, 3, 3, 2, 3, 0, 0, 1, 2, 2, 1, 1, 1, 2, 2, 2, 2, 4]
def rowsL : List Int := [0, 0, 0, 0, 0, 0, 0, 0, 0, 0, 0, 0, 0, 0, 0, 0, 0, 0, 0, 0, 1, 1, 1, 1, 2, 2, 1]
end Su
end
section
set_option Elab.async false
set_option linter.all false
set_option maxRecDepth 100000
set_option maxHeartbeats 2000000
namespace Ds
open PySem PySem.Spec PyProof.Rows L2
/-! ### the text: where each def stands (printed by gen_head.py) -/
def top (i : Nat) : Stmt := PySem.Challenge.pw_drawnsums_s01_answers.main.body.getD i (.Pass ⟨0, 0, 0, 0⟩)
abbrev s_constant : Stmt := top 3
abbrev s_letter : Stmt := top 4
abbrev s_is_nought : Stmt := top 5
abbrev s_without_noughts : Stmt := top 6
abbrev s_plus : Stmt := top 7
abbrev s_less : Stmt := top 8
abbrev s_times : Stmt := top 9
abbrev s_power_in : Stmt := top 10
abbrev s_terms : Stmt := top 11
abbrev s_flat_terms : Stmt := top 12
abbrev s_power_of : Stmt := top 13
abbrev s_most_in : Stmt := top 14
abbrev s_common_in : Stmt := top 15
abbrev s_common_of_two : Stmt := top 16
abbrev s_put : Stmt := top 17
abbrev s_raised : Stmt := top 18
abbrev s_comes_to : Stmt := top 19
abbrev s_added_products : Stmt := top 21
abbrev s_crossed_products : Stmt := top 22
abbrev s_way : Stmt := top 23
abbrev s_line : Stmt := top 24
abbrev s_beside : Stmt := top 25
abbrev s_meeting : Stmt := top 26
abbrev s_area : Stmt := top 27
abbrev s_square : Stmt := top 28
abbrev s_matched : Stmt := top 29
abbrev s_crossed : Stmt := top 30
abbrev s_moved : Stmt := top 44
abbrev s_fixed : Stmt := top 45
abbrev s_free : Stmt := top 46
abbrev s_on : Stmt := top 47
abbrev s_part : Stmt := top 48
abbrev s_along : Stmt := top 49
abbrev s_meet : Stmt := top 50
abbrev s_foot : Stmt := top 51
abbrev s_mirror : Stmt := top 52
abbrev s_dropped : Stmt := top 53
abbrev s_turn : Stmt := top 54
abbrev s_centre : Stmt := top 55
abbrev s_second : Stmt := top 56
abbrev s_round_about : Stmt := top 57
abbrev s_inverse : Stmt := top 58
abbrev s_without_points : Stmt := top 59
abbrev s_from_two : Stmt := top 60
abbrev s_from_three : Stmt := top 61
abbrev s_drawn : Stmt := top 62
abbrev s_count_of_points : Stmt := top 76
abbrev s_value_fits : Stmt := top 77
abbrev s_numbers_fit : Stmt := top 78
abbrev s_heavy_by : Stmt := top 79
abbrev s_reach_by : Stmt := top 80
abbrev s_weighted_reach : Stmt := top 81
abbrev s_places : Stmt := top 82
abbrev s_points_in_saying : Stmt := top 83
abbrev s_saying_fits : Stmt := top 84
abbrev s_reach_in : Stmt := top 85
abbrev s_Call_init : Stmt := inClass (top 104) 0
abbrev s_read_calls : Stmt := top 105
abbrev s_looked_at : Stmt := top 113
abbrev s_numbers : Stmt := top 114
abbrev s_told_terms : Stmt := top 115
abbrev s_degree : Stmt := top 116
abbrev s_common : Stmt := top 117
abbrev s_weights : Stmt := top 119
abbrev s_same : Stmt := top 120
abbrev s_on_one_line : Stmt := top 121
abbrev s_parallel : Stmt := top 122
abbrev s_right : Stmt := top 123
abbrev s_equal : Stmt := top 124
abbrev s_so_many_times : Stmt := top 125
abbrev s_far : Stmt := top 126
abbrev s_circle : Stmt := top 127
abbrev s_around : Stmt := top 128
abbrev s_angles : Stmt := top 129
abbrev s_areas : Stmt := top 130
abbrev s_through : Stmt := top 131
abbrev s_middle : Stmt := top 132
abbrev s_touches : Stmt := top 133
abbrev s_alike : Stmt := top 134
abbrev s_together : Stmt := top 135
abbrev s_left : Stmt := top 137
abbrev s_asked : Stmt := top 139
abbrev s_refusal_of : Stmt := top 140
abbrev s_named_points : Stmt := top 141
abbrev s_yes_or_no : Stmt := top 142
abbrev s_power : Stmt := top 143
abbrev s_asked_of_one : Stmt := top 144
abbrev s_at : Stmt := top 145
abbrev s_goes : Stmt := top 146
abbrev s_Point_init : Stmt := inClass (top 148) 0
abbrev s_Figure_init : Stmt := inClass (top 149) 0
abbrev s_Figure_answer : Stmt := inClass (top 149) 1
abbrev s_Figure_begin : Stmt := inClass (top 149) 2
abbrev s_Figure_draw : Stmt := inClass (top 149) 3
abbrev s_Figure_has_point : Stmt := inClass (top 149) 4
abbrev s_Figure_has_letter : Stmt := inClass (top 149) 5
abbrev s_Figure_has_room : Stmt := inClass (top 149) 6
abbrev s_Figure_next_letters : Stmt := inClass (top 149) 7
abbrev s_Figure_keep : Stmt := inClass (top 149) 8
abbrev s_Figure_take_out : Stmt := inClass (top 149) 9
abbrev s_answers : Stmt := top 150
/-! ### the head's data -/
def d_constant : He.DefD := ⟨("constant", none), "constant", "constant", defArgs s_constant, defBody s_constant, defScope s_constant, [], []⟩
def d_letter : He.DefD := ⟨("letter", none), "letter", "letter", defArgs s_letter, defBody s_letter, defScope s_letter, [], []⟩
def d_is_nought : He.DefD := ⟨("is_nought", none), "is_nought", "is_nought", defArgs s_is_nought, defBody s_is_nought, defScope s_is_nought, [], []⟩
def d_without_noughts : He.DefD := ⟨("without_noughts", none), "without_noughts", "without_noughts", defArgs s_without_noughts, defBody s_without_noughts, defScope s_without_noughts, [], []⟩
def d_plus : He.DefD := ⟨("plus", none), "plus", "plus", defArgs s_plus, defBody s_plus, defScope s_plus, [], []⟩
def d_less : He.DefD := ⟨("less", none), "less", "less", defArgs s_less, defBody s_less, defScope s_less, [], []⟩
def d_times : He.DefD := ⟨("times", none), "times", "times", defArgs s_times, defBody s_times, defScope s_times, [], []⟩
def d_power_in : He.DefD := ⟨("power_in", none), "power_in", "power_in", defArgs s_power_in, defBody s_power_in, defScope s_power_in, [], []⟩
def d_terms : He.DefD := ⟨("terms", none), "terms", "terms", defArgs s_terms, defBody s_terms, defScope s_terms, [], []⟩
def d_flat_terms : He.DefD := ⟨("flat_terms", none), "flat_terms", "flat_terms", defArgs s_flat_terms, defBody s_flat_terms, defScope s_flat_terms, [], []⟩
def d_power_of : He.DefD := ⟨("power_of", none), "power_of", "power_of", defArgs s_power_of, defBody s_power_of, defScope s_power_of, [], []⟩
def d_most_in : He.DefD := ⟨("most_in", none), "most_in", "most_in", defArgs s_most_in, defBody s_most_in, defScope s_most_in, [], []⟩
def d_common_in : He.DefD := ⟨("common_in", none), "common_in", "common_in", defArgs s_common_in, defBody s_common_in, defScope s_common_in, [], []⟩
def d_common_of_two : He.DefD := ⟨("common_of_two", none), "common_of_two", "common_of_two", defArgs s_common_of_two, defBody s_common_of_two, defScope s_common_of_two, [], []⟩
def d_put : He.DefD := ⟨("put", none), "put", "put", defArgs s_put, defBody s_put, defScope s_put, [], []⟩
def d_raised : He.DefD := ⟨("raised", none), "raised", "raised", defArgs s_raised, defBody s_raised, defScope s_raised, [], []⟩
def d_comes_to : He.DefD := ⟨("comes_to", none), "comes_to", "comes_to", defArgs s_comes_to, defBody s_comes_to, defScope s_comes_to, [], []⟩
def d_added_products : He.DefD := ⟨("added_products", none), "added_products", "added_products", defArgs s_added_products, defBody s_added_products, defScope s_added_products, [], []⟩
def d_crossed_products : He.DefD := ⟨("crossed_products", none), "crossed_products", "crossed_products", defArgs s_crossed_products, defBody s_crossed_products, defScope s_crossed_products, [], []⟩
def d_way : He.DefD := ⟨("way", none), "way", "way", defArgs s_way, defBody s_way, defScope s_way, [], []⟩
def d_line : He.DefD := ⟨("line", none), "line", "line", defArgs s_line, defBody s_line, defScope s_line, [], []⟩
def d_beside : He.DefD := ⟨("beside", none), "beside", "beside", defArgs s_beside, defBody s_beside, defScope s_beside, [], []⟩
def d_meeting : He.DefD := ⟨("meeting", none), "meeting", "meeting", defArgs s_meeting, defBody s_meeting, defScope s_meeting, [], []⟩
def d_area : He.DefD := ⟨("area", none), "area", "area", defArgs s_area, defBody s_area, defScope s_area, [], []⟩
def d_square : He.DefD := ⟨("square", none), "square", "square", defArgs s_square, defBody s_square, defScope s_square, [], []⟩
def d_matched : He.DefD := ⟨("matched", none), "matched", "matched", defArgs s_matched, defBody s_matched, defScope s_matched, [], []⟩
def d_crossed : He.DefD := ⟨("crossed", none), "crossed", "crossed", defArgs s_crossed, defBody s_crossed, defScope s_crossed, [], []⟩
def d_moved : He.DefD := ⟨("moved", none), "moved", "moved", defArgs s_moved, defBody s_moved, defScope s_moved, [], []⟩
def d_fixed : He.DefD := ⟨("fixed", none), "fixed", "fixed", defArgs s_fixed, defBody s_fixed, defScope s_fixed, [], []⟩
def d_free : He.DefD := ⟨("free", none), "free", "free", defArgs s_free, defBody s_free, defScope s_free, [], []⟩
def d_on : He.DefD := ⟨("on", none), "on", "on", defArgs s_on, defBody s_on, defScope s_on, [], []⟩
def d_part : He.DefD := ⟨("part", none), "part", "part", defArgs s_part, defBody s_part, defScope s_part, [], []⟩
def d_along : He.DefD := ⟨("along", none), "along", "along", defArgs s_along, defBody s_along, defScope s_along, [], []⟩
def d_meet : He.DefD := ⟨("meet", none), "meet", "meet", defArgs s_meet, defBody s_meet, defScope s_meet, [], []⟩
def d_foot : He.DefD := ⟨("foot", none), "foot", "foot", defArgs s_foot, defBody s_foot, defScope s_foot, [], []⟩
def d_mirror : He.DefD := ⟨("mirror", none), "mirror", "mirror", defArgs s_mirror, defBody s_mirror, defScope s_mirror, [], []⟩
def d_dropped : He.DefD := ⟨("dropped", none), "dropped", "dropped", defArgs s_dropped, defBody s_dropped, defScope s_dropped, [], []⟩
def d_turn : He.DefD := ⟨("turn", none), "turn", "turn", defArgs s_turn, defBody s_turn, defScope s_turn, [], []⟩
def d_centre : He.DefD := ⟨("centre", none), "centre", "centre", defArgs s_centre, defBody s_centre, defScope s_centre, [], []⟩
def d_second : He.DefD := ⟨("second", none), "second", "second", defArgs s_second, defBody s_second, defScope s_second, [], []⟩
def d_round_about : He.DefD := ⟨("round_about", none), "round_about", "round_about", defArgs s_round_about, defBody s_round_about, defScope s_round_about, [], []⟩
def d_inverse : He.DefD := ⟨("inverse", none), "inverse", "inverse", defArgs s_inverse, defBody s_inverse, defScope s_inverse, [], []⟩
def d_without_points : He.DefD := ⟨("without_points", none), "without_points", "without_points", defArgs s_without_points, defBody s_without_points, defScope s_without_points, [], []⟩
def d_from_two : He.DefD := ⟨("from_two", none), "from_two", "from_two", defArgs s_from_two, defBody s_from_two, defScope s_from_two, [], []⟩
def d_from_three : He.DefD := ⟨("from_three", none), "from_three", "from_three", defArgs s_from_three, defBody s_from_three, defScope s_from_three, [], []⟩
def d_drawn : He.DefD := ⟨("drawn", none), "drawn", "drawn", defArgs s_drawn, defBody s_drawn, defScope s_drawn, [], []⟩
def d_count_of_points : He.DefD := ⟨("count_of_points", none), "count_of_points", "count_of_points", defArgs s_count_of_points, defBody s_count_of_points, defScope s_count_of_points, [], []⟩
def d_value_fits : He.DefD := ⟨("value_fits", none), "value_fits", "value_fits", defArgs s_value_fits, defBody s_value_fits, defScope s_value_fits, [], []⟩
def d_numbers_fit : He.DefD := ⟨("numbers_fit", none), "numbers_fit", "numbers_fit", defArgs s_numbers_fit, defBody s_numbers_fit, defScope s_numbers_fit, [], []⟩
def d_heavy_by : He.DefD := ⟨("heavy_by", none), "heavy_by", "heavy_by", defArgs s_heavy_by, defBody s_heavy_by, defScope s_heavy_by, [], []⟩
def d_reach_by : He.DefD := ⟨("reach_by", none), "reach_by", "reach_by", defArgs s_reach_by, defBody s_reach_by, defScope s_reach_by, [], []⟩
def d_weighted_reach : He.DefD := ⟨("weighted_reach", none), "weighted_reach", "weighted_reach", defArgs s_weighted_reach, defBody s_weighted_reach, defScope s_weighted_reach, [], []⟩
def d_places : He.DefD := ⟨("places", none), "places", "places", defArgs s_places, defBody s_places, defScope s_places, [], []⟩
def d_points_in_saying : He.DefD := ⟨("points_in_saying", none), "points_in_saying", "points_in_saying", defArgs s_points_in_saying, defBody s_points_in_saying, defScope s_points_in_saying, [], []⟩
def d_saying_fits : He.DefD := ⟨("saying_fits", none), "saying_fits", "saying_fits", defArgs s_saying_fits, defBody s_saying_fits, defScope s_saying_fits, [], []⟩
def d_reach_in : He.DefD := ⟨("reach_in", none), "reach_in", "reach_in", defArgs s_reach_in, defBody s_reach_in, defScope s_reach_in, [], []⟩
def d_Call_init : He.DefD := ⟨("Call", some "__init__"), "__init__", "Call.__init__", defArgs s_Call_init, defBody s_Call_init, defScope s_Call_init, [], []⟩
def d_read_calls : He.DefD := ⟨("read_calls", none), "read_calls", "read_calls", defArgs s_read_calls, defBody s_read_calls, defScope s_read_calls, [], []⟩
def d_looked_at : He.DefD := ⟨("looked_at", none), "looked_at", "looked_at", defArgs s_looked_at, defBody s_looked_at, defScope s_looked_at, [], []⟩
def d_numbers : He.DefD := ⟨("numbers", none), "numbers", "numbers", defArgs s_numbers, defBody s_numbers, defScope s_numbers, [], []⟩
def d_told_terms : He.DefD := ⟨("told_terms", none), "told_terms", "told_terms", defArgs s_told_terms, defBody s_told_terms, defScope s_told_terms, [], []⟩
def d_degree : He.DefD := ⟨("degree", none), "degree", "degree", defArgs s_degree, defBody s_degree, defScope s_degree, [], []⟩
def d_common : He.DefD := ⟨("common", none), "common", "common", defArgs s_common, defBody s_common, defScope s_common, [], []⟩
def d_weights : He.DefD := ⟨("weights", none), "weights", "weights", defArgs s_weights, defBody s_weights, defScope s_weights, [], []⟩
def d_same : He.DefD := ⟨("same", none), "same", "same", defArgs s_same, defBody s_same, defScope s_same, [], []⟩
def d_on_one_line : He.DefD := ⟨("on_one_line", none), "on_one_line", "on_one_line", defArgs s_on_one_line, defBody s_on_one_line, defScope s_on_one_line, [], []⟩
def d_parallel : He.DefD := ⟨("parallel", none), "parallel", "parallel", defArgs s_parallel, defBody s_parallel, defScope s_parallel, [], []⟩
def d_right : He.DefD := ⟨("right", none), "right", "right", defArgs s_right, defBody s_right, defScope s_right, [], []⟩
def d_equal : He.DefD := ⟨("equal", none), "equal", "equal", defArgs s_equal, defBody s_equal, defScope s_equal, [], []⟩
def d_so_many_times : He.DefD := ⟨("so_many_times", none), "so_many_times", "so_many_times", defArgs s_so_many_times, defBody s_so_many_times, defScope s_so_many_times, [], []⟩
def d_far : He.DefD := ⟨("far", none), "far", "far", defArgs s_far, defBody s_far, defScope s_far, [], []⟩
def d_circle : He.DefD := ⟨("circle", none), "circle", "circle", defArgs s_circle, defBody s_circle, defScope s_circle, [], []⟩
def d_around : He.DefD := ⟨("around", none), "around", "around", defArgs s_around, defBody s_around, defScope s_around, [], []⟩
def d_angles : He.DefD := ⟨("angles", none), "angles", "angles", defArgs s_angles, defBody s_angles, defScope s_angles, [], []⟩
def d_areas : He.DefD := ⟨("areas", none), "areas", "areas", defArgs s_areas, defBody s_areas, defScope s_areas, [], []⟩
def d_through : He.DefD := ⟨("through", none), "through", "through", defArgs s_through, defBody s_through, defScope s_through, [], []⟩
def d_middle : He.DefD := ⟨("middle", none), "middle", "middle", defArgs s_middle, defBody s_middle, defScope s_middle, [], []⟩
def d_touches : He.DefD := ⟨("touches", none), "touches", "touches", defArgs s_touches, defBody s_touches, defScope s_touches, [], []⟩
def d_alike : He.DefD := ⟨("alike", none), "alike", "alike", defArgs s_alike, defBody s_alike, defScope s_alike, [], []⟩
def d_together : He.DefD := ⟨("together", none), "together", "together", defArgs s_together, defBody s_together, defScope s_together, [], []⟩
def d_left : He.DefD := ⟨("left", none), "left", "left", defArgs s_left, defBody s_left, defScope s_left, [], []⟩
def d_asked : He.DefD := ⟨("asked", none), "asked", "asked", defArgs s_asked, defBody s_asked, defScope s_asked, [], []⟩
def d_refusal_of : He.DefD := ⟨("refusal_of", none), "refusal_of", "refusal_of", defArgs s_refusal_of, defBody s_refusal_of, defScope s_refusal_of, [], []⟩
def d_named_points : He.DefD := ⟨("named_points", none), "named_points", "named_points", defArgs s_named_points, defBody s_named_points, defScope s_named_points, [], []⟩
def d_yes_or_no : He.DefD := ⟨("yes_or_no", none), "yes_or_no", "yes_or_no", defArgs s_yes_or_no, defBody s_yes_or_no, defScope s_yes_or_no, [], []⟩
def d_power : He.DefD := ⟨("power", none), "power", "power", defArgs s_power, defBody s_power, defScope s_power, [], []⟩
def d_asked_of_one : He.DefD := ⟨("asked_of_one", none), "asked_of_one", "asked_of_one", defArgs s_asked_of_one, defBody s_asked_of_one, defScope s_asked_of_one, [], []⟩
def d_at : He.DefD := ⟨("at", none), "at", "at", defArgs s_at, defBody s_at, defScope s_at, [], []⟩
def d_goes : He.DefD := ⟨("goes", none), "goes", "goes", defArgs s_goes, defBody s_goes, defScope s_goes, [], []⟩
def d_Point_init : He.DefD := ⟨("Point", some "__init__"), "__init__", "Point.__init__", defArgs s_Point_init, defBody s_Point_init, defScope s_Point_init, [], []⟩
def d_Figure_init : He.DefD := ⟨("Figure", some "__init__"), "__init__", "Figure.__init__", defArgs s_Figure_init, defBody s_Figure_init, defScope s_Figure_init, [], []⟩
def d_Figure_answer : He.DefD := ⟨("Figure", some "answer"), "answer", "Figure.answer", defArgs s_Figure_answer, defBody s_Figure_answer, defScope s_Figure_answer, [], []⟩
def d_Figure_begin : He.DefD := ⟨("Figure", some "begin"), "begin", "Figure.begin", defArgs s_Figure_begin, defBody s_Figure_begin, defScope s_Figure_begin, [], []⟩
def d_Figure_draw : He.DefD := ⟨("Figure", some "draw"), "draw", "Figure.draw", defArgs s_Figure_draw, defBody s_Figure_draw, defScope s_Figure_draw, [], []⟩
def d_Figure_has_point : He.DefD := ⟨("Figure", some "has_point"), "has_point", "Figure.has_point", defArgs s_Figure_has_point, defBody s_Figure_has_point, defScope s_Figure_has_point, [], []⟩
def d_Figure_has_letter : He.DefD := ⟨("Figure", some "has_letter"), "has_letter", "Figure.has_letter", defArgs s_Figure_has_letter, defBody s_Figure_has_letter, defScope s_Figure_has_letter, [], []⟩
def d_Figure_has_room : He.DefD := ⟨("Figure", some "has_room"), "has_room", "Figure.has_room", defArgs s_Figure_has_room, defBody s_Figure_has_room, defScope s_Figure_has_room, [], []⟩
def d_Figure_next_letters : He.DefD := ⟨("Figure", some "next_letters"), "next_letters", "Figure.next_letters", defArgs s_Figure_next_letters, defBody s_Figure_next_letters, defScope s_Figure_next_letters, [], []⟩
def d_Figure_keep : He.DefD := ⟨("Figure", some "keep"), "keep", "Figure.keep", defArgs s_Figure_keep, defBody s_Figure_keep, defScope s_Figure_keep, [], []⟩
def d_Figure_take_out : He.DefD := ⟨("Figure", some "take_out"), "take_out", "Figure.take_out", defArgs s_Figure_take_out, defBody s_Figure_take_out, defScope s_Figure_take_out, [], []⟩
def d_answers : He.DefD := ⟨("answers", none), "answers", "answers", defArgs s_answers, defBody s_answers, defScope s_answers, [], []⟩
def fn0 : List He.DefD := [d_constant, d_letter, d_is_nought, d_without_noughts, d_plus, d_less, d_times, d_power_in, d_terms, d_flat_terms, d_power_of, d_most_in, d_common_in, d_common_of_two, d_put, d_raised, d_comes_to, d_added_products, d_crossed_products, d_way, d_line, d_beside, d_meeting, d_area, d_square, d_matched, d_crossed, d_moved, d_fixed, d_free]
def fn1 : List He.DefD := [d_on, d_part, d_along, d_meet, d_foot, d_mirror, d_dropped, d_turn, d_centre, d_second, d_round_about, d_inverse, d_without_points, d_from_two, d_from_three, d_drawn, d_count_of_points, d_value_fits, d_numbers_fit, d_heavy_by, d_reach_by, d_weighted_reach, d_places, d_points_in_saying, d_saying_fits, d_reach_in, d_Call_init, d_read_calls, d_looked_at, d_numbers]
def fn2 : List He.DefD := [d_told_terms, d_degree, d_common, d_weights, d_same, d_on_one_line, d_parallel, d_right, d_equal, d_so_many_times, d_far, d_circle, d_around, d_angles, d_areas, d_through, d_middle, d_touches, d_alike, d_together, d_left, d_asked, d_refusal_of, d_named_points, d_yes_or_no, d_power, d_asked_of_one, d_at, d_goes, d_Point_init]
def fn3 : List He.DefD := [d_Figure_init, d_Figure_answer, d_Figure_begin, d_Figure_draw, d_Figure_has_point, d_Figure_has_letter, d_Figure_has_room, d_Figure_next_letters, d_Figure_keep, d_Figure_take_out, d_answers]
def fn : List He.DefD := fn0 ++ fn1 ++ fn2 ++ fn3
def fa0 : List He.Fa := [.glo "constant", .glo "letter", .glo "is_nought", .glo "without_noughts", .glo "plus", .glo "less", .glo "times", .glo "power_in", .glo "terms", .glo "flat_terms", .glo "power_of", .glo "most_in", .glo "common_in", .glo "common_of_two", .glo "put", .glo "raised", .glo "comes_to", .glo "added_products", .glo "crossed_products", .glo "way", .glo "line", .glo "beside", .glo "meeting", .glo "area", .glo "square", .glo "matched", .glo "crossed", .glo "moved", .glo "fixed", .glo "free"]
def fa1 : List He.Fa := [.glo "on", .glo "part", .glo "along", .glo "meet", .glo "foot", .glo "mirror", .glo "dropped", .glo "turn", .glo "centre", .glo "second", .glo "round_about", .glo "inverse", .glo "without_points", .glo "from_two", .glo "from_three", .glo "drawn", .glo "count_of_points", .glo "value_fits", .glo "numbers_fit", .glo "heavy_by", .glo "reach_by", .glo "weighted_reach", .glo "places", .glo "points_in_saying", .glo "saying_fits", .glo "reach_in", .glo "read_calls", .glo "looked_at", .glo "numbers", .glo "told_terms"]
def fa2 : List He.Fa := [.glo "degree", .glo "common", .glo "weights", .glo "same", .glo "on_one_line", .glo "parallel", .glo "right", .glo "equal", .glo "so_many_times", .glo "far", .glo "circle", .glo "around", .glo "angles", .glo "areas", .glo "through", .glo "middle", .glo "touches", .glo "alike", .glo "together", .glo "left", .glo "asked", .glo "refusal_of", .glo "named_points", .glo "yes_or_no", .glo "power", .glo "asked_of_one", .glo "at", .glo "goes", .glo "answers", .free "abs"]
def fa3 : List He.Fa := [.free "all", .free "dict", .free "enumerate", .free "len", .free "max", .free "range", .free "sorted", .free "zip", .int "POWERS_BELOW" (1000), .int "FIXED" (0), .int "FREE" (1), .int "ON" (2), .int "PART" (3), .int "ALONG" (4), .int "MEET" (5), .int "FOOT" (6), .int "MIRROR" (7), .int "TURN" (8), .int "CENTRE" (9), .int "SECOND" (10), .int "ROUND" (11), .int "MOST_POINTS" (12), .int "MOST_LETTERS" (4), .int "MOST_HEAVY" (400), .int "MOST_PLACES" (200), .int "MOST_VALUE" (1000), .int "MOST_TOLD" (1000000000000000), .int "BEGIN" (0), .int "FIRST_STEP" (1), .int "LAST_STEP" (13)]
def fa4 : List He.Fa := [.int "OUT" (14), .int "POINTS" (15), .int "STEP" (16), .int "NUMBERS" (17), .int "DEGREE" (18), .int "COMMON" (19), .int "HOLDS" (20), .int "RESTS" (21), .int "REST" (22), .int "POWER" (23), .int "AT" (24), .int "IS" (25), .int "NOT_BEGUN" (-61), .int "NOT_THERE" (-2), .int "DOES_NOT_FIT" (-22), .int "FULL" (-28), .int "TOO_MUCH" (-75), .int "NEVER_THERE" (-33), .glo "Call", .cls "Call", .mkr "Call", .noat "Call" "number", .noat "Call" "told", .noat "Call" "rows", .noat "Call" "behind", .meth "Call" "__init__", .glo "Point", .cls "Point", .mkr "Point", .noat "Point" "kind"]
def fa5 : List He.Fa := [.noat "Point" "told", .noat "Point" "x", .noat "Point" "y", .noat "Point" "w", .noat "Point" "reach", .noat "Point" "heavy", .meth "Point" "__init__", .glo "Figure", .cls "Figure", .mkr "Figure", .noat "Figure" "begun", .noat "Figure" "points", .noat "Figure" "letters", .meth "Figure" "__init__", .meth "Figure" "answer", .meth "Figure" "begin", .meth "Figure" "draw", .meth "Figure" "has_point", .meth "Figure" "has_letter", .meth "Figure" "has_room", .meth "Figure" "next_letters", .meth "Figure" "keep", .meth "Figure" "take_out", .glo "PLACES", .glo "WEIGHTS", .glo "OWN_LETTERS", .glo "OWN_REACH", .glo "OWN_HEAVY", .glo "SAYING_WEIGHTS", .glo "SAYING_NUMBERS"]
def fa6 : List He.Fa := [.glo "WHOLE_NUMBERS", .glo "ROWS", .glo "SAYINGS"]
def fa : List He.Fa := fa0 ++ fa1 ++ fa2 ++ fa3 ++ fa4 ++ fa5 ++ fa6
def names0 : List PySem.Str := ["PLACES", "POWERS_BELOW", "constant", "letter", "is_nought", "without_noughts", "plus", "less", "times", "power_in", "terms", "flat_terms", "power_of", "most_in", "common_in", "common_of_two", "put", "raised", "comes_to", "added_products", "crossed_products", "way", "line", "beside", "meeting", "area", "square", "matched", "crossed", "FIXED"]
def names1 : List PySem.Str := ["FREE", "ON", "PART", "ALONG", "MEET", "FOOT", "MIRROR", "TURN", "CENTRE", "SECOND", "ROUND", "moved", "fixed", "free", "on", "part", "along", "meet", "foot", "mirror", "dropped", "turn", "centre", "second", "round_about", "inverse", "without_points", "from_two", "from_three", "drawn"]
def names2 : List PySem.Str := ["MOST_POINTS", "MOST_LETTERS", "MOST_HEAVY", "MOST_PLACES", "MOST_VALUE", "MOST_TOLD", "WEIGHTS", "OWN_LETTERS", "OWN_REACH", "OWN_HEAVY", "SAYING_WEIGHTS", "SAYING_NUMBERS", "count_of_points", "value_fits", "numbers_fit", "heavy_by", "reach_by", "weighted_reach", "places", "points_in_saying", "saying_fits", "reach_in", "BEGIN", "FIRST_STEP", "LAST_STEP", "OUT", "POINTS", "STEP", "NUMBERS", "DEGREE"]
def names3 : List PySem.Str := ["COMMON", "HOLDS", "RESTS", "REST", "POWER", "AT", "IS", "WHOLE_NUMBERS", "ROWS", "Call", "read_calls", "NOT_BEGUN", "NOT_THERE", "DOES_NOT_FIT", "FULL", "TOO_MUCH", "NEVER_THERE", "looked_at", "numbers", "told_terms", "degree", "common", "weights", "same", "on_one_line", "parallel", "right", "equal", "so_many_times", "far"]
def names4 : List PySem.Str := ["circle", "around", "angles", "areas", "through", "middle", "touches", "alike", "together", "SAYINGS", "left", "asked", "refusal_of", "named_points", "yes_or_no", "power", "asked_of_one", "at", "goes", "Point", "Figure"]
def names : List PySem.Str := names0 ++ names1 ++ names2 ++ names3 ++ names4
def lastTop : Nat := 150

end Ds
end
section
set_option Elab.async false
set_option linter.all false
namespace Ds
open PySem
/-! ### The tables of the top -/
def nI (l : List Nat) : List Int := l.map fun n : Nat => (n : Int)
def placesL : List Int := [1000000000, 1000000, 1000, 1]
def weightsL : List (List Nat) := [[], [], [1, 1], [1, 1], [1, 1, 1], [1, 1, 1, 1], [1, 2, 2], [1, 2, 2], [1, 1], [2, 2, 2], [3, 2, 1], [1, 1], [3, 2, 2]]
def ownLetL : List Nat := [0, 2, 1, 0, 0, 0, 0, 0, 0, 0, 0, 1, 0]
def ownReachL : List Nat := [0, 1, 1, 0, 0, 0, 0, 0, 0, 0, 0, 2, 0]
def ownHeavyL : List Nat := [1, 1, 1, 0, 0, 0, 0, 0, 0, 0, 0, 2, 0]
def sayWtL : List (List Nat) := [[1, 1], [1, 1, 1], [1, 1, 1, 1], [1, 1, 1, 1], [2, 2, 2, 2], [2, 2, 2, 2], [2, 2, 2, 2], [1, 2, 1, 1, 2, 1], [1, 1, 1, 1, 1, 1], [1, 1, 1, 1, 1, 1], [1, 1, 1], [2, 2, 2, 2], [1, 1, 1, 1, 1, 1]]
def sayNumL : List Nat := [0, 0, 0, 0, 0, 2, 0, 0, 0, 0, 0, 0, 0]
def sayNames : List Str := ["same", "on_one_line", "parallel", "right", "equal", "so_many_times", "circle", "angles", "areas", "through", "middle", "touches", "alike"]
end Ds
end
section
set_option Elab.async false
set_option linter.all false
set_option maxRecDepth 100000
set_option maxHeartbeats 1000000
/-! The end of a specification's row where the written part is told by the head's hook. -/
namespace Ds
open PySem PySem.Spec PyProof.Rows L2
open PySem.W (Codec OpenSpec)
theorem walk_specE {r : OpenSpec} {k : Nat} {q : Program} {loose : List Str} {XP : (Str → Option Value) → Heap → Prop} {YP : World → Heap → Prop} {d : DefRec} {ps : List Str} (hwell : r.wellSaid = true) (hlen : r.args.length = ps.length) (hr : Room k callerA)
    (F : ∀ (w : World) (mg : Str → Option Value) (fa : Addr) (h : Heap), YP w h → h.Ns mainGlobals mg → mg d.name = some (.ref fa) → ∃ (K : PySem.W.Frag) (fd : FuncData) (sp : Sp), K.In h ∧ (∀ (s : Shared) (us : List Value), us.length = ps.length → BindsTo s fd ⟨us, []⟩ (ps.zip us)) ∧
      (∀ (H : Hp) (xs : List V) (a : Codec.denoteAll r.args), OnlyF H → Codec.withinAll r.args a = true → Codec.app r.args r.asked a = true → DwAll K H xs (Codec.encAll r.args a) → sp xs H (fun v H' => Dw K H' v (r.ret.enc (Codec.app r.args r.f a))) fun _ _ _ => False) ∧
      ∀ base : Heap, K.In base → base.Ns mainGlobals mg → FnOk r.prog w K mg base CX0 k fa fd ps sp) : PySem.W.WalkOS q loose XP YP r d [] (fun f vs => PySem.call f vs) := by
  intro w s0 s1 mg mb G Y fa o pm cd doc dV kV ho hd hcd hD hmg hg args vals as hpre hlay hrd hwl hlo
  -- the arguments by their codecs
  obtain ⟨given, eDec, eAsk⟩ := PySem.W.os_pre_some hpre
  obtain ⟨rfl, inR⟩ := Codec.encAll_of_decAll r.args args given eDec
  -- the def, as the hook tells it
  obtain ⟨K, fd, sp, inK, binds, told, good⟩ := F w mg fa _ Y G.T.g hmg
  have due := spec_call (R := []) (cl := classAt s0.heap) (d0 := r.ret.enc (Codec.app r.args r.f given)) inK G.T.g G.T.b G.T.builtins G.T.nolimit hg hwl (pl_encAll _ _) (layable_weight hlay) hr good binds (by rw [encAll_len]; exact hlen) (fun H xs only dw => told H xs given only inR eAsk dw) (fun H e s' z => z)
  refine PySem.W.enter_call (codeAny_mono due fun res s' hres => ?_)
  obtain ⟨val, out, rfl, reads, old, bare⟩ := hres
  have post := (OpenSpec.post_iff hwell inR _ []).mpr (rfl : r.ret.enc (Codec.app r.args r.f given) = _)
  exact ⟨.inl ⟨val, _, out, rfl, fun _ => rfl, reads, post, fun z => by cases z⟩, old, bare⟩
/-! ### Tables of the top: tuples of whole numbers, a tuple of such -/
def tupAt (K : PySem.W.Frag) (p : Addr) (l : List Int) : Bool := match K.lookup p with
  | some ⟨.type c, _, .seq its _, _⟩ => decide (c = "tuple") && (decide (its.size ≤ sizeLine) && He.relAll (l.map V.int) its.toList)
  | _ => false
theorem tupAt_ok {K : PySem.W.Frag} {p : Addr} {l : List Int} (h : tupAt K p l = true) (H : Hp) : SqT K H p (l.map V.int) := by
  unfold tupAt at h
  split at h
  · next c dd its n sl q =>
    rw [Bool.and_eq_true, Bool.and_eq_true] at h
    exact .inr ⟨_, its, n, q, congrArg Value.type (of_decide_eq_true h.1), rfl, of_decide_eq_true h.2.1, He.relAll_ok h.2.2⟩
  · cases h
def refsOf : List Value → Option (List Addr)
  | [] => some []
  | .ref a :: r => (refsOf r).map (a :: ·)
  | _ :: _ => none
theorem refs_rel : ∀ {us : List Value} {rs : List Addr}, refsOf us = some rs → Vals (rs.map V.ref) us
  | [], rs, h => by
    have e : [] = rs := Option.some.inj h
    subst e
    exact .nil
  | .ref a :: r, rs, h => by
    have h : (refsOf r).map (a :: ·) = some rs := h
    cases e : refsOf r with
    | none =>
      rw [e] at h
      cases h
    | some ss =>
      rw [e] at h
      have e2 : a :: ss = rs := Option.some.inj h
      subst e2
      exact .cons rfl (refs_rel e)
def allAt (K : PySem.W.Frag) : List Addr → List (List Int) → Bool
  | [], [] => true
  | r :: rs, l :: ls => tupAt K r l && allAt K rs ls
  | _, _ => false
theorem allAt_len {K : PySem.W.Frag} : ∀ {rs : List Addr} {ls : List (List Int)}, allAt K rs ls = true → rs.length = ls.length
  | [], [], _ => rfl
  | r :: rs, l :: ls, h => by
    have h := Bool.and_eq_true_iff.mp h
    rw [List.length_cons, List.length_cons, allAt_len h.2]
theorem allAt_ok {K : PySem.W.Frag} : ∀ {rs : List Addr} {ls : List (List Int)}, allAt K rs ls = true → ∀ (i : Nat) (l : List Int), ls[i]? = some l → ∃ r, rs[i]? = some r ∧ ∀ H, SqT K H r (l.map V.int)
  | [], [], _, i, l, h => by cases h
  | r :: rs, l :: ls, h, 0, l', e => by
    have h := Bool.and_eq_true_iff.mp h
    have e : l = l' := Option.some.inj e
    subst e
    exact ⟨r, rfl, fun H => tupAt_ok h.1 H⟩
  | r :: rs, l :: ls, h, i + 1, l', e => by
    have h := Bool.and_eq_true_iff.mp h
    obtain ⟨r', h1, h2⟩ := allAt_ok h.2 i l' e
    exact ⟨r', h1, h2⟩
def nestAt (K : PySem.W.Frag) (p : Addr) (ls : List (List Int)) : Bool := match K.lookup p with
  | some ⟨.type c, _, .seq its _, _⟩ => decide (c = "tuple") && (decide (its.size ≤ sizeLine) && (match refsOf its.toList with
    | some rs => allAt K rs ls
    | none => false))
  | _ => false
theorem nestAt_ok {K : PySem.W.Frag} {p : Addr} {ls : List (List Int)} (h : nestAt K p ls = true) : ∃ rs : List Addr, (∀ H, SqT K H p (rs.map V.ref)) ∧ rs.length = ls.length ∧ ∀ (i : Nat) (l : List Int), ls[i]? = some l → ∃ r, rs[i]? = some r ∧ ∀ H, SqT K H r (l.map V.int) := by
  unfold nestAt at h
  split at h
  · next c dd its n sl q =>
    rw [Bool.and_eq_true, Bool.and_eq_true] at h
    obtain ⟨h1, h2, h3⟩ := h
    cases e : refsOf its.toList with
    | none =>
      rw [e] at h3
      cases h3
    | some rs =>
      rw [e] at h3
      exact ⟨rs, fun H => .inr ⟨_, its, n, q, congrArg Value.type (of_decide_eq_true h1), rfl, of_decide_eq_true h2, refs_rel e⟩, allAt_len h3, fun i l hl => allAt_ok h3 i l hl⟩
  · cases h
/-- a tuple of defs -/
def fnsAt (K : PySem.W.Frag) (p : Addr) (fs : List Addr) : Bool := match K.lookup p with
  | some ⟨.type c, _, .seq its _, _⟩ => decide (c = "tuple") && (decide (its.size ≤ sizeLine) && (match refsOf its.toList with
    | some rs => decide (rs = fs)
    | none => false))
  | _ => false
theorem fnsAt_ok {K : PySem.W.Frag} {p : Addr} {fs : List Addr} (h : fnsAt K p fs = true) (H : Hp) : SqT K H p (fs.map V.ref) := by
  unfold fnsAt at h
  split at h
  · next c dd its n sl q =>
    rw [Bool.and_eq_true, Bool.and_eq_true] at h
    obtain ⟨h1, h2, h3⟩ := h
    cases e : refsOf its.toList with
    | none =>
      rw [e] at h3
      cases h3
    | some rs =>
      rw [e] at h3
      have e2 : rs = fs := of_decide_eq_true h3
      subst e2
      exact .inr ⟨_, its, n, q, congrArg Value.type (of_decide_eq_true h1), rfl, of_decide_eq_true h2, refs_rel e⟩
  · cases h
end Ds
end
section
set_option Elab.async false
set_option linter.all false
set_option maxRecDepth 100000
set_option maxHeartbeats 0
namespace Ds
open PySem PySem.Spec PyProof.Rows L2
/-! ### the written part, at the places where the top puts it: the module's names, the defs and their codes, the classes, the tables -/
def addrs0 : List Addr := [3, 6, 4, 15, 22, 29, 36, 43, 50, 57, 64, 71, 78, 85, 90, 95, 102, 109, 116, 123, 130, 137, 144, 151, 158, 165, 172, 179, 186, 193, 200, 207, 214, 221, 228, 235, 242, 249, 256, 263]
def addrs1 : List Addr := [270, 277, 284, 291, 298, 305, 312, 319, 326, 333, 347, 348, 349, 350, 364, 365, 372, 379, 386, 393, 400, 407, 414, 421, 426, 433, 434, 435, 452, 463, 470, 477, 484, 489, 496, 503, 510, 517, 524, 531]
def addrs2 : List Addr := [538, 545, 552, 559, 566, 573, 580, 587, 594, 601, 608, 615, 616, 623, 628, 633, 638, 645, 650, 657, 662, 669, 686, 766, 777, 0, 21, 28, 35, 42, 49, 56, 63, 70, 77, 84, 89, 94, 101, 108]
def addrs3 : List Addr := [115, 122, 129, 136, 143, 150, 157, 164, 171, 178, 185, 192, 199, 206, 213, 220, 227, 234, 241, 248, 255, 262, 269, 276, 283, 290, 297, 304, 311, 318, 325, 332, 334, 335, 336, 337, 338, 339, 340, 341]
def addrs4 : List Addr := [342, 343, 344, 345, 346, 351, 352, 353, 354, 355, 356, 357, 358, 359, 360, 361, 362, 363, 371, 378, 385, 392, 399, 406, 413, 420, 425, 432, 451, 462, 469, 476, 483, 488, 495, 502, 509, 516, 523, 530]
def addrs5 : List Addr := [537, 544, 551, 558, 565, 572, 579, 586, 593, 600, 607, 614, 622, 627, 632, 637, 644, 649, 656, 661, 668, 685, 765, 776, 449, 450, 453, 454, 457, 458, 683, 684, 687, 688, 704, 711, 718, 723, 730, 737]
def addrs6 : List Addr := [744, 749, 756, 763, 764, 767, 768, 448, 682, 703, 710, 717, 722, 729, 736, 743, 748, 755, 762]
def addrs : List Addr := addrs0 ++ addrs1 ++ addrs2 ++ addrs3 ++ addrs4 ++ addrs5 ++ addrs6
/-- the head's hook: facts by names, defs, and one Bool more over the written part -/
def hookM (as : List Addr) (fa : List He.Fa) (fn : List He.DefD) (ex : PySem.W.Frag → Bool) : PySem.W.Hook where
  α := He.AlD × Bool
  obs := fun s => (He.obsD fa fn (He.frG s.heap.get? as), ex (He.frG s.heap.get? as))
  val := fun _ => (He.valD fn, true)
  says := fun _ h => ∃ K : PySem.W.Frag, K.In h ∧ He.SaysD fa fn K ∧ ex K = true
  of := fun _ _ e => ⟨_, He.frG_in, (Prod.mk.inj e).1, (Prod.mk.inj e).2⟩
  keeps := fun _ _ _ ⟨K, inK, sd, xt⟩ k => ⟨K, PySem.W.Frag.In.keeps inK k, sd, xt⟩
def exB (K : PySem.W.Frag) : Bool := tupAt K (He.ga K "PLACES") placesL && (tupAt K (He.ga K "WHOLE_NUMBERS") Su.wholeL && (tupAt K (He.ga K "ROWS") Su.rowsL && (tupAt K (He.ga K "OWN_LETTERS") (nI ownLetL) && (tupAt K (He.ga K "OWN_REACH") (nI ownReachL) && (tupAt K (He.ga K "OWN_HEAVY") (nI ownHeavyL) && (nestAt K (He.ga K "WEIGHTS") (weightsL.map nI) && (tupAt K (He.ga K "SAYING_NUMBERS") (nI sayNumL) && (nestAt K (He.ga K "SAYING_WEIGHTS") (sayWtL.map nI) && fnsAt K (He.ga K "SAYINGS") (sayNames.map (He.ga K))))))))))
abbrev RowA : PySem.W.OpenSpec := PySem.Challenge.rw_drawnsums_s01_answers
abbrev qvA : Program := PySem.W.view RowA.prog [lastTop]
abbrev hkA : PySem.W.Hook := hookM addrs fa fn exB
def frA (s : PySem.W.SharedT) : PySem.W.Frag := He.frG (HandSHeadRun.getT s) addrs
def obA (s : PySem.W.SharedT) : He.AlD × Bool := (He.obsD fa fn (frA s), exB (frA s))
theorem obA_eq (s : PySem.W.SharedT) : obA s = hkA.obs s.abs := by
  have e : HandSHeadRun.getT s = s.abs.heap.get? := funext (HandSHeadRun.getT_eq s)
  unfold obA frA
  rw [e]
  rfl
open PySem.W PySem.Calls HandSHeadRun in
/-- what is seen of the top's end -/
def TopEnds {A : Type} (w : World) (f : SharedT → A) (a : A) : Prop := ∀ os : OsState, (endF (stepQ (denQ tabQ) RowA.prog w) 12000 RowA.prog w os).map f = some a
open PySem.W PySem.Calls HandSHeadRun in
theorem runA0 (w : World) : TopEnds w (fun s => (looksF RowA.prog (boot_heap w.params) s.abs, seenQ qvA names (importedModules RowA.prog.main.body) (fun s => xlAt qvA [] s && recOk [] s) s.abs)) (true, openGood qvA names) := by
  intro os
  kernel_rfl
theorem runA1 (w : World) : TopEnds w (fun s => (fa.all fun f => f.ok (frA s), exB (frA s))) (true, true) := by
  intro os
  kernel_rfl
theorem runA2 (w : World) : TopEnds w (fun s => (fn.all fun d => d.ok (frA s), fn.map fun d => He.fnW (frA s) d.at_)) (true, fn.map He.DefD.val) := by
  intro os
  kernel_rfl
theorem runA (w : World) : HandSHeadRun.RunEqS RowA qvA hkA obA 12000 names w := by
  unfold HandSHeadRun.RunEqS
  intro os
  have a0 := runA0 w os
  have a1 := runA1 w os
  have a2 := runA2 w os
  revert a0 a1 a2
  generalize HandSHeadRun.endF _ 12000 _ w os = t
  intro a0 a1 a2
  cases t with
  | none => cases a0
  | some s =>
    obtain ⟨l0, s0⟩ := Prod.mk.inj (Option.some.inj a0)
    obtain ⟨f1, x1⟩ := Prod.mk.inj (Option.some.inj a1)
    obtain ⟨o2, d2⟩ := Prod.mk.inj (Option.some.inj a2)
    have eo : obA s = (He.valD fn, true) := by
      unfold obA He.obsD
      rw [f1, x1, o2, d2]
      rfl
    show some (_, _, obA s) = some (_, _, _)
    rw [l0, s0, eo]
    rfl
end Ds
end
section
set_option Elab.async false
set_option linter.all false
set_option maxRecDepth 100000
set_option maxHeartbeats 8000000
namespace Ds
open PySem PySem.W PySem.Calls PyProof.Rows
/-! ### the row's own small facts, each by itself -/
abbrev dA : DefRec := HandSHeadRun.topDef RowA.prog lastTop
theorem h_open : opening RowA.prog = plainProg RowA.prog.main.scope.names := by kernel_rfl
theorem h_fence (s : Shared) : fenceModules? RowA.prog s = some s := by kernel_rfl
theorem h_def : defOf qvA RowA.name = some (dA, []) := by kernel_rfl
theorem h_the : RowA.prog.theDef RowA.name = some (dA.params, dA.body, dA.scope) := by kernel_rfl
theorem h_kw : kwWritten? dA.params.kwonlyargs dA.params.kw_defaults = some [] := by kernel_rfl
theorem h_name : dA.name = ("answers" : PySem.Str) := by kernel_rfl
theorem h_well : RowA.wellSaid = true := by decide +kernel
theorem h_ok : (chainsOk qvA && opensWell RowA.prog) = true := by decide +kernel
theorem h_bare : RowA.prog.bare := ⟨rfl, rfl, rfl, rfl, rfl, by decide +kernel⟩
theorem h_some : ∃ args, RowA.pre args = true ∧ WData.layableAll args = true := ⟨[.list [.int 0]], by decide +kernel, by decide +kernel⟩
end Ds
end
section
set_option Elab.async false
namespace Su
/-! ### Sums over whole-number keys, up to their coefficients: a commutative ring -/
abbrev Raw := List (Int × Int)
def coef : Raw → Int → Int
  | [], _ => 0
  | t :: r, k => (if t.1 = k then t.2 else 0) + coef r k
theorem coef_nil (k : Int) : coef [] k = 0 := rfl
theorem coef_cons (t : Int × Int) (r : Raw) (k : Int) : coef (t :: r) k = (if t.1 = k then t.2 else 0) + coef r k := rfl
theorem coef_append : ∀ (a b : Raw) (k : Int), coef (a ++ b) k = coef a k + coef b k
  | [], b, k => by simp [coef]
  | t :: r, b, k => by
    rw [List.cons_append, coef_cons, coef_cons, coef_append r b k]
    omega
def shift (t : Int × Int) (b : Raw) : Raw := b.map fun u => (t.1 + u.1, t.2 * u.2)
theorem coef_shift (t : Int × Int) : ∀ (b : Raw) (k : Int), coef (shift t b) k = t.2 * coef b (k - t.1)
  | [], k => by simp [shift, coef]
  | u :: r, k => by
    have ih := coef_shift t r k
    show (if t.1 + u.1 = k then t.2 * u.2 else 0) + coef (shift t r) k = _
    rw [ih, coef_cons, Int.mul_add]
    by_cases h : t.1 + u.1 = k
    · rw [if_pos h, if_pos (by omega)]
    · rw [if_neg h, if_neg (by omega), Int.mul_zero]
def rmul : Raw → Raw → Raw
  | [], _ => []
  | t :: r, b => shift t b ++ rmul r b
theorem coef_rmul_nil (b : Raw) (k : Int) : coef (rmul [] b) k = 0 := rfl
theorem coef_rmul_cons (t : Int × Int) (r b : Raw) (k : Int) : coef (rmul (t :: r) b) k = t.2 * coef b (k - t.1) + coef (rmul r b) k := by
  show coef (shift t b ++ rmul r b) k = _
  rw [coef_append, coef_shift]
def Eqv (a b : Raw) : Prop := ∀ k, coef a k = coef b k
theorem rmul_congr_right {b c : Raw} (h : Eqv b c) : ∀ (a : Raw), Eqv (rmul a b) (rmul a c)
  | [], _ => rfl
  | t :: r, k => by rw [coef_rmul_cons, coef_rmul_cons, h, rmul_congr_right h r k]
theorem coef_rmul_cons_right (u : Int × Int) (b : Raw) : ∀ (a : Raw) (k : Int), coef (rmul a (u :: b)) k = u.2 * coef a (k - u.1) + coef (rmul a b) k
  | [], k => by simp [rmul, coef]
  | t :: r, k => by
    rw [coef_rmul_cons, coef_rmul_cons, coef_rmul_cons_right u b r k, coef_cons, coef_cons, Int.mul_add, Int.mul_add]
    by_cases h : u.1 = k - t.1
    · rw [if_pos h, if_pos (show t.1 = k - u.1 by omega), Int.mul_comm t.2 u.2]
      omega
    · rw [if_neg h, if_neg (show ¬ t.1 = k - u.1 by omega), Int.mul_zero, Int.mul_zero]
      omega
theorem rmul_comm : ∀ (a b : Raw), Eqv (rmul a b) (rmul b a)
  | [], b, k => by
    have h : ∀ b : Raw, coef (rmul b []) k = 0 := fun b => by
      induction b with
      | nil => rfl
      | cons t r ih =>
        rw [coef_rmul_cons, ih, coef_nil]
        omega
    rw [h]
    rfl
  | t :: r, b, k => by rw [coef_rmul_cons, coef_rmul_cons_right, rmul_comm r b k]
theorem rmul_congr_left {a c : Raw} (h : Eqv a c) (b : Raw) : Eqv (rmul a b) (rmul c b) := fun k => by
  rw [rmul_comm a b k, rmul_comm c b k]
  exact rmul_congr_right h b k
theorem rmul_append (a c b : Raw) : Eqv (rmul (a ++ c) b) (rmul a b ++ rmul c b) := fun k => by
  induction a with
  | nil => rfl
  | cons t r ih =>
    rw [List.cons_append, coef_rmul_cons, ih, coef_append, coef_append, coef_rmul_cons]
    omega
theorem rmul_shift (t : Int × Int) : ∀ (b c : Raw) (k : Int), coef (rmul (shift t b) c) k = t.2 * coef (rmul b c) (k - t.1)
  | [], c, k => by simp [shift, rmul, coef]
  | u :: r, c, k => by
    show coef (rmul ((t.1 + u.1, t.2 * u.2) :: shift t r) c) k = _
    rw [coef_rmul_cons, rmul_shift t r c k, coef_rmul_cons, Int.mul_add, Int.mul_assoc]
    rw [show k - (t.1 + u.1) = k - t.1 - u.1 by omega]
theorem rmul_assoc : ∀ (a b c : Raw), Eqv (rmul (rmul a b) c) (rmul a (rmul b c))
  | [], _, _, _ => rfl
  | t :: r, b, c, k => by
    rw [coef_rmul_cons]
    show coef (rmul (shift t b ++ rmul r b) c) k = _
    rw [rmul_append, coef_append, rmul_shift, rmul_assoc r b c k]
theorem rmul_append_right (a b c : Raw) : Eqv (rmul a (b ++ c)) (rmul a b ++ rmul a c) := fun k => by
  rw [rmul_comm a (b ++ c) k, rmul_append b c a k, coef_append, coef_append, rmul_comm b a k, rmul_comm c a k]
def rneg (a : Raw) : Raw := a.map fun t => (t.1, -t.2)
theorem coef_rneg : ∀ (a : Raw) (k : Int), coef (rneg a) k = -coef a k
  | [], _ => rfl
  | t :: r, k => by
    show (if t.1 = k then -t.2 else 0) + coef (rneg r) k = _
    rw [coef_rneg r k, coef_cons]
    by_cases h : t.1 = k
    · rw [if_pos h, if_pos h]
      omega
    · rw [if_neg h, if_neg h]
      omega
instance stoid : Setoid Raw := ⟨Eqv, ⟨fun _ _ => rfl, fun h k => (h k).symm, fun h g k => (h k).trans (g k)⟩⟩
def L : Type := Quotient stoid
def cls (a : Raw) : L := Quotient.mk stoid a
theorem cls_eq {a b : Raw} (h : ∀ k, coef a k = coef b k) : cls a = cls b := Quotient.sound h
theorem eq_cls {a b : Raw} (h : cls a = cls b) : ∀ k, coef a k = coef b k := Quotient.exact h
def ladd : L → L → L := Quotient.lift₂ (fun a b => cls (a ++ b)) fun a b c d h1 h2 => cls_eq fun k => by
  rw [coef_append, coef_append, h1 k, h2 k]
def lmul : L → L → L := Quotient.lift₂ (fun a b => cls (rmul a b)) fun a b c d h1 h2 => cls_eq fun k => by
  rw [rmul_congr_left h1 b k, rmul_congr_right h2 c k]
def lneg : L → L := Quotient.lift (fun a => cls (rneg a)) fun a b h => cls_eq fun k => by
  rw [coef_rneg, coef_rneg, h k]
def lint (n : Int) : L := cls [(0, n)]
def lpow (a : L) : Nat → L
  | 0 => lint 1
  | n + 1 => lmul (lpow a n) a
instance ladd_i : Add L := ⟨ladd⟩
instance lmul_i : Mul L := ⟨lmul⟩
instance lneg_i : Neg L := ⟨lneg⟩
instance lsub_i : Sub L := ⟨fun a b => a + -b⟩
theorem cls_add (a b : Raw) : cls (a ++ b) = cls a + cls b := rfl
theorem cls_mul (a b : Raw) : cls (rmul a b) = cls a * cls b := rfl
theorem cls_neg (a : Raw) : cls (rneg a) = -cls a := rfl
instance lsemi : Lean.Grind.Semiring L where
  natCast := ⟨fun n => lint n⟩
  ofNat := fun n => ⟨lint n⟩
  nsmul := ⟨fun n a => lint n * a⟩
  npow := ⟨fun a n => lpow a n⟩
  add_zero := fun a => Quotient.inductionOn a fun a => by
    show cls (a ++ [(0, ((0 : Nat) : Int))]) = cls a
    refine cls_eq fun k => ?_
    rw [coef_append]
    show coef a k + ((if (0 : Int) = k then ((0 : Nat) : Int) else 0) + 0) = coef a k
    split <;> simp
  add_comm := fun a b => Quotient.inductionOn₂ a b fun a b => cls_eq fun k => by
    rw [coef_append, coef_append]
    omega
  add_assoc := fun a b c => Quotient.inductionOn₃ a b c fun a b c => by
    show cls (a ++ b ++ c) = cls (a ++ (b ++ c))
    rw [List.append_assoc]
  mul_assoc := fun a b c => Quotient.inductionOn₃ a b c fun a b c => cls_eq (rmul_assoc a b c)
  mul_one := fun a => Quotient.inductionOn a fun a => cls_eq fun k => by
    rw [rmul_comm a _ k, coef_rmul_cons, coef_rmul_nil]
    show ((1 : Nat) : Int) * coef a (k - 0) + 0 = coef a k
    rw [Int.sub_zero]
    simp
  one_mul := fun a => Quotient.inductionOn a fun a => cls_eq fun k => by
    rw [coef_rmul_cons, coef_rmul_nil]
    show ((1 : Nat) : Int) * coef a (k - 0) + 0 = coef a k
    rw [Int.sub_zero]
    simp
  left_distrib := fun a b c => Quotient.inductionOn₃ a b c fun a b c => cls_eq (rmul_append_right a b c)
  right_distrib := fun a b c => Quotient.inductionOn₃ a b c fun a b c => cls_eq (rmul_append a b c)
  zero_mul := fun a => Quotient.inductionOn a fun a => cls_eq fun k => by
    rw [coef_rmul_cons, coef_rmul_nil]
    show ((0 : Nat) : Int) * _ + 0 = (if (0 : Int) = k then ((0 : Nat) : Int) else 0) + 0
    split <;> simp
  mul_zero := fun a => Quotient.inductionOn a fun a => cls_eq fun k => by
    rw [rmul_comm a _ k, coef_rmul_cons, coef_rmul_nil]
    show ((0 : Nat) : Int) * _ + 0 = (if (0 : Int) = k then ((0 : Nat) : Int) else 0) + 0
    split <;> simp
  pow_zero := fun _ => rfl
  pow_succ := fun _ _ => rfl
  ofNat_succ := fun n => cls_eq fun k => by
    show (if (0 : Int) = k then ((n + 1 : Nat) : Int) else 0) + 0 = (if (0 : Int) = k then (n : Int) else 0) + ((if (0 : Int) = k then ((1 : Nat) : Int) else 0) + 0)
    split <;> simp
theorem lint_neg (i : Int) : lint (-i) = -lint i := rfl
instance lring : Lean.Grind.Ring L where
  intCast := ⟨lint⟩
  zsmul := ⟨fun i a => lint i * a⟩
  neg_add_cancel := fun a => Quotient.inductionOn a fun a => cls_eq fun k => by
    rw [coef_append, coef_rneg]
    show -coef a k + coef a k = (if (0 : Int) = k then ((0 : Nat) : Int) else 0) + 0
    split <;> simp <;> omega
  sub_eq_add_neg := fun _ _ => rfl
  neg_zsmul := fun i a => Quotient.inductionOn a fun a => cls_eq fun k => by
    rw [coef_rneg, coef_rmul_cons, coef_rmul_cons, coef_rmul_nil]
    simp [Int.neg_mul]
instance lcomm : Lean.Grind.CommRing L where
  mul_comm := fun a b => Quotient.inductionOn₂ a b fun a b => cls_eq (rmul_comm a b)
example (a b c : L) : (a + b) * c - c * a = b * c := by grind
example (a b c : L) : (a + b) * c + c * (lint (-1) * a) = b * c := by
  have e : lint (-1) = -1 := rfl
  grind
end Su
end
section
set_option Elab.async false
namespace Su
open Kh370 (Poly Term)
/-! ### The specification's sums in the ring -/
def pk (m : List Nat) : Int := (m.getD 0 0 : Int) * 1000000000 + (m.getD 1 0 : Int) * 1000000 + (m.getD 2 0 : Int) * 1000 + (m.getD 3 0 : Int)
def raw (p : Poly) : Raw := p.map fun t => (pk t.2, t.1)
def pc (p : Poly) : L := cls (raw p)
def W4 (p : Poly) : Prop := ∀ t ∈ p, t.2.length = 4
theorem len4 {m : List Nat} (h : m.length = 4) : ∃ a b c d, m = [a, b, c, d] := by
  match m, h with
  | [a, b, c, d], _ => exact ⟨a, b, c, d, rfl⟩
theorem W4.nil : W4 [] := fun _ h => absurd h List.not_mem_nil
theorem W4.tail {t : Term} {p : Poly} (h : W4 (t :: p)) : W4 p := fun u hu => h u (List.mem_cons_of_mem _ hu)
theorem W4.head {t : Term} {p : Poly} (h : W4 (t :: p)) : t.2.length = 4 := h t List.mem_cons_self
theorem coef_raw_plus1 (t : Term) (k : Int) : ∀ p : Poly, coef (raw (Kh370.plus1 t p)) k = (if pk t.2 = k then t.1 else 0) + coef (raw p) k
  | [] => by
    unfold Kh370.plus1
    by_cases h : t.1 = 0
    · rw [if_pos h, h]
      show (0 : Int) = (if pk t.2 = k then 0 else 0) + 0
      split <;> rfl
    · rw [if_neg h]
      rfl
  | u :: r => by
    unfold Kh370.plus1
    by_cases e : u.2 = t.2
    · rw [if_pos e]
      by_cases z : u.1 + t.1 = 0
      · rw [if_pos z]
        show _ = _ + ((if pk u.2 = k then u.1 else 0) + coef (raw r) k)
        rw [e]
        split <;> omega
      · rw [if_neg z]
        show (if pk u.2 = k then u.1 + t.1 else 0) + coef (raw r) k = _ + ((if pk u.2 = k then u.1 else 0) + coef (raw r) k)
        rw [e]
        split <;> omega
    · rw [if_neg e]
      by_cases a : Kh370.ahead t.2 u.2 = true
      · rw [if_pos a]
        by_cases z : t.1 = 0
        · rw [if_pos z, z]
          show _ = (if pk t.2 = k then 0 else 0) + _
          split <;> omega
        · rw [if_neg z]
          rfl
      · rw [if_neg a]
        show (if pk u.2 = k then u.1 else 0) + coef (raw (Kh370.plus1 t r)) k = _ + ((if pk u.2 = k then u.1 else 0) + coef (raw r) k)
        rw [coef_raw_plus1 t k r]
        omega
theorem coef_raw_add (k : Int) (q : Poly) : ∀ p : Poly, coef (raw (Kh370.add p q)) k = coef (raw p) k + coef (raw q) k
  | [] => by
    show coef (raw q) k = 0 + coef (raw q) k
    omega
  | t :: r => by
    show coef (raw (Kh370.plus1 t (Kh370.add r q))) k = _
    rw [coef_raw_plus1, coef_raw_add k q r]
    show _ = (if pk t.2 = k then t.1 else 0) + coef (raw r) k + coef (raw q) k
    omega
theorem pc_add (p q : Poly) : pc (Kh370.add p q) = pc p + pc q := cls_eq fun k => by
  rw [coef_raw_add, coef_append]
theorem coef_raw_scale (c k : Int) (p : Poly) : coef (raw (Kh370.scale c p)) k = c * coef (raw p) k := by
  unfold Kh370.scale
  by_cases h : c = 0
  · rw [if_pos h, h, Int.zero_mul]
    rfl
  · rw [if_neg h]
    induction p with
    | nil =>
      show (0 : Int) = c * 0
      rw [Int.mul_zero]
    | cons t r ih =>
      show (if pk t.2 = k then c * t.1 else 0) + coef (raw (r.map fun t => (c * t.1, t.2))) k = c * ((if pk t.2 = k then t.1 else 0) + coef (raw r) k)
      rw [ih, Int.mul_add]
      split
      · rfl
      · rw [Int.mul_zero]
theorem pc_less (p q : Poly) : pc (Kh370.less p q) = pc p - pc q := by
  show pc (Kh370.add p (Kh370.scale (-1) q)) = pc p + -pc q
  rw [pc_add]
  refine congrArg (pc p + ·) (cls_eq fun k => ?_)
  rw [coef_raw_scale, coef_rneg]
  omega
theorem pk_add {u v : List Nat} (hu : u.length = 4) (hv : v.length = 4) : pk (List.zipWith (· + ·) u v) = pk u + pk v := by
  obtain ⟨a, b, c, d, rfl⟩ := len4 hu
  obtain ⟨e, f, g, h, rfl⟩ := len4 hv
  simp only [pk, List.zipWith, List.getD_cons_zero, List.getD_cons_succ]
  omega
theorem coef_raw_mono (u : Term) (hu : u.2.length = 4) (k : Int) (p : Poly) (hp : W4 p) : coef (raw (Kh370.mono u p)) k = u.1 * coef (raw p) (k - pk u.2) := by
  unfold Kh370.mono
  by_cases h : u.1 = 0
  · rw [if_pos h, h, Int.zero_mul]
    rfl
  · rw [if_neg h]
    induction p with
    | nil =>
      show (0 : Int) = u.1 * 0
      rw [Int.mul_zero]
    | cons t r ih =>
      show (if pk (List.zipWith (· + ·) u.2 t.2) = k then u.1 * t.1 else 0) + coef (raw (r.map fun t => (u.1 * t.1, List.zipWith (· + ·) u.2 t.2))) k = u.1 * ((if pk t.2 = k - pk u.2 then t.1 else 0) + coef (raw r) (k - pk u.2))
      rw [ih hp.tail, Int.mul_add, pk_add hu hp.head]
      by_cases e : pk u.2 + pk t.2 = k
      · rw [if_pos e, if_pos (by omega)]
      · rw [if_neg e, if_neg (by omega), Int.mul_zero]
theorem coef_raw_times (k : Int) (q : Poly) (hq : W4 q) : ∀ p : Poly, W4 p → coef (raw (Kh370.times p q)) k = coef (rmul (raw p) (raw q)) k
  | [], _ => rfl
  | t :: r, hp => by
    show coef (raw (Kh370.add (Kh370.mono t q) (Kh370.times r q))) k = coef (rmul ((pk t.2, t.1) :: raw r) (raw q)) k
    rw [coef_raw_add, coef_rmul_cons, coef_raw_mono t hp.head k q hq, coef_raw_times k q hq r hp.tail]
theorem pc_times {p q : Poly} (hp : W4 p) (hq : W4 q) : pc (Kh370.times p q) = pc p * pc q := cls_eq fun k => coef_raw_times k q hq p hp
theorem pc_number (c : Int) : pc (Kh370.number 4 c) = lint c := cls_eq fun k => by
  unfold Kh370.number
  by_cases h : c = 0
  · rw [if_pos h, h]
    show (0 : Int) = (if (0 : Int) = k then 0 else 0) + 0
    split <;> rfl
  · rw [if_neg h]
    have e : pk (List.replicate 4 0) = 0 := by simp [pk]
    show (if pk (List.replicate 4 0) = k then c else 0) + 0 = (if (0 : Int) = k then c else 0) + 0
    rw [e]
/-! ### Order -/
def Srt (p : Poly) : Prop := p.Pairwise (fun t u => Kh370.ahead t.2 u.2 = true) ∧ ∀ t ∈ p, t.1 ≠ 0
theorem ahead_irrefl : ∀ m : List Nat, Kh370.ahead m m = false
  | [] => rfl
  | x :: r => by
    unfold Kh370.ahead
    rw [if_pos rfl]
    exact ahead_irrefl r
theorem ahead_tri : ∀ (m n : List Nat), m.length = n.length → m ≠ n → Kh370.ahead m n = false → Kh370.ahead n m = true
  | [], [], _, h, _ => absurd rfl h
  | [], _ :: _, h, _, _ => by simp at h
  | _ :: _, [], h, _, _ => by simp at h
  | x :: r, y :: s, hl, hne, ha => by
    unfold Kh370.ahead at ha ⊢
    by_cases e : x = y
    · rw [if_pos e] at ha
      rw [if_pos e.symm]
      exact ahead_tri r s (by simpa using hl) (fun z => hne (by rw [e, z])) ha
    · rw [if_neg e] at ha
      rw [if_neg (fun z => e z.symm)]
      have h1 : ¬ y < x := of_decide_eq_false ha
      exact decide_eq_true (by omega)
theorem ahead_trans : ∀ (l m n : List Nat), Kh370.ahead l m = true → Kh370.ahead m n = true → Kh370.ahead l n = true
  | [], _, _, h, _ => by simp [Kh370.ahead] at h
  | _ :: _, [], _, h, _ => by simp [Kh370.ahead] at h
  | _ :: _, _ :: _, [], _, h => by simp [Kh370.ahead] at h
  | x :: r, y :: s, z :: u, h1, h2 => by
    unfold Kh370.ahead at h1 h2 ⊢
    by_cases e : x = y
    · rw [if_pos e] at h1
      by_cases f : y = z
      · rw [if_pos f] at h2
        rw [if_pos (e.trans f)]
        exact ahead_trans r s u h1 h2
      · rw [if_neg f] at h2
        rw [if_neg (e ▸ f), e]
        exact h2
    · rw [if_neg e] at h1
      have g1 : y < x := of_decide_eq_true h1
      by_cases f : y = z
      · rw [if_neg (f ▸ e), ← f]
        exact h1
      · rw [if_neg f] at h2
        have g2 : z < y := of_decide_eq_true h2
        rw [if_neg (by omega)]
        exact decide_eq_true (by omega)
theorem plus1_pow (t : Term) : ∀ (p : Poly) (v : Term), v ∈ Kh370.plus1 t p → v.2 = t.2 ∨ ∃ u ∈ p, u.2 = v.2
  | [], v, h => by
    unfold Kh370.plus1 at h
    by_cases z : t.1 = 0
    · rw [if_pos z] at h
      exact absurd h List.not_mem_nil
    · rw [if_neg z, List.mem_singleton] at h
      exact .inl (by rw [h])
  | u :: r, v, h => by
    unfold Kh370.plus1 at h
    by_cases e : u.2 = t.2
    · rw [if_pos e] at h
      by_cases z : u.1 + t.1 = 0
      · rw [if_pos z] at h
        exact .inr ⟨v, List.mem_cons_of_mem _ h, rfl⟩
      · rw [if_neg z] at h
        rcases List.mem_cons.mp h with rfl | h
        · exact .inl e
        · exact .inr ⟨v, List.mem_cons_of_mem _ h, rfl⟩
    · rw [if_neg e] at h
      by_cases a : Kh370.ahead t.2 u.2 = true
      · rw [if_pos a] at h
        by_cases z : t.1 = 0
        · rw [if_pos z] at h
          exact .inr ⟨v, h, rfl⟩
        · rw [if_neg z] at h
          rcases List.mem_cons.mp h with rfl | h
          · exact .inl rfl
          · exact .inr ⟨v, h, rfl⟩
      · rw [if_neg a] at h
        rcases List.mem_cons.mp h with rfl | h
        · exact .inr ⟨v, List.mem_cons_self, rfl⟩
        · rcases plus1_pow t r v h with h | ⟨w, hw, e⟩
          · exact .inl h
          · exact .inr ⟨w, List.mem_cons_of_mem _ hw, e⟩
theorem plus1_W4 {t : Term} {p : Poly} (ht : t.2.length = 4) (hp : W4 p) : W4 (Kh370.plus1 t p) := fun v hv => by
  rcases plus1_pow t p v hv with h | ⟨u, hu, e⟩
  · rw [h]
    exact ht
  · rw [← e]
    exact hp u hu
theorem plus1_srt {t : Term} (ht : t.2.length = 4) : ∀ {p : Poly}, W4 p → Srt p → Srt (Kh370.plus1 t p)
  | [], _, _ => by
    unfold Kh370.plus1
    by_cases z : t.1 = 0
    · rw [if_pos z]
      exact ⟨.nil, fun _ h => absurd h List.not_mem_nil⟩
    · rw [if_neg z]
      exact ⟨List.pairwise_singleton _ _, fun v h => by
        rw [List.mem_singleton] at h
        rw [h]
        exact z⟩
  | u :: r, hw, ⟨hs, hn⟩ => by
    have hs' := List.pairwise_cons.mp hs
    have nr : ∀ v ∈ r, v.1 ≠ 0 := fun v hv => hn v (List.mem_cons_of_mem _ hv)
    unfold Kh370.plus1
    by_cases e : u.2 = t.2
    · rw [if_pos e]
      by_cases z : u.1 + t.1 = 0
      · rw [if_pos z]
        exact ⟨hs'.2, nr⟩
      · rw [if_neg z]
        refine ⟨List.pairwise_cons.mpr ⟨fun v hv => hs'.1 v hv, hs'.2⟩, fun v hv => ?_⟩
        rcases List.mem_cons.mp hv with rfl | hv
        · exact z
        · exact nr v hv
    · rw [if_neg e]
      by_cases a : Kh370.ahead t.2 u.2 = true
      · rw [if_pos a]
        by_cases z : t.1 = 0
        · rw [if_pos z]
          exact ⟨hs, hn⟩
        · rw [if_neg z]
          refine ⟨List.pairwise_cons.mpr ⟨fun v hv => ?_, hs⟩, fun v hv => ?_⟩
          · rcases List.mem_cons.mp hv with rfl | hv
            · exact a
            · exact ahead_trans _ _ _ a (hs'.1 v hv)
          · rcases List.mem_cons.mp hv with rfl | hv
            · exact z
            · exact hn v hv
      · rw [if_neg a]
        have ih := plus1_srt ht hw.tail ⟨hs'.2, nr⟩
        have a' : Kh370.ahead u.2 t.2 = true := ahead_tri t.2 u.2 (ht.trans hw.head.symm) (fun z => e z.symm) (Bool.eq_false_iff.mpr a)
        refine ⟨List.pairwise_cons.mpr ⟨fun v hv => ?_, ih.1⟩, fun v hv => ?_⟩
        · rcases plus1_pow t r v hv with h | ⟨x, hx, ex⟩
          · rw [h]
            exact a'
          · rw [← ex]
            exact hs'.1 x hx
        · rcases List.mem_cons.mp hv with rfl | hv
          · exact hn v List.mem_cons_self
          · exact ih.2 v hv
/-! ### Powers, and how great the numbers are -/
abbrev Bd := Nat → Nat
def Dg (b : Bd) (p : Poly) : Prop := ∀ t ∈ p, ∀ i, t.2.getD i 0 ≤ b i
def nrm (p : Poly) : Nat := (p.map fun t => t.1.natAbs).sum
theorem nrm_cons (t : Term) (p : Poly) : nrm (t :: p) = t.1.natAbs + nrm p := rfl
theorem nrm_plus1 (t : Term) : ∀ p : Poly, nrm (Kh370.plus1 t p) ≤ t.1.natAbs + nrm p
  | [] => by
    unfold Kh370.plus1
    by_cases z : t.1 = 0
    · rw [if_pos z]
      exact Nat.zero_le _
    · rw [if_neg z]
      exact Nat.le_refl _
  | u :: r => by
    unfold Kh370.plus1
    by_cases e : u.2 = t.2
    · rw [if_pos e]
      by_cases z : u.1 + t.1 = 0
      · rw [if_pos z, nrm_cons]
        omega
      · rw [if_neg z, nrm_cons, nrm_cons]
        have : (u.1 + t.1).natAbs ≤ u.1.natAbs + t.1.natAbs := Int.natAbs_add_le _ _
        show (u.1 + t.1).natAbs + nrm r ≤ _
        omega
    · rw [if_neg e]
      by_cases a : Kh370.ahead t.2 u.2 = true
      · rw [if_pos a]
        by_cases z : t.1 = 0
        · rw [if_pos z]
          omega
        · rw [if_neg z]
          exact Nat.le_refl _
      · rw [if_neg a, nrm_cons, nrm_cons]
        have := nrm_plus1 t r
        omega
theorem nrm_add (q : Poly) : ∀ p : Poly, nrm (Kh370.add p q) ≤ nrm p + nrm q
  | [] => by
    show nrm q ≤ 0 + nrm q
    omega
  | t :: r => by
    show nrm (Kh370.plus1 t (Kh370.add r q)) ≤ _
    have h1 := nrm_plus1 t (Kh370.add r q)
    have h2 := nrm_add q r
    rw [nrm_cons]
    omega
theorem nrm_scale1 (p : Poly) : nrm (Kh370.scale (-1) p) = nrm p := by
  show ((p.map fun t => ((-1) * t.1, t.2)).map fun t => t.1.natAbs).sum = _
  rw [List.map_map]
  unfold nrm
  congr 1
  refine List.map_congr_left fun t _ => ?_
  show (-1 * t.1).natAbs = t.1.natAbs
  rw [Int.neg_one_mul, Int.natAbs_neg]
theorem nrm_mono (u : Term) (p : Poly) : nrm (Kh370.mono u p) ≤ u.1.natAbs * nrm p := by
  unfold Kh370.mono
  by_cases h : u.1 = 0
  · rw [if_pos h]
    exact Nat.zero_le _
  · rw [if_neg h]
    induction p with
    | nil => exact Nat.zero_le _
    | cons t r ih =>
      show (u.1 * t.1).natAbs + nrm (r.map fun t => (u.1 * t.1, List.zipWith (· + ·) u.2 t.2)) ≤ u.1.natAbs * (t.1.natAbs + nrm r)
      rw [Nat.mul_add, Int.natAbs_mul]
      omega
theorem nrm_times (q : Poly) : ∀ p : Poly, nrm (Kh370.times p q) ≤ nrm p * nrm q
  | [] => Nat.zero_le _
  | t :: r => by
    show nrm (Kh370.add (Kh370.mono t q) (Kh370.times r q)) ≤ _
    have h1 := nrm_add (Kh370.times r q) (Kh370.mono t q)
    have h2 := nrm_mono t q
    have h3 := nrm_times q r
    rw [nrm_cons, Nat.add_mul]
    omega
structure G (b : Bd) (n : Nat) (p : Poly) : Prop where
  w : W4 p
  s : Srt p
  d : Dg b p
  z : nrm p ≤ 2 ^ n
theorem add_W4 {q : Poly} (hq : W4 q) : ∀ {p : Poly}, W4 p → W4 (Kh370.add p q)
  | [], _ => hq
  | _ :: _, hp => plus1_W4 hp.head (add_W4 hq hp.tail)
theorem add_srt {q : Poly} (hq : W4 q) (sq : Srt q) : ∀ {p : Poly}, W4 p → Srt (Kh370.add p q)
  | [], _ => sq
  | _ :: _, hp => plus1_srt hp.head (add_W4 hq hp.tail) (add_srt hq sq hp.tail)
theorem add_pow {q : Poly} : ∀ {p : Poly} {v : Term}, v ∈ Kh370.add p q → (∃ u ∈ p, u.2 = v.2) ∨ ∃ u ∈ q, u.2 = v.2
  | [], v, h => .inr ⟨v, h, rfl⟩
  | t :: r, v, h => by
    rcases plus1_pow t (Kh370.add r q) v h with h | ⟨u, hu, e⟩
    · exact .inl ⟨t, List.mem_cons_self, h.symm⟩
    · rcases add_pow hu with ⟨x, hx, ex⟩ | ⟨x, hx, ex⟩
      · exact .inl ⟨x, List.mem_cons_of_mem _ hx, ex.trans e⟩
      · exact .inr ⟨x, hx, ex.trans e⟩
theorem scale1_pow {p : Poly} {v : Term} (h : v ∈ Kh370.scale (-1) p) : ∃ u ∈ p, u.2 = v.2 ∧ v.1 = -1 * u.1 := by
  have h' : v ∈ p.map fun t => ((-1) * t.1, t.2) := h
  obtain ⟨u, hu, e⟩ := List.mem_map.mp h'
  exact ⟨u, hu, by rw [← e], by rw [← e]⟩
theorem scale1_srt {p : Poly} (h : Srt p) : Srt (Kh370.scale (-1) p) := by
  refine ⟨?_, fun v hv => ?_⟩
  · show (p.map fun t => ((-1) * t.1, t.2)).Pairwise _
    rw [List.pairwise_map]
    exact h.1
  · obtain ⟨u, hu, _, e⟩ := scale1_pow hv
    have := h.2 u hu
    rw [e]
    omega
theorem scale1_W4 {p : Poly} (h : W4 p) : W4 (Kh370.scale (-1) p) := fun v hv => by
  obtain ⟨u, hu, e, _⟩ := scale1_pow hv
  rw [← e]
  exact h u hu
theorem pow2_le {n m : Nat} (h : n ≤ m) : 2 ^ n ≤ 2 ^ m := Nat.pow_le_pow_right (by decide) h
def bmax (b c : Bd) : Bd := fun i => max (b i) (c i)
def badd (b c : Bd) : Bd := fun i => b i + c i
theorem G.add {b c : Bd} {n m : Nat} {p q : Poly} (hp : G b n p) (hq : G c m q) : G (bmax b c) (max n m + 1) (Kh370.add p q) := by
  refine ⟨add_W4 hq.w hp.w, add_srt hq.w hq.s hp.w, fun v hv i => ?_, ?_⟩
  · show _ ≤ max (b i) (c i)
    rcases add_pow hv with ⟨u, hu, e⟩ | ⟨u, hu, e⟩
    · rw [← e]
      have := hp.d u hu i
      omega
    · rw [← e]
      have := hq.d u hu i
      omega
  · have h1 := nrm_add q p
    have h2 := hp.z
    have h3 := hq.z
    have h4 : 2 ^ n ≤ 2 ^ (max n m) := pow2_le (by omega)
    have h5 : 2 ^ m ≤ 2 ^ (max n m) := pow2_le (by omega)
    rw [Nat.pow_succ]
    omega
theorem G.neg {b : Bd} {n : Nat} {p : Poly} (hp : G b n p) : G b n (Kh370.scale (-1) p) := by
  refine ⟨scale1_W4 hp.w, scale1_srt hp.s, fun v hv i => ?_, by rw [nrm_scale1]; exact hp.z⟩
  obtain ⟨u, hu, e, _⟩ := scale1_pow hv
  rw [← e]
  exact hp.d u hu i
theorem G.less {b c : Bd} {n m : Nat} {p q : Poly} (hp : G b n p) (hq : G c m q) : G (bmax b c) (max n m + 1) (Kh370.less p q) := hp.add hq.neg
theorem mono_mem {u v : Term} {p : Poly} (h : v ∈ Kh370.mono u p) : ∃ t ∈ p, v.2 = List.zipWith (· + ·) u.2 t.2 := by
  unfold Kh370.mono at h
  by_cases z : u.1 = 0
  · rw [if_pos z] at h
    exact absurd h List.not_mem_nil
  · rw [if_neg z] at h
    obtain ⟨t, ht, e⟩ := List.mem_map.mp h
    exact ⟨t, ht, by rw [← e]⟩
theorem mono_W4 {u : Term} (hu : u.2.length = 4) {p : Poly} (hp : W4 p) : W4 (Kh370.mono u p) := fun v hv => by
  obtain ⟨t, ht, e⟩ := mono_mem hv
  rw [e, List.length_zipWith, hu, hp t ht]
  rfl
theorem times_W4 {q : Poly} (hq : W4 q) : ∀ {p : Poly}, W4 p → W4 (Kh370.times p q)
  | [], _ => W4.nil
  | _ :: _, hp => add_W4 (times_W4 hq hp.tail) (mono_W4 hp.head hq)
theorem times_srt {q : Poly} (hq : W4 q) : ∀ {p : Poly}, W4 p → Srt (Kh370.times p q)
  | [], _ => ⟨.nil, fun _ h => absurd h List.not_mem_nil⟩
  | _ :: _, hp => add_srt (times_W4 hq hp.tail) (times_srt hq hp.tail) (mono_W4 hp.head hq)
theorem times_pow {q : Poly} : ∀ {p : Poly} {v : Term}, v ∈ Kh370.times p q → ∃ u ∈ p, ∃ t ∈ q, v.2 = List.zipWith (· + ·) u.2 t.2
  | [], v, h => absurd h List.not_mem_nil
  | u :: r, v, h => by
    rcases add_pow (p := Kh370.mono u q) (q := Kh370.times r q) h with ⟨x, hx, e⟩ | ⟨x, hx, e⟩
    · obtain ⟨t, ht, e2⟩ := mono_mem hx
      exact ⟨u, List.mem_cons_self, t, ht, by rw [← e, e2]⟩
    · obtain ⟨y, hy, t, ht, e2⟩ := times_pow hx
      exact ⟨y, List.mem_cons_of_mem _ hy, t, ht, by rw [← e, e2]⟩
theorem zip_getD {u v : List Nat} (hu : u.length = 4) (hv : v.length = 4) (i : Nat) : (List.zipWith (· + ·) u v).getD i 0 = u.getD i 0 + v.getD i 0 := by
  obtain ⟨a, b, c, d, rfl⟩ := len4 hu
  obtain ⟨e, f, g, h, rfl⟩ := len4 hv
  match i with
  | 0 => rfl
  | 1 => rfl
  | 2 => rfl
  | 3 => rfl
  | i + 4 => rfl
theorem G.times {b c : Bd} {n m : Nat} {p q : Poly} (hp : G b n p) (hq : G c m q) : G (badd b c) (n + m) (Kh370.times p q) := by
  refine ⟨times_W4 hq.w hp.w, times_srt hq.w hp.w, fun v hv i => ?_, ?_⟩
  · obtain ⟨u, hu, t, ht, e⟩ := times_pow hv
    rw [e, zip_getD (hp.w u hu) (hq.w t ht)]
    show _ ≤ b i + c i
    have h1 := hp.d u hu i
    have h2 := hq.d t ht i
    omega
  · have h1 := nrm_times q p
    have h2 : nrm p * nrm q ≤ 2 ^ n * 2 ^ m := Nat.mul_le_mul hp.z hq.z
    rw [Nat.pow_add]
    omega
theorem G.mono {b c : Bd} {n m : Nat} {p : Poly} (hp : G b n p) (hb : ∀ i, b i ≤ c i) (hn : n ≤ m) : G c m p :=
  ⟨hp.w, hp.s, fun v hv i => Nat.le_trans (hp.d v hv i) (hb i), Nat.le_trans hp.z (pow2_le hn)⟩
def b0 : Bd := fun _ => 0
def b1 (l : Nat) : Bd := fun i => if i = l then 1 else 0
theorem G.number {c : Int} {n : Nat} (h : c.natAbs ≤ 2 ^ n) : G b0 n (Kh370.number 4 c) := by
  unfold Kh370.number
  by_cases z : c = 0
  · rw [if_pos z]
    exact ⟨W4.nil, ⟨.nil, fun _ h => absurd h List.not_mem_nil⟩, fun _ h => absurd h List.not_mem_nil, Nat.zero_le _⟩
  · rw [if_neg z]
    refine ⟨fun t ht => ?_, ⟨List.pairwise_singleton _ _, fun t ht => ?_⟩, fun t ht i => ?_, ?_⟩
    · rw [List.mem_singleton] at ht
      rw [ht]
      rfl
    · rw [List.mem_singleton] at ht
      rw [ht]
      exact z
    · rw [List.mem_singleton] at ht
      rw [ht]
      show (List.replicate 4 0).getD i 0 ≤ 0
      match i with
      | 0 => exact Nat.le_refl _
      | 1 => exact Nat.le_refl _
      | 2 => exact Nat.le_refl _
      | 3 => exact Nat.le_refl _
      | i + 4 => exact Nat.le_refl _
    · show c.natAbs + 0 ≤ 2 ^ n
      omega
theorem G.letter {l : Nat} : G (b1 l) 0 (Kh370.letter 4 l) := by
  refine ⟨fun t ht => ?_, ⟨List.pairwise_singleton _ _, fun t ht => ?_⟩, fun t ht i => ?_, Nat.le_refl _⟩
  · rw [List.mem_singleton.mp ht]
    simp
  · rw [List.mem_singleton.mp ht]
    exact (by decide : (1 : Int) ≠ 0)
  · rw [List.mem_singleton.mp ht]
    show ((List.range 4).map fun j => if j = l then 1 else 0).getD i 0 ≤ if i = l then 1 else 0
    match i with
    | 0 => exact Nat.le_refl _
    | 1 => exact Nat.le_refl _
    | 2 => exact Nat.le_refl _
    | 3 => exact Nat.le_refl _
    | i + 4 => exact Nat.zero_le _
end Su
end
section
set_option Elab.async false
namespace Su
open Kh370 (Poly Term)
open Kh374 (Ops Tri)
/-! ### What holds of the operations holds of every formula -/
structure RelOps {A B : Type} (o : Ops A) (u : Ops B) (R : A → B → Prop) : Prop where
  add : ∀ {a b c d}, R a c → R b d → R (o.add a b) (u.add c d)
  less : ∀ {a b c d}, R a c → R b d → R (o.less a b) (u.less c d)
  times : ∀ {a b c d}, R a c → R b d → R (o.times a b) (u.times c d)
  number : ∀ c, R (o.number c) (u.number c)
structure TR {A B : Type} (R : A → B → Prop) (t : Tri A) (s : Tri B) : Prop where
  x : R t.x s.x
  y : R t.y s.y
  w : R t.w s.w
def z3 {A : Type} (o : Ops A) : Tri A := ⟨o.number 0, o.number 0, o.number 0⟩
section
variable {A B : Type} {o : Ops A} {u : Ops B} {R : A → B → Prop}
theorem across_rel (h : RelOps o u R) {a b : Tri A} {c d : Tri B} (h1 : TR R a c) (h2 : TR R b d) : R (Kh374.across o a b) (Kh374.across u c d) := h.less (h.times h2.x h1.w) (h.times h1.x h2.w)
theorem up_rel (h : RelOps o u R) {a b : Tri A} {c d : Tri B} (h1 : TR R a c) (h2 : TR R b d) : R (Kh374.up o a b) (Kh374.up u c d) := h.less (h.times h2.y h1.w) (h.times h1.y h2.w)
theorem det_rel (h : RelOps o u R) {a b c : Tri A} {d e f : Tri B} (h1 : TR R a d) (h2 : TR R b e) (h3 : TR R c f) : R (Kh374.det o a b c) (Kh374.det u d e f) :=
  h.add (h.less (h.times h1.x (h.less (h.times h2.y h3.w) (h.times h3.y h2.w))) (h.times h1.y (h.less (h.times h2.x h3.w) (h.times h3.x h2.w)))) (h.times h1.w (h.less (h.times h2.x h3.y) (h.times h2.y h3.x)))
theorem line_rel (h : RelOps o u R) {a b : Tri A} {c d : Tri B} (h1 : TR R a c) (h2 : TR R b d) : TR R (Kh374.line o a b) (Kh374.line u c d) :=
  ⟨h.less (h.times h1.y h2.w) (h.times h2.y h1.w), h.less (h.times h2.x h1.w) (h.times h1.x h2.w), h.less (h.times h1.x h2.y) (h.times h2.x h1.y)⟩
theorem off_rel (h : RelOps o u R) {a b : Tri A} {c d : Tri B} (h1 : TR R a c) (h2 : TR R b d) : R (Kh374.off o a b) (Kh374.off u c d) :=
  h.add (h.add (h.times h1.x h2.x) (h.times h1.y h2.y)) (h.times h1.w h2.w)
theorem sq_rel (h : RelOps o u R) {a : A} {b : B} (h1 : R a b) : R (Kh374.sq o a) (Kh374.sq u b) := h.times h1 h1
theorem square_rel (h : RelOps o u R) {a : Tri A} {b : Tri B} (h1 : TR R a b) : R (Kh374.square o a) (Kh374.square u b) := h.add (sq_rel h h1.x) (sq_rel h h1.y)
theorem cr_rel (h : RelOps o u R) {a b c d : Tri A} {a' b' c' d' : Tri B} (h1 : TR R a a') (h2 : TR R b b') (h3 : TR R c c') (h4 : TR R d d') : R (Kh374.cr o a b c d) (Kh374.cr u a' b' c' d') :=
  h.less (h.times (across_rel h h1 h2) (up_rel h h3 h4)) (h.times (up_rel h h1 h2) (across_rel h h3 h4))
theorem dt_rel (h : RelOps o u R) {a b c d : Tri A} {a' b' c' d' : Tri B} (h1 : TR R a a') (h2 : TR R b b') (h3 : TR R c c') (h4 : TR R d d') : R (Kh374.dt o a b c d) (Kh374.dt u a' b' c' d') :=
  h.add (h.times (across_rel h h1 h2) (across_rel h h3 h4)) (h.times (up_rel h h1 h2) (up_rel h h3 h4))
theorem over_rel (h : RelOps o u R) (k : Int) {l c : Tri A} {m d : Tri B} (h1 : TR R l m) (h2 : TR R c d) : TR R (Kh374.over o k l c) (Kh374.over u k m d) :=
  have n := h.add (sq_rel h h1.x) (sq_rel h h1.y)
  have t := h.times (h.number k) (off_rel h h1 h2)
  ⟨h.less (h.times h2.x n) (h.times h1.x t), h.less (h.times h2.y n) (h.times h1.y t), h.times h2.w n⟩
theorem place_rel (h : RelOps o u R) {ps : List (Tri A)} {qs : List (Tri B)} {ls : List A} {ms : List B} (hp : ∀ i, TR R (ps.getD i (z3 o)) (qs.getD i (z3 u))) (hl : ∀ i, R (ls.getD i (o.number 0)) (ms.getD i (u.number 0))) (s : Kh371.Step) :
    TR R (Kh374.place o ps ls s) (Kh374.place u qs ms s) := by
  cases s with
  | fixed a b => exact ⟨h.number a, h.number b, h.number 1⟩
  | free => exact ⟨hl 0, hl 1, h.number 1⟩
  | on a b => exact ⟨h.add (h.times (hp a).x (hp b).w) (h.times (hl 0) (across_rel h (hp a) (hp b))), h.add (h.times (hp a).y (hp b).w) (h.times (hl 0) (up_rel h (hp a) (hp b))), h.times (hp a).w (hp b).w⟩
  | part a b m n => exact ⟨h.add (h.times (h.number n) (h.times (hp a).x (hp b).w)) (h.times (h.number m) (across_rel h (hp a) (hp b))), h.add (h.times (h.number n) (h.times (hp a).y (hp b).w)) (h.times (h.number m) (up_rel h (hp a) (hp b))), h.times (h.number n) (h.times (hp a).w (hp b).w)⟩
  | along a b c => exact ⟨h.add (h.times (hp c).x (h.times (hp a).w (hp b).w)) (h.times (hp c).w (across_rel h (hp a) (hp b))), h.add (h.times (hp c).y (h.times (hp a).w (hp b).w)) (h.times (hp c).w (up_rel h (hp a) (hp b))), h.times (h.times (hp a).w (hp b).w) (hp c).w⟩
  | meet a b c d =>
    have l := line_rel h (hp a) (hp b)
    have m := line_rel h (hp c) (hp d)
    exact ⟨h.less (h.times l.y m.w) (h.times m.y l.w), h.less (h.times l.w m.x) (h.times m.w l.x), h.less (h.times l.x m.y) (h.times m.x l.y)⟩
  | foot c a b => exact over_rel h 1 (line_rel h (hp a) (hp b)) (hp c)
  | mirror c a b => exact over_rel h 2 (line_rel h (hp a) (hp b)) (hp c)
  | turn a b => exact ⟨h.less (h.times (hp a).x (hp b).w) (up_rel h (hp a) (hp b)), h.add (h.times (hp a).y (hp b).w) (across_rel h (hp a) (hp b)), h.times (hp a).w (hp b).w⟩
  | centre a b c =>
    have eu := h.times (square_rel h (hp a)) (h.times (hp b).w (hp c).w)
    have ev := h.times (square_rel h (hp b)) (h.times (hp c).w (hp a).w)
    have et := h.times (square_rel h (hp c)) (h.times (hp a).w (hp b).w)
    exact ⟨h.add (h.add (h.times eu (h.less (h.times (hp b).y (hp c).w) (h.times (hp c).y (hp b).w))) (h.times ev (h.less (h.times (hp c).y (hp a).w) (h.times (hp a).y (hp c).w)))) (h.times et (h.less (h.times (hp a).y (hp b).w) (h.times (hp b).y (hp a).w))),
      h.add (h.add (h.times eu (h.less (h.times (hp c).x (hp b).w) (h.times (hp b).x (hp c).w))) (h.times ev (h.less (h.times (hp a).x (hp c).w) (h.times (hp c).x (hp a).w)))) (h.times et (h.less (h.times (hp b).x (hp a).w) (h.times (hp a).x (hp b).w))),
      h.times (h.number 2) (h.times (det_rel h (hp a) (hp b) (hp c)) (h.times (hp a).w (h.times (hp b).w (hp c).w)))⟩
  | second a b c =>
    have vx := across_rel h (hp a) (hp b)
    have vy := up_rel h (hp a) (hp b)
    have k := h.times (h.number 2) (h.add (h.times (across_rel h (hp a) (hp c)) vx) (h.times (up_rel h (hp a) (hp c)) vy))
    have n := h.add (sq_rel h vx) (sq_rel h vy)
    exact ⟨h.add (h.times (h.times (hp a).x (hp c).w) n) (h.times k vx), h.add (h.times (h.times (hp a).y (hp c).w) n) (h.times k vy), h.times (h.times (hp a).w (hp c).w) n⟩
  | round c a =>
    have cx := across_rel h (hp a) (hp c)
    have cy := up_rel h (hp a) (hp c)
    have n := h.add (h.number 1) (sq_rel h (hl 0))
    exact ⟨h.add (h.times (h.times (hp a).x (hp c).w) n) (h.times (h.number 2) (h.less cx (h.times (hl 0) cy))), h.add (h.times (h.times (hp a).y (hp c).w) n) (h.times (h.number 2) (h.add cy (h.times (hl 0) cx))), h.times (h.times (hp a).w (hp c).w) n⟩
  | inverse c a p =>
    have e := h.add (sq_rel h (across_rel h (hp c) (hp a))) (sq_rel h (up_rel h (hp c) (hp a)))
    have f := h.times (h.add (sq_rel h (across_rel h (hp c) (hp p))) (sq_rel h (up_rel h (hp c) (hp p)))) (sq_rel h (hp a).w)
    have hh := h.times e (hp p).w
    exact ⟨h.add (h.times (hp c).x f) (h.times hh (across_rel h (hp c) (hp p))), h.add (h.times (hp c).y f) (h.times hh (up_rel h (hp c) (hp p))), h.times (hp c).w f⟩
/-- two lists, item by item -/
inductive LR {A B : Type} (R : A → B → Prop) : List A → List B → Prop
  | nil : LR R [] []
  | cons {a b l m} : R a b → LR R l m → LR R (a :: l) (b :: m)
theorem rest_rel (h : RelOps o u R) (k : Nat) {ps : List (Tri A)} {qs : List (Tri B)} (hp : ∀ i, TR R (ps.getD i (z3 o)) (qs.getD i (z3 u))) (m n : Int) : LR R (Kh374.rest o k ps m n) (Kh374.rest u k qs m n) := by
  match k with
  | 0 => exact .cons (h.less (h.times (hp 0).x (hp 1).w) (h.times (hp 1).x (hp 0).w)) (.cons (h.less (h.times (hp 0).y (hp 1).w) (h.times (hp 1).y (hp 0).w)) .nil)
  | 1 => exact .cons (det_rel h (hp 0) (hp 1) (hp 2)) .nil
  | 2 => exact .cons (cr_rel h (hp 0) (hp 1) (hp 2) (hp 3)) .nil
  | 3 => exact .cons (dt_rel h (hp 0) (hp 1) (hp 2) (hp 3)) .nil
  | 4 => exact .cons (h.less (h.times (dt_rel h (hp 0) (hp 1) (hp 0) (hp 1)) (sq_rel h (h.times (hp 2).w (hp 3).w))) (h.times (dt_rel h (hp 2) (hp 3) (hp 2) (hp 3)) (sq_rel h (h.times (hp 0).w (hp 1).w)))) .nil
  | 5 => exact .cons (h.less (h.times (h.number _) (h.times (dt_rel h (hp 0) (hp 1) (hp 0) (hp 1)) (sq_rel h (h.times (hp 2).w (hp 3).w)))) (h.times (h.number _) (h.times (dt_rel h (hp 2) (hp 3) (hp 2) (hp 3)) (sq_rel h (h.times (hp 0).w (hp 1).w))))) .nil
  | 6 => exact .cons (h.less (h.add (h.less (h.times (square_rel h (hp 0)) (h.times (h.times (hp 1).w (h.times (hp 2).w (hp 3).w)) (det_rel h (hp 1) (hp 2) (hp 3)))) (h.times (square_rel h (hp 1)) (h.times (h.times (hp 0).w (h.times (hp 2).w (hp 3).w)) (det_rel h (hp 0) (hp 2) (hp 3))))) (h.times (square_rel h (hp 2)) (h.times (h.times (hp 0).w (h.times (hp 1).w (hp 3).w)) (det_rel h (hp 0) (hp 1) (hp 3))))) (h.times (square_rel h (hp 3)) (h.times (h.times (hp 0).w (h.times (hp 1).w (hp 2).w)) (det_rel h (hp 0) (hp 1) (hp 2))))) .nil
  | 7 => exact .cons (h.less (h.times (cr_rel h (hp 1) (hp 0) (hp 1) (hp 2)) (dt_rel h (hp 4) (hp 3) (hp 4) (hp 5))) (h.times (dt_rel h (hp 1) (hp 0) (hp 1) (hp 2)) (cr_rel h (hp 4) (hp 3) (hp 4) (hp 5)))) .nil
  | 8 => exact .cons (h.less (h.times (det_rel h (hp 0) (hp 1) (hp 2)) (h.times (hp 3).w (h.times (hp 4).w (hp 5).w))) (h.times (det_rel h (hp 3) (hp 4) (hp 5)) (h.times (hp 0).w (h.times (hp 1).w (hp 2).w)))) .nil
  | 9 =>
    have l := line_rel h (hp 0) (hp 1)
    have e := line_rel h (hp 2) (hp 3)
    have v := line_rel h (hp 4) (hp 5)
    exact .cons (h.add (h.less (h.times l.x (h.less (h.times e.y v.w) (h.times v.y e.w))) (h.times l.y (h.less (h.times e.x v.w) (h.times v.x e.w)))) (h.times l.w (h.less (h.times e.x v.y) (h.times v.x e.y)))) .nil
  | 10 => exact .cons (h.less (h.times (h.number 2) (h.times (hp 0).x (h.times (hp 1).w (hp 2).w))) (h.times (hp 0).w (h.add (h.times (hp 1).x (hp 2).w) (h.times (hp 2).x (hp 1).w)))) (.cons (h.less (h.times (h.number 2) (h.times (hp 0).y (h.times (hp 1).w (hp 2).w))) (h.times (hp 0).w (h.add (h.times (hp 1).y (hp 2).w) (h.times (hp 2).y (hp 1).w)))) .nil)
  | 11 =>
    have l := line_rel h (hp 0) (hp 1)
    exact .cons (h.less (h.times (sq_rel h (off_rel h l (hp 2))) (sq_rel h (hp 3).w)) (h.times (dt_rel h (hp 2) (hp 3) (hp 2) (hp 3)) (h.add (sq_rel h l.x) (sq_rel h l.y)))) .nil
  | k + 12 =>
    exact .cons (h.less (h.times (h.less (h.times (across_rel h (hp 0) (hp 1)) (across_rel h (hp 3) (hp 5))) (h.times (up_rel h (hp 0) (hp 1)) (up_rel h (hp 3) (hp 5)))) (h.times (hp 4).w (hp 2).w)) (h.times (h.less (h.times (across_rel h (hp 3) (hp 4)) (across_rel h (hp 0) (hp 2))) (h.times (up_rel h (hp 3) (hp 4)) (up_rel h (hp 0) (hp 2)))) (h.times (hp 5).w (hp 1).w)))
      (.cons (h.less (h.times (h.add (h.times (across_rel h (hp 0) (hp 1)) (up_rel h (hp 3) (hp 5))) (h.times (up_rel h (hp 0) (hp 1)) (across_rel h (hp 3) (hp 5)))) (h.times (hp 4).w (hp 2).w)) (h.times (h.add (h.times (across_rel h (hp 3) (hp 4)) (up_rel h (hp 0) (hp 2))) (h.times (up_rel h (hp 3) (hp 4)) (across_rel h (hp 0) (hp 2)))) (h.times (hp 5).w (hp 1).w))) .nil)
end
/-! ### The two readings: in the ring, and by bounds -/
def ringOps : Ops L := ⟨fun a b => a + b, fun a b => a - b, fun a b => a * b, lint⟩
def RingR (p : Poly) (v : L) : Prop := W4 p ∧ pc p = v
theorem ring_rel : RelOps Kh374.polys ringOps RingR where
  add := fun h1 h2 => ⟨add_W4 h2.1 h1.1, by rw [← h1.2, ← h2.2]; exact pc_add _ _⟩
  less := fun h1 h2 => ⟨add_W4 (scale1_W4 h2.1) h1.1, by rw [← h1.2, ← h2.2]; exact pc_less _ _⟩
  times := fun h1 h2 => ⟨times_W4 h2.1 h1.1, by rw [← h1.2, ← h2.2]; exact pc_times h1.1 h2.1⟩
  number := fun c => ⟨(G.number (n := c.natAbs) (Nat.le_of_lt Nat.lt_two_pow_self)).w, pc_number c⟩
structure Bn where
  b : Bd
  n : Nat
def bits (c : Int) : Nat := if c.natAbs ≤ 1 then 0 else if c.natAbs ≤ 2 then 1 else if c.natAbs ≤ 128 then 7 else if c.natAbs ≤ 1024 then 10 else if c.natAbs ≤ 1048576 then 20 else c.natAbs
theorem bits_ok (c : Int) : c.natAbs ≤ 2 ^ bits c := by
  unfold bits
  split
  · exact ‹_›
  split
  · exact ‹_›
  split
  · exact ‹_›
  split
  · exact ‹_›
  split
  · exact ‹_›
  exact Nat.le_of_lt Nat.lt_two_pow_self
def bOps : Ops Bn := ⟨fun a b => ⟨bmax a.b b.b, max a.n b.n + 1⟩, fun a b => ⟨bmax a.b b.b, max a.n b.n + 1⟩, fun a b => ⟨badd a.b b.b, a.n + b.n⟩, fun c => ⟨b0, bits c⟩⟩
def BR (p : Poly) (v : Bn) : Prop := G v.b v.n p
theorem b_rel : RelOps Kh374.polys bOps BR where
  add := fun h1 h2 => G.add h1 h2
  less := fun h1 h2 => G.less h1 h2
  times := fun h1 h2 => G.times h1 h2
  number := fun c => G.number (bits_ok c)
end Su
end
section
set_option Elab.async false
set_option linter.all false
namespace Su
open Kh370 (Poly Term)
open Kh374 (Ops Tri)
/-! ### How far a step's point goes -/
structure Le (v : Bn) (b : Bd) (n : Nat) : Prop where
  b : ∀ l, v.b l ≤ b l
  n : v.n ≤ n
theorem BR.le {p : Poly} {v : Bn} {b : Bd} {n : Nat} (h : BR p v) (l : Le v b n) : G b n p := G.mono h l.b l.n
structure Le3 (t : Tri Bn) (b : Bd) (n : Nat) : Prop where
  x : Le t.x b n
  y : Le t.y b n
  w : Le t.w b n
structure G3 (b : Bd) (n : Nat) (t : Tri Poly) : Prop where
  x : G b n t.x
  y : G b n t.y
  w : G b n t.w
theorem G3.of {t : Tri Poly} {v : Tri Bn} {b : Bd} {n : Nat} (h : TR BR t v) (l : Le3 v b n) : G3 b n t := ⟨h.x.le l.x, h.y.le l.y, h.w.le l.w⟩
theorem bits0 : bits 0 = 0 := rfl
theorem bits1 : bits 1 = 0 := rfl
theorem bits2 : bits 2 = 1 := rfl
theorem bits_128 {c : Int} (h : c.natAbs ≤ 128) : bits c ≤ 7 := by
  unfold bits
  repeat' split
  all_goals omega
theorem bits_1024 {c : Int} (h : c.natAbs ≤ 1024) : bits c ≤ 10 := by
  unfold bits
  repeat' split
  all_goals omega
theorem bits_20 {c : Int} (h : c.natAbs ≤ 1048576) : bits c ≤ 20 := by
  unfold bits
  repeat' split
  all_goals omega
/-- what a step's numbers may be -/
def NumOk : Kh371.Step → Prop
  | .fixed a b => a.natAbs ≤ 1000 ∧ b.natAbs ≤ 1000
  | .part _ _ m n => m.natAbs ≤ 100 ∧ n.natAbs ≤ 100
  | _ => True
theorem place_le (qs : List (Tri Bn)) (ms : List Bn) (s : Kh371.Step) (R : Nat → List Nat) (W : List Nat) (mine : Nat → Bool)
    (hq : ∀ i, qs.getD i ⟨bOps.number 0, bOps.number 0, bOps.number 0⟩ = ⟨⟨fun l => (R l).getD i 0, 20 * W.getD i 0 - 10⟩, ⟨fun l => (R l).getD i 0, 20 * W.getD i 0 - 10⟩, ⟨fun l => (R l).getD i 0, 20 * W.getD i 0 - 10⟩⟩)
    (hz : ∀ i, i < Kh371.takes s → (∀ l, (ms.getD i (bOps.number 0)).b l ≤ if mine l = true then 1 else 0) ∧ (ms.getD i (bOps.number 0)).n = 0)
    (hw : ∀ i ∈ Kh371.args s, 1 ≤ W.getD i 0) (hn : NumOk s) :
    Le3 (Kh374.place bOps qs ms s) (fun l => Kh373.reach1 (R l) (mine l) s) (20 * Kh371.weigh W s - 10) := by
  cases s with
  | fixed a b =>
    have ha := bits_1024 (c := a) (by have := hn.1; omega)
    have hb := bits_1024 (c := b) (by have := hn.2; omega)
    exact ⟨⟨fun l => Nat.zero_le _, ha⟩, ⟨fun l => Nat.zero_le _, hb⟩, ⟨fun l => Nat.zero_le _, Nat.zero_le _⟩⟩
  | free =>
    have h0 := hz 0 (by show 0 < 2; decide)
    have h1 := hz 1 (by show 1 < 2; decide)
    exact ⟨⟨h0.1, by show (ms.getD 0 (bOps.number 0)).n ≤ _; omega⟩, ⟨h1.1, by show (ms.getD 1 (bOps.number 0)).n ≤ _; omega⟩, ⟨fun l => Nat.zero_le _, Nat.zero_le _⟩⟩
  | on a b =>
    have wa := hw a (by simp [Kh371.args])
    have wb := hw b (by simp [Kh371.args])
    have h0 := hz 0 (by show 0 < 1; decide)
    generalize hZ : ms.getD 0 (bOps.number 0) = Z at h0
    simp only [Kh374.place, hq, hZ]
    refine ⟨⟨fun l => ?_, ?_⟩, ⟨fun l => ?_, ?_⟩, ⟨fun l => ?_, ?_⟩⟩ <;> simp only [Kh374.across, Kh374.up, bOps, bmax, badd, Kh373.reach1, Kh371.weigh] <;> first | omega | (have := h0.1 l; omega)
  | part a b m n =>
    have wa := hw a (by simp [Kh371.args])
    have wb := hw b (by simp [Kh371.args])
    have hm := bits_128 (c := m) (by have := hn.1; omega)
    have hn := bits_128 (c := n) (by have := hn.2; omega)
    simp only [Kh374.place, hq]
    refine ⟨⟨fun l => ?_, ?_⟩, ⟨fun l => ?_, ?_⟩, ⟨fun l => ?_, ?_⟩⟩ <;> simp only [Kh374.across, Kh374.up, bOps, bmax, badd, b0, Kh373.reach1, Kh371.weigh] <;> omega
  | along a b c =>
    have wa := hw a (by simp [Kh371.args])
    have wb := hw b (by simp [Kh371.args])
    have wc := hw c (by simp [Kh371.args])
    simp only [Kh374.place, hq]
    refine ⟨⟨fun l => ?_, ?_⟩, ⟨fun l => ?_, ?_⟩, ⟨fun l => ?_, ?_⟩⟩ <;> simp only [Kh374.across, Kh374.up, bOps, bmax, badd, b0, Kh373.reach1, Kh371.weigh] <;> omega
  | meet a b c d =>
    have wa := hw a (by simp [Kh371.args])
    have wb := hw b (by simp [Kh371.args])
    have wc := hw c (by simp [Kh371.args])
    have wd := hw d (by simp [Kh371.args])
    simp only [Kh374.place, hq]
    refine ⟨⟨fun l => ?_, ?_⟩, ⟨fun l => ?_, ?_⟩, ⟨fun l => ?_, ?_⟩⟩ <;> simp only [Kh374.line, bOps, bmax, badd, b0, Kh373.reach1, Kh371.weigh] <;> omega
  | foot c a b =>
    have wa := hw a (by simp [Kh371.args])
    have wb := hw b (by simp [Kh371.args])
    have wc := hw c (by simp [Kh371.args])
    simp only [Kh374.place, hq]
    refine ⟨⟨fun l => ?_, ?_⟩, ⟨fun l => ?_, ?_⟩, ⟨fun l => ?_, ?_⟩⟩ <;> simp only [Kh374.over, Kh374.off, Kh374.sq, Kh374.line, bOps, bmax, badd, b0, bits1, Kh373.reach1, Kh371.weigh] <;> omega
  | mirror c a b =>
    have wa := hw a (by simp [Kh371.args])
    have wb := hw b (by simp [Kh371.args])
    have wc := hw c (by simp [Kh371.args])
    simp only [Kh374.place, hq]
    refine ⟨⟨fun l => ?_, ?_⟩, ⟨fun l => ?_, ?_⟩, ⟨fun l => ?_, ?_⟩⟩ <;> simp only [Kh374.over, Kh374.off, Kh374.sq, Kh374.line, bOps, bmax, badd, b0, bits2, Kh373.reach1, Kh371.weigh] <;> omega
  | turn a b =>
    have wa := hw a (by simp [Kh371.args])
    have wb := hw b (by simp [Kh371.args])
    simp only [Kh374.place, hq]
    refine ⟨⟨fun l => ?_, ?_⟩, ⟨fun l => ?_, ?_⟩, ⟨fun l => ?_, ?_⟩⟩ <;> simp only [Kh374.across, Kh374.up, bOps, bmax, badd, b0, Kh373.reach1, Kh371.weigh] <;> omega
  | centre a b c =>
    have wa := hw a (by simp [Kh371.args])
    have wb := hw b (by simp [Kh371.args])
    have wc := hw c (by simp [Kh371.args])
    simp only [Kh374.place, hq]
    refine ⟨⟨fun l => ?_, ?_⟩, ⟨fun l => ?_, ?_⟩, ⟨fun l => ?_, ?_⟩⟩ <;> simp only [Kh374.square, Kh374.det, Kh374.sq, bOps, bmax, badd, b0, bits2, Kh373.reach1, Kh371.weigh] <;> omega
  | second a b c =>
    have wa := hw a (by simp [Kh371.args])
    have wb := hw b (by simp [Kh371.args])
    have wc := hw c (by simp [Kh371.args])
    simp only [Kh374.place, hq]
    refine ⟨⟨fun l => ?_, ?_⟩, ⟨fun l => ?_, ?_⟩, ⟨fun l => ?_, ?_⟩⟩ <;> simp only [Kh374.across, Kh374.up, Kh374.sq, bOps, bmax, badd, b0, bits2, Kh373.reach1, Kh371.weigh] <;> omega
  | round c a =>
    have wa := hw a (by simp [Kh371.args])
    have wc := hw c (by simp [Kh371.args])
    have h0 := hz 0 (by show 0 < 1; decide)
    generalize hZ : ms.getD 0 (bOps.number 0) = Z at h0
    simp only [Kh374.place, hq, hZ]
    refine ⟨⟨fun l => ?_, ?_⟩, ⟨fun l => ?_, ?_⟩, ⟨fun l => ?_, ?_⟩⟩ <;> simp only [Kh374.across, Kh374.up, Kh374.sq, bOps, bmax, badd, b0, bits1, bits2, Kh373.reach1, Kh371.weigh] <;> first | omega | (have := h0.1 l; cases hml : mine l <;> simp only [hml, if_true, Bool.false_eq_true, if_false] at this ⊢ <;> omega)
  | inverse c a p =>
    have wa := hw a (by simp [Kh371.args])
    have wc := hw c (by simp [Kh371.args])
    have wp := hw p (by simp [Kh371.args])
    simp only [Kh374.place, hq]
    refine ⟨⟨fun l => ?_, ?_⟩, ⟨fun l => ?_, ?_⟩, ⟨fun l => ?_, ?_⟩⟩ <;> simp only [Kh374.across, Kh374.up, Kh374.sq, bOps, bmax, badd, b0, Kh373.reach1, Kh371.weigh] <;> omega
end Su
end
section
set_option Elab.async false
set_option linter.all false
namespace Su
open Kh370 (Poly Term)
open Kh374 (Ops Tri Fig)
open Kh371 (Step takes args)
/-! ### A figure, step by step -/
def lets : List Poly := (List.range 4).map (Kh370.letter 4)
theorem drawFrom_snoc {A : Type} (o : Ops A) (s : Step) : ∀ (ss : List Step) (ls : List A) (ps : List (Tri A)), Kh374.drawFrom o (ss ++ [s]) ls ps = Kh374.drawFrom o ss ls ps ++ [Kh374.place o (Kh374.drawFrom o ss ls ps) (ls.drop (ss.map takes).sum) s]
  | [], ls, ps => by simp [Kh374.drawFrom]
  | t :: r, ls, ps => by
    show Kh374.drawFrom o (r ++ [s]) (ls.drop (takes t)) (ps ++ [Kh374.place o ps ls t]) = _
    rw [drawFrom_snoc o s r]
    show _ = Kh374.drawFrom o r (ls.drop (takes t)) (ps ++ [Kh374.place o ps ls t]) ++ [Kh374.place o (Kh374.drawFrom o r (ls.drop (takes t)) (ps ++ [Kh374.place o ps ls t])) (ls.drop (((t :: r).map takes).sum)) s]
    rw [List.drop_drop, List.map_cons, List.sum_cons]
theorem points_snoc (ss : Fig) (s : Step) : Kh374.points (ss ++ [s]) = Kh374.points ss ++ [Kh374.place Kh374.polys (Kh374.points ss) (lets.drop (Kh373.lettersOf ss)) s] := drawFrom_snoc _ s ss _ _
theorem letters_snoc (ss : Fig) (s : Step) : Kh373.lettersOf (ss ++ [s]) = Kh373.lettersOf ss + takes s := by
  simp [Kh373.lettersOf]
theorem weights_snoc (ss : Fig) (s : Step) : Kh371.weights (ss ++ [s]) = Kh371.weights ss ++ [Kh371.weigh (Kh371.weights ss) s] := by
  unfold Kh371.weights
  rw [List.foldl_append]
  rfl
theorem before_eq (ss : Fig) (s : Step) : Kh371.before (ss ++ [s]) ss.length = Kh373.lettersOf ss := by
  unfold Kh371.before Kh373.lettersOf
  rw [List.take_left]
theorem own_old (ss : Fig) (s : Step) {i : Nat} (h : i < ss.length) : Kh371.own (ss ++ [s]) i = Kh371.own ss i := by
  unfold Kh371.own Kh371.before
  rw [List.getElem?_append_left h, List.take_append_of_le_length (by omega)]
theorem own_new (ss : Fig) (s : Step) : Kh371.own (ss ++ [s]) ss.length = (List.range (takes s)).map fun j => Kh373.lettersOf ss + j := by
  unfold Kh371.own
  rw [before_eq, List.getElem?_append_right (Nat.le_refl _), Nat.sub_self]
  rfl
def mineL (ss : Fig) (s : Step) (l : Nat) : Bool := decide (Kh373.lettersOf ss ≤ l ∧ l < Kh373.lettersOf ss + takes s)
theorem own_mine (ss : Fig) (s : Step) (l : Nat) : (Kh371.own (ss ++ [s]) ss.length).contains l = mineL ss s l := by
  rw [own_new]
  unfold mineL
  rw [Bool.eq_iff_iff, List.contains_iff_mem, decide_eq_true_iff, List.mem_map]
  constructor
  · rintro ⟨j, hj, rfl⟩
    rw [List.mem_range] at hj
    omega
  · intro h
    exact ⟨l - Kh373.lettersOf ss, List.mem_range.mpr (by omega), by omega⟩
theorem foldl_congr_mem {A B : Type} {f g : B → A → B} : ∀ (l : List A) (b : B), (∀ x ∈ l, ∀ b, f b x = g b x) → l.foldl f b = l.foldl g b
  | [], _, _ => rfl
  | x :: r, b, h => by
    rw [List.foldl_cons, List.foldl_cons, h x List.mem_cons_self]
    exact foldl_congr_mem r _ fun y hy => h y (List.mem_cons_of_mem _ hy)
theorem reaches_snoc (ss : Fig) (s : Step) (l : Nat) : Kh373.reaches (ss ++ [s]) l = Kh373.reaches ss l ++ [Kh373.reach1 (Kh373.reaches ss l) (mineL ss s l) s] := by
  unfold Kh373.reaches
  rw [List.zipIdx_append, List.foldl_append]
  rw [foldl_congr_mem (g := fun w x => w ++ [Kh373.reach1 w ((Kh371.own ss x.2).contains l) x.1]) ss.zipIdx [] fun x hx b => ?_]
  · show _ ++ [Kh373.reach1 _ ((Kh371.own (ss ++ [s]) (0 + ss.length)).contains l) s] = _
    rw [Nat.zero_add, own_mine]
  · have h : x.2 < ss.length := by
      have := List.mem_zipIdx hx
      omega
    rw [own_old ss s h]
theorem snoc_ind {A : Type} {P : List A → Prop} (h0 : P []) (h1 : ∀ l x, P l → P (l ++ [x])) (l : List A) : P l := by
  rw [← List.reverse_reverse l]
  induction l.reverse with
  | nil => exact h0
  | cons x r ih =>
    rw [List.reverse_cons]
    exact h1 _ _ ih
theorem points_len (ss : Fig) : (Kh374.points ss).length = ss.length := by
  induction ss using snoc_ind with
  | h0 => rfl
  | h1 r s ih =>
    rw [points_snoc, List.length_append, ih, List.length_append]; rfl
theorem weights_len (ss : Fig) : (Kh371.weights ss).length = ss.length := by
  induction ss using snoc_ind with
  | h0 => rfl
  | h1 r s ih =>
    rw [weights_snoc, List.length_append, ih, List.length_append]; rfl
theorem reaches_len (l : Nat) (ss : Fig) : (Kh373.reaches ss l).length = ss.length := by
  induction ss using snoc_ind with
  | h0 => rfl
  | h1 r s ih =>
    rw [reaches_snoc, List.length_append, ih, List.length_append]; rfl
theorem getD_old {A : Type} (l : List A) (x z : A) {i : Nat} (h : i < l.length) : (l ++ [x]).getD i z = l.getD i z := by
  rw [List.getD_eq_getElem?_getD, List.getD_eq_getElem?_getD, List.getElem?_append_left h]
theorem getD_new {A : Type} (l : List A) (x z : A) {i : Nat} (h : i = l.length) : (l ++ [x]).getD i z = x := by
  rw [List.getD_eq_getElem?_getD, h, List.getElem?_append_right (Nat.le_refl _), Nat.sub_self]
  rfl
theorem getD_out {A : Type} (l : List A) (z : A) {i : Nat} (h : l.length ≤ i) : l.getD i z = z := by
  rw [List.getD_eq_getElem?_getD, List.getElem?_eq_none h]
  rfl
/-- letters that there aren't reach nowhere -/
theorem reaches_zero {ss : Fig} {l : Nat} (h : Kh373.lettersOf ss ≤ l) : ∀ i, (Kh373.reaches ss l).getD i 0 = 0 := by
  induction ss using snoc_ind with
  | h0 => exact fun i => rfl
  | h1 r s ih =>
  intro i
  rw [letters_snoc] at h
  have ih := ih (by omega)
  rw [reaches_snoc]
  have hm : mineL r s l = false := by
    unfold mineL
    exact decide_eq_false (by omega)
  rw [hm]
  by_cases h1 : i < (Kh373.reaches r l).length
  · rw [getD_old _ _ _ h1]
    exact ih i
  · by_cases h2 : i = (Kh373.reaches r l).length
    · rw [getD_new _ _ _ h2]
      cases s <;> simp only [Kh373.reach1, ih] <;> rfl
    · rw [getD_out _ _ (by rw [List.length_append]; show _ + 1 ≤ _; omega)]
/-- what is asked of a step -/
structure StepOk (a : Fig) (s : Step) : Prop where
  args : ∀ i ∈ args s, i < a.length
  num : Kh371.okStep s = true
  room : a.length < 12
  lets : Kh373.lettersOf (a ++ [s]) ≤ 4
  heavy : Kh371.weigh (Kh371.weights a) s ≤ 400
  wide : Kh373.many (Kh373.gridAt (a ++ [s]) a.length) ≤ 200
  there : ((Kh374.points (a ++ [s])).getD a.length ⟨[], [], []⟩).w ≠ []
inductive FigOk : Fig → Prop
  | nil : FigOk []
  | snoc {a : Fig} {s : Step} : FigOk a → StepOk a s → FigOk (a ++ [s])
theorem FigOk.inv {a : Fig} {s : Step} (h : FigOk (a ++ [s])) : FigOk a ∧ StepOk a s := by
  generalize e : a ++ [s] = b at h
  cases h with
  | nil => simp at e
  | snoc h1 h2 =>
    have := List.append_inj' e rfl
    obtain ⟨rfl, e2⟩ := this
    cases e2
    exact ⟨h1, h2⟩
theorem num_ok {s : Step} (h : Kh371.okStep s = true) : NumOk s := by
  cases s with
  | fixed a b =>
    simp only [Kh371.okStep, Kh371.okNumber, Bool.and_eq_true, decide_eq_true_eq] at h
    exact ⟨by omega, by omega⟩
  | part a b m n =>
    simp only [Kh371.okStep, Bool.and_eq_true, decide_eq_true_eq] at h
    exact ⟨by omega, by omega⟩
  | _ => trivial
theorem FigOk.letters {a : Fig} (h : FigOk a) : Kh373.lettersOf a ≤ 4 := by
  cases h with
  | nil => exact Nat.zero_le _
  | snoc _ h => exact h.lets
theorem FigOk.length {a : Fig} (h : FigOk a) : a.length ≤ 12 := by
  cases h with
  | nil => exact Nat.zero_le _
  | snoc _ h =>
    have := h.room
    rw [List.length_append]
    show _ + 1 ≤ 12
    omega
theorem weigh_pos (W : List Nat) (s : Step) (h : ∀ i ∈ args s, 1 ≤ W.getD i 0) : 1 ≤ Kh371.weigh W s := by
  cases s <;> simp only [Kh371.weigh] <;> simp only [Kh371.args, List.mem_cons, forall_eq_or_imp, List.not_mem_nil, false_implies, implies_true, and_true] at h <;> omega
theorem FigOk.weights {a : Fig} (h : FigOk a) : ∀ i, i < a.length → 1 ≤ (Kh371.weights a).getD i 0 ∧ (Kh371.weights a).getD i 0 ≤ 400 := by
  induction h with
  | nil => intro i hi; exact absurd hi (Nat.not_lt_zero _)
  | @snoc a t h s ih =>
    intro i hi
    rw [weights_snoc]
    rw [List.length_append] at hi
    by_cases h1 : i < (Kh371.weights a).length
    · rw [getD_old _ _ _ h1]
      exact ih i (by rwa [weights_len] at h1)
    · rw [getD_new _ _ _ (by rw [weights_len] at h1 ⊢; simp at hi; omega)]
      exact ⟨weigh_pos _ _ fun j hj => (ih j (s.args j hj)).1, s.heavy⟩
def reachB (a : Fig) (i : Nat) : Bd := fun l => (Kh373.reaches a l).getD i 0
def heavyN (a : Fig) (i : Nat) : Nat := 20 * (Kh371.weights a).getD i 0 - 10
def bnAt (a : Fig) (i : Nat) : Bn := ⟨reachB a i, heavyN a i⟩
theorem lets_get (i : Nat) (h : i < 4) : lets.getD i (Kh374.polys.number 0) = Kh370.letter 4 i := by
  match i, h with
  | 0, _ => rfl
  | 1, _ => rfl
  | 2, _ => rfl
  | 3, _ => rfl
theorem G.zero : G b0 0 (Kh374.polys.number 0) := G.number (c := 0) (Nat.zero_le _)
theorem G3.zero : G3 b0 0 (z3 Kh374.polys) := ⟨G.zero, G.zero, G.zero⟩
theorem getD_map_range {A : Type} (f : Nat → A) (n i : Nat) (z : A) : ((List.range n).map f).getD i z = if i < n then f i else z := by
  rw [List.getD_eq_getElem?_getD, List.getElem?_map]
  by_cases h : i < n
  · rw [if_pos h, List.getElem?_range h]
    rfl
  · rw [if_neg h, List.getElem?_eq_none (by simpa using h)]
    rfl
/-- **Every point's numbers keep to its reach and to how heavy it is.** -/
theorem FigOk.bound {a : Fig} (h : FigOk a) : ∀ i, G3 (reachB a i) (heavyN a i) ((Kh374.points a).getD i (z3 Kh374.polys)) := by
  induction h with
  | nil =>
    intro i
    exact ⟨G3.zero.x.mono (fun _ => Nat.zero_le _) (Nat.zero_le _), G3.zero.y.mono (fun _ => Nat.zero_le _) (Nat.zero_le _), G3.zero.w.mono (fun _ => Nat.zero_le _) (Nat.zero_le _)⟩
  | @snoc a s h hs ih =>
    intro i
    rw [points_snoc]
    by_cases h1 : i < a.length
    · rw [getD_old _ _ _ (by rwa [points_len])]
      have e1 : reachB (a ++ [s]) i = reachB a i := funext fun l => by
        show (Kh373.reaches (a ++ [s]) l).getD i 0 = _
        rw [reaches_snoc, getD_old _ _ _ (by rwa [reaches_len])]
        rfl
      have e2 : heavyN (a ++ [s]) i = heavyN a i := by
        unfold heavyN
        rw [weights_snoc, getD_old _ _ _ (by rwa [weights_len])]
      rw [e1, e2]
      exact ih i
    · by_cases h2 : i = a.length
      · rw [getD_new _ _ _ (by rwa [points_len])]
        have e1 : reachB (a ++ [s]) i = fun l => Kh373.reach1 (Kh373.reaches a l) (mineL a s l) s := funext fun l => by
          show (Kh373.reaches (a ++ [s]) l).getD i 0 = _
          rw [reaches_snoc, getD_new _ _ _ (by rwa [reaches_len])]
        have e2 : heavyN (a ++ [s]) i = 20 * Kh371.weigh (Kh371.weights a) s - 10 := by
          unfold heavyN
          rw [weights_snoc, getD_new _ _ _ (by rwa [weights_len])]
        rw [e1, e2]
        refine G3.of (place_rel (u := bOps) (qs := (List.range a.length).map fun i => ⟨bnAt a i, bnAt a i, bnAt a i⟩) (ms := (List.range 4).map fun j => ⟨b1 (Kh373.lettersOf a + j), 0⟩) b_rel (fun j => ?_) (fun j => ?_) s) (place_le _ _ s (Kh373.reaches a) (Kh371.weights a) (mineL a s) (fun j => ?_) (fun j hj => ?_) (fun j hj => (h.weights j (hs.args j hj)).1) (num_ok hs.num))
        · rw [getD_map_range]
          have g := ih j
          by_cases hj : j < a.length
          · rw [if_pos hj]
            exact ⟨g.x, g.y, g.w⟩
          · rw [if_neg hj, getD_out _ _ (by rw [points_len]; omega)]
            exact ⟨G3.zero.x, G3.zero.y, G3.zero.w⟩
        · rw [getD_map_range]
          by_cases h4 : Kh373.lettersOf a + j < 4
          · rw [if_pos (show j < 4 by omega), List.getD_eq_getElem?_getD, List.getElem?_drop, ← List.getD_eq_getElem?_getD, lets_get _ h4]
            exact G.letter
          · rw [List.getD_eq_getElem?_getD, List.getElem?_drop, ← List.getD_eq_getElem?_getD, getD_out _ _ (show lets.length ≤ _ by show 4 ≤ _; omega)]
            by_cases hj : j < 4
            · rw [if_pos hj]
              exact G.zero.mono (fun _ => Nat.zero_le _) (Nat.zero_le _)
            · rw [if_neg hj]
              exact G.zero
        · rw [getD_map_range]
          by_cases hj : j < a.length
          · rw [if_pos hj]
            rfl
          · rw [if_neg hj]
            have e1 : ∀ l, (Kh373.reaches a l).getD j 0 = 0 := fun l => getD_out _ _ (by rw [reaches_len]; omega)
            have e2 : (Kh371.weights a).getD j 0 = 0 := getD_out _ _ (by rw [weights_len]; omega)
            rw [e2]
            simp only [e1]
            rfl
        · have t4 : takes s ≤ 2 := by cases s <;> simp [takes]
          rw [getD_map_range, if_pos (show j < 4 by omega)]
          refine ⟨fun l => ?_, rfl⟩
          show (if l = Kh373.lettersOf a + j then 1 else 0) ≤ if mineL a s l = true then 1 else 0
          by_cases e : l = Kh373.lettersOf a + j
          · rw [if_pos e, if_pos]
            · exact Nat.le_refl _
            · unfold mineL
              exact decide_eq_true (by omega)
          · rw [if_neg e]
            exact Nat.zero_le _
      · rw [getD_out _ _ (by rw [List.length_append, points_len]; show _ + 1 ≤ _; omega)]
        exact ⟨G3.zero.x.mono (fun _ => Nat.zero_le _) (Nat.zero_le _), G3.zero.y.mono (fun _ => Nat.zero_le _) (Nat.zero_le _), G3.zero.w.mono (fun _ => Nat.zero_le _) (Nat.zero_le _)⟩
end Su
end
section
set_option Elab.async false
set_option linter.all false
namespace Su
open Kh370 (Poly Term)
open Kh374 (Ops Tri Fig)
/-! ### The program's dicts: pairs of a key and a number, in the order in which keys came -/
theorem nodup_one {A : Type} (x : A) : [x].Nodup := List.nodup_cons.mpr ⟨List.not_mem_nil, List.nodup_nil⟩
def get : Raw → Int → Option Int
  | [], _ => none
  | t :: r, k => if t.1 = k then some t.2 else get r k
def has (d : Raw) (k : Int) : Bool := d.any fun t => decide (t.1 = k)
def put (d : Raw) (k v : Int) : Raw := if has d k = true then d.map (fun t => if t.1 = k then (t.1, v) else t) else d ++ [(k, v)]
def bump (d : Raw) (k v : Int) : Raw := put d k ((get d k).getD 0 + v)
def Nd (d : Raw) : Prop := (d.map (·.1)).Nodup
theorem Nd.nil : Nd [] := List.nodup_nil
theorem Nd.tail {t : Int × Int} {d : Raw} (h : Nd (t :: d)) : Nd d := (List.nodup_cons.mp h).2
theorem Nd.head {t : Int × Int} {d : Raw} (h : Nd (t :: d)) : ∀ u ∈ d, u.1 ≠ t.1 := fun u hu e => (List.nodup_cons.mp h).1 (List.mem_map.mpr ⟨u, hu, e⟩)
theorem has_iff {d : Raw} {k : Int} : has d k = true ↔ ∃ t ∈ d, t.1 = k := by
  unfold has
  rw [List.any_eq_true]
  constructor
  · rintro ⟨t, ht, e⟩
    exact ⟨t, ht, of_decide_eq_true e⟩
  · rintro ⟨t, ht, e⟩
    exact ⟨t, ht, decide_eq_true e⟩
theorem get_none {d : Raw} {k : Int} (h : ∀ t ∈ d, t.1 ≠ k) : get d k = none := by
  induction d with
  | nil => rfl
  | cons t r ih =>
    unfold get
    rw [if_neg (h t List.mem_cons_self)]
    exact ih fun u hu => h u (List.mem_cons_of_mem _ hu)
theorem coef_none {d : Raw} {k : Int} (h : ∀ t ∈ d, t.1 ≠ k) : coef d k = 0 := by
  induction d with
  | nil => rfl
  | cons t r ih =>
    rw [coef_cons, if_neg (h t List.mem_cons_self), ih fun u hu => h u (List.mem_cons_of_mem _ hu)]
    rfl
theorem get_coef {d : Raw} (h : Nd d) (k : Int) : (get d k).getD 0 = coef d k := by
  induction d with
  | nil => rfl
  | cons t r ih =>
    unfold get
    rw [coef_cons]
    by_cases e : t.1 = k
    · rw [if_pos e, if_pos e, coef_none fun u hu => e ▸ h.head u hu]
      show t.2 = t.2 + 0
      omega
    · rw [if_neg e, if_neg e, ih h.tail]
      omega
theorem put_keys (d : Raw) (k v : Int) : (put d k v).map (·.1) = if has d k = true then d.map (·.1) else d.map (·.1) ++ [k] := by
  unfold put
  by_cases h : has d k = true
  · rw [if_pos h, if_pos h, List.map_map]
    refine List.map_congr_left fun t _ => ?_
    show (if t.1 = k then (t.1, v) else t).1 = t.1
    split <;> rfl
  · rw [if_neg h, if_neg h, List.map_append]
    rfl
theorem put_nd {d : Raw} (h : Nd d) (k v : Int) : Nd (put d k v) := by
  unfold Nd
  rw [put_keys]
  by_cases e : has d k = true
  · rw [if_pos e]
    exact h
  · rw [if_neg e, List.nodup_append]
    refine ⟨h, nodup_one k, fun x hx y hy => ?_⟩
    rw [List.mem_singleton] at hy
    rw [hy]
    intro exy
    rw [exy] at hx
    obtain ⟨t, ht, et⟩ := List.mem_map.mp hx
    exact e (has_iff.mpr ⟨t, ht, et⟩)
theorem coef_put_map {d : Raw} (h : Nd d) (k v j : Int) (hk : ∃ t ∈ d, t.1 = k) : coef (d.map fun t => if t.1 = k then (t.1, v) else t) j = if k = j then v else coef d j := by
  induction d with
  | nil =>
    obtain ⟨t, ht, _⟩ := hk
    exact absurd ht List.not_mem_nil
  | cons t r ih =>
    rw [List.map_cons, coef_cons, coef_cons]
    by_cases e : t.1 = k
    · have hr : r.map (fun t => if t.1 = k then (t.1, v) else t) = r := by
        conv => rhs; rw [← List.map_id r]
        refine List.map_congr_left fun u hu => ?_
        rw [if_neg (e ▸ h.head u hu)]
        rfl
      rw [if_pos e, hr]
      by_cases f : k = j
      · rw [if_pos (show (t.1, v).1 = j from e.trans f), if_pos f, coef_none fun u hu => f ▸ e ▸ h.head u hu]
        show v + 0 = v
        omega
      · rw [if_neg (show ¬ (t.1, v).1 = j from fun z => f (e.symm.trans z)), if_neg f, if_neg (fun z => f (e.symm.trans z))]
    · rw [if_neg e, ih h.tail]
      · by_cases f : k = j
        · rw [if_pos f, if_pos f, if_neg (fun z => e (z.trans f.symm))]
          omega
        · rw [if_neg f, if_neg f]
      · obtain ⟨u, hu, eu⟩ := hk
        rcases List.mem_cons.mp hu with rfl | hu
        · exact absurd eu e
        · exact ⟨u, hu, eu⟩
theorem coef_put {d : Raw} (h : Nd d) (k v j : Int) : coef (put d k v) j = if k = j then v else coef d j := by
  unfold put
  by_cases e : has d k = true
  · rw [if_pos e]
    exact coef_put_map h k v j (has_iff.mp e)
  · rw [if_neg e, coef_append, coef_cons, coef_nil]
    by_cases f : k = j
    · rw [if_pos f, if_pos f, coef_none fun u hu z => e (has_iff.mpr ⟨u, hu, z.trans f.symm⟩)]
      omega
    · rw [if_neg f, if_neg f]
      omega
theorem coef_bump {d : Raw} (h : Nd d) (k v j : Int) : coef (bump d k v) j = coef d j + if k = j then v else 0 := by
  unfold bump
  rw [coef_put h, get_coef h]
  by_cases f : k = j
  · rw [if_pos f, if_pos f, f]
  · rw [if_neg f, if_neg f]
    omega
theorem bump_nd {d : Raw} (h : Nd d) (k v : Int) : Nd (bump d k v) := put_nd h _ _
/-! ### The defs of the sums -/
def noNought (d : Raw) : Raw := d.foldl (fun kept u => if u.2 ≠ 0 then put kept u.1 u.2 else kept) []
def plusT (f g : Raw) : Raw := g.foldl (fun t u => bump t u.1 u.2) f
def lessT (f g : Raw) : Raw := g.foldl (fun t u => bump t u.1 (-u.2)) f
def rowT (x : Int × Int) (t g : Raw) : Raw := g.foldl (fun t u => bump t (x.1 + u.1) (x.2 * u.2)) t
def timesT (f g : Raw) : Raw := f.foldl (fun t x => rowT x t g) []
def mPlus (f g : Raw) : Raw := noNought (plusT f g)
def mLess (f g : Raw) : Raw := noNought (lessT f g)
def mTimes (f g : Raw) : Raw := noNought (timesT f g)
def mConst (c : Int) : Raw := if c = 0 then [] else [(0, c)]
theorem noNought_go {d acc : Raw} (h : Nd (acc ++ d)) : d.foldl (fun kept u => if u.2 ≠ 0 then put kept u.1 u.2 else kept) acc = acc ++ d.filter fun u => decide (u.2 ≠ 0) := by
  induction d generalizing acc with
  | nil => simp
  | cons t r ih =>
    rw [List.foldl_cons]
    have hh : has acc t.1 = false := by
      rw [Bool.eq_false_iff]
      intro z
      obtain ⟨u, hu, e⟩ := has_iff.mp z
      unfold Nd at h
      rw [List.map_append, List.nodup_append] at h
      exact h.2.2 u.1 (List.mem_map_of_mem hu) t.1 (List.mem_map_of_mem List.mem_cons_self) e
    by_cases z : t.2 ≠ 0
    · have ep : put acc t.1 t.2 = acc ++ [t] := by
        unfold put
        rw [hh]
        rfl
      rw [if_pos z, ep, List.filter_cons_of_pos (p := fun u : Int × Int => decide (u.2 ≠ 0)) (decide_eq_true z), ih (by rw [List.append_assoc]; exact h), List.append_assoc]
      rfl
    · rw [if_neg z, List.filter_cons_of_neg (p := fun u : Int × Int => decide (u.2 ≠ 0)) (by simpa using z), ih]
      unfold Nd at h ⊢
      rw [List.map_append] at h ⊢
      rw [List.map_cons] at h
      exact h.sublist (List.Sublist.append_left (List.sublist_cons_self _ _) _)
theorem noNought_eq {d : Raw} (h : Nd d) : noNought d = d.filter fun u => decide (u.2 ≠ 0) := noNought_go (acc := []) h
theorem coef_filter : ∀ (d : Raw) (k : Int), coef (d.filter fun u => decide (u.2 ≠ 0)) k = coef d k
  | [], _ => rfl
  | t :: r, k => by
    by_cases z : t.2 ≠ 0
    · rw [List.filter_cons_of_pos (p := fun u : Int × Int => decide (u.2 ≠ 0)) (decide_eq_true z), coef_cons, coef_cons, coef_filter r k]
    · rw [List.filter_cons_of_neg (p := fun u : Int × Int => decide (u.2 ≠ 0)) (by simpa using z), coef_cons, coef_filter r k]
      have z' : t.2 = 0 := Decidable.not_not.mp z
      rw [z']
      split <;> omega
/-- A dict as the program keeps it: no key twice, no number 0. -/
structure Dn (d : Raw) : Prop where
  nd : Nd d
  nz : ∀ t ∈ d, t.2 ≠ 0
theorem noNought_dn {d : Raw} (h : Nd d) : Dn (noNought d) := by
  rw [noNought_eq h]
  refine ⟨?_, fun t ht => of_decide_eq_true (List.mem_filter.mp ht).2⟩
  exact List.Nodup.sublist (List.Sublist.map _ List.filter_sublist) h
theorem cls_noNought {d : Raw} (h : Nd d) : cls (noNought d) = cls d := cls_eq fun k => by
  rw [noNought_eq h, coef_filter]
theorem plusT_ok : ∀ (g f : Raw), Nd f → Nd (plusT f g) ∧ ∀ k, coef (plusT f g) k = coef f k + coef g k
  | [], f, h => ⟨h, fun k => by
    show coef f k = coef f k + 0
    omega⟩
  | u :: r, f, h => by
    have ih := plusT_ok r (bump f u.1 u.2) (bump_nd h _ _)
    refine ⟨ih.1, fun k => ?_⟩
    show coef (plusT (bump f u.1 u.2) r) k = _
    rw [ih.2, coef_bump h, coef_cons]
    omega
theorem lessT_ok : ∀ (g f : Raw), Nd f → Nd (lessT f g) ∧ ∀ k, coef (lessT f g) k = coef f k - coef g k
  | [], f, h => ⟨h, fun k => by
    show coef f k = coef f k - 0
    omega⟩
  | u :: r, f, h => by
    have ih := lessT_ok r (bump f u.1 (-u.2)) (bump_nd h _ _)
    refine ⟨ih.1, fun k => ?_⟩
    show coef (lessT (bump f u.1 (-u.2)) r) k = _
    rw [ih.2, coef_bump h, coef_cons]
    split <;> omega
theorem rowT_ok (x : Int × Int) : ∀ (g t : Raw), Nd t → Nd (rowT x t g) ∧ ∀ k, coef (rowT x t g) k = coef t k + x.2 * coef g (k - x.1)
  | [], t, h => ⟨h, fun k => by
    show coef t k = coef t k + x.2 * 0
    omega⟩
  | u :: r, t, h => by
    have ih := rowT_ok x r (bump t (x.1 + u.1) (x.2 * u.2)) (bump_nd h _ _)
    refine ⟨ih.1, fun k => ?_⟩
    show coef (rowT x (bump t (x.1 + u.1) (x.2 * u.2)) r) k = _
    rw [ih.2, coef_bump h, coef_cons, Int.mul_add]
    by_cases e : x.1 + u.1 = k
    · rw [if_pos e, if_pos (by omega)]
      omega
    · rw [if_neg e, if_neg (by omega), Int.mul_zero]
      omega
theorem timesT_go (g : Raw) : ∀ (f t : Raw), Nd t → Nd (f.foldl (fun t x => rowT x t g) t) ∧ ∀ k, coef (f.foldl (fun t x => rowT x t g) t) k = coef t k + coef (rmul f g) k
  | [], t, h => ⟨h, fun k => by
    show coef t k = coef t k + 0
    omega⟩
  | x :: r, t, h => by
    have h1 := rowT_ok x g t h
    have ih := timesT_go g r (rowT x t g) h1.1
    refine ⟨ih.1, fun k => ?_⟩
    rw [List.foldl_cons, ih.2, h1.2, coef_rmul_cons]
    omega
theorem timesT_ok (f g : Raw) : Nd (timesT f g) ∧ ∀ k, coef (timesT f g) k = coef (rmul f g) k := by
  have h := timesT_go g f [] Nd.nil
  refine ⟨h.1, fun k => ?_⟩
  show coef (f.foldl (fun t x => rowT x t g) []) k = _
  rw [h.2, coef_nil]
  omega
theorem mPlus_dn {f g : Raw} (h : Nd f) : Dn (mPlus f g) := noNought_dn (plusT_ok g f h).1
theorem mLess_dn {f g : Raw} (h : Nd f) : Dn (mLess f g) := noNought_dn (lessT_ok g f h).1
theorem mTimes_dn {f g : Raw} : Dn (mTimes f g) := noNought_dn (timesT_ok f g).1
theorem mConst_dn {c : Int} : Dn (mConst c) := by
  unfold mConst
  by_cases h : c = 0
  · rw [if_pos h]
    exact ⟨Nd.nil, fun _ h => absurd h List.not_mem_nil⟩
  · rw [if_neg h]
    refine ⟨nodup_one (0 : Int), fun t ht => ?_⟩
    rw [List.mem_singleton.mp ht]
    exact h
theorem cls_mPlus {f g : Raw} (h : Nd f) : cls (mPlus f g) = cls f + cls g := by
  unfold mPlus
  rw [cls_noNought (plusT_ok g f h).1, ← cls_add]
  exact cls_eq fun k => by rw [(plusT_ok g f h).2, coef_append]
theorem cls_mLess {f g : Raw} (h : Nd f) : cls (mLess f g) = cls f - cls g := by
  unfold mLess
  rw [cls_noNought (lessT_ok g f h).1]
  show _ = cls f + -cls g
  rw [← cls_neg, ← cls_add]
  exact cls_eq fun k => by
    rw [(lessT_ok g f h).2, coef_append, coef_rneg]
    omega
theorem cls_mTimes {f g : Raw} : cls (mTimes f g) = cls f * cls g := by
  unfold mTimes
  rw [cls_noNought (timesT_ok f g).1, ← cls_mul]
  exact cls_eq (timesT_ok f g).2
theorem cls_mConst {c : Int} : cls (mConst c) = lint c := cls_eq fun k => by
  unfold mConst
  by_cases h : c = 0
  · rw [if_pos h, h]
    show (0 : Int) = (if (0 : Int) = k then 0 else 0) + 0
    split <;> rfl
  · rw [if_neg h]
end Su
end
section
set_option Elab.async false
set_option linter.all false
namespace Su
open Kh370 (Poly Term)
open Kh374 (Ops Tri Fig)
/-! ### Boxes: how many keys there can be -/
def prod4 (b : Bd) : Nat := (b 0 + 1) * ((b 1 + 1) * ((b 2 + 1) * (b 3 + 1)))
def InBox (b : Bd) (k : Int) : Prop := ∃ m : List Nat, m.length = 4 ∧ (∀ i, m.getD i 0 ≤ b i) ∧ k = pk m
def boxL (b : Bd) : List Int := (List.range (b 0 + 1)).flatMap fun x => (List.range (b 1 + 1)).flatMap fun y => (List.range (b 2 + 1)).flatMap fun z => (List.range (b 3 + 1)).map fun w => pk [x, y, z, w]
theorem len_flat {A B : Type} (f : A → List B) (c : Nat) : ∀ (l : List A), (∀ x ∈ l, (f x).length = c) → (l.flatMap f).length = l.length * c
  | [], _ => by simp
  | x :: r, h => by
    rw [List.flatMap_cons, List.length_append, len_flat f c r (fun y hy => h y (List.mem_cons_of_mem _ hy)), h x List.mem_cons_self, List.length_cons, Nat.add_mul]
    omega
theorem boxL_len (b : Bd) : (boxL b).length = prod4 b := by
  unfold boxL prod4
  rw [len_flat _ ((b 1 + 1) * ((b 2 + 1) * (b 3 + 1))) _ fun x _ => ?_, List.length_range]
  rw [len_flat _ ((b 2 + 1) * (b 3 + 1)) _ fun y _ => ?_, List.length_range]
  rw [len_flat _ (b 3 + 1) _ fun z _ => ?_, List.length_range]
  rw [List.length_map, List.length_range]
theorem boxL_mem {b : Bd} {k : Int} (h : InBox b k) : k ∈ boxL b := by
  obtain ⟨m, hm, hb, rfl⟩ := h
  obtain ⟨x, y, z, w, rfl⟩ := len4 hm
  have h0 := hb 0
  have h1 := hb 1
  have h2 := hb 2
  have h3 := hb 3
  simp only [List.getD_cons_zero, List.getD_cons_succ] at h0 h1 h2 h3
  unfold boxL
  refine List.mem_flatMap.mpr ⟨x, List.mem_range.mpr (by omega), List.mem_flatMap.mpr ⟨y, List.mem_range.mpr (by omega), List.mem_flatMap.mpr ⟨z, List.mem_range.mpr (by omega), List.mem_map.mpr ⟨w, List.mem_range.mpr (by omega), rfl⟩⟩⟩⟩
theorem nodup_len {A : Type} [DecidableEq A] : ∀ {l m : List A}, l.Nodup → (∀ x ∈ l, x ∈ m) → l.length ≤ m.length
  | [], _, _, _ => Nat.zero_le _
  | x :: r, m, h, hs => by
    have hx := hs x List.mem_cons_self
    have h' := List.nodup_cons.mp h
    have ih : r.length ≤ (m.erase x).length := nodup_len h'.2 fun y hy => by
      have hne : y ≠ x := fun e => h'.1 (e ▸ hy)
      exact (List.mem_erase_of_ne hne).mpr (hs y (List.mem_cons_of_mem _ hy))
    rw [List.length_erase_of_mem hx] at ih
    have : 0 < m.length := List.length_pos_of_mem hx
    rw [List.length_cons]
    omega
def Bx (b : Bd) (d : Raw) : Prop := ∀ t ∈ d, InBox b t.1
theorem Bx.len {b : Bd} {d : Raw} (h : Bx b d) (n : Nd d) : d.length ≤ prod4 b := by
  rw [← boxL_len, ← List.length_map (f := fun t : Int × Int => t.1)]
  refine nodup_len n fun k hk => ?_
  obtain ⟨t, ht, rfl⟩ := List.mem_map.mp hk
  exact boxL_mem (h t ht)
theorem InBox.mono {b c : Bd} {k : Int} (h : InBox b k) (hb : ∀ i, b i ≤ c i) : InBox c k := by
  obtain ⟨m, h1, h2, h3⟩ := h
  exact ⟨m, h1, fun i => Nat.le_trans (h2 i) (hb i), h3⟩
theorem InBox.add {b c : Bd} {k j : Int} (h : InBox b k) (g : InBox c j) : InBox (badd b c) (k + j) := by
  obtain ⟨m, h1, h2, rfl⟩ := h
  obtain ⟨n, g1, g2, rfl⟩ := g
  refine ⟨List.zipWith (· + ·) m n, by rw [List.length_zipWith, h1, g1]; rfl, fun i => ?_, (pk_add h1 g1).symm⟩
  rw [zip_getD h1 g1]
  exact Nat.add_le_add (h2 i) (g2 i)
theorem put_mem {d : Raw} {k v : Int} {t : Int × Int} (h : t ∈ put d k v) : t.1 = k ∨ ∃ u ∈ d, u.1 = t.1 := by
  unfold put at h
  by_cases e : has d k = true
  · rw [if_pos e] at h
    obtain ⟨u, hu, eu⟩ := List.mem_map.mp h
    by_cases f : u.1 = k
    · rw [if_pos f] at eu
      exact .inl (by rw [← eu]; exact f)
    · rw [if_neg f] at eu
      exact .inr ⟨u, hu, by rw [eu]⟩
  · rw [if_neg e] at h
    rcases List.mem_append.mp h with h | h
    · exact .inr ⟨t, h, rfl⟩
    · exact .inl (by rw [List.mem_singleton.mp h])
theorem Bx.bump {b : Bd} {d : Raw} {k v : Int} (h : Bx b d) (hk : InBox b k) : Bx b (bump d k v) := fun t ht => by
  rcases put_mem ht with e | ⟨u, hu, e⟩
  · rw [e]
    exact hk
  · rw [← e]
    exact h u hu
theorem Bx.plusT {b : Bd} : ∀ {g f : Raw}, Bx b f → Bx b g → Bx b (plusT f g)
  | [], f, hf, _ => hf
  | u :: r, f, hf, hg => Bx.plusT (g := r) (hf.bump (hg u List.mem_cons_self)) fun t ht => hg t (List.mem_cons_of_mem _ ht)
theorem Bx.lessT {b : Bd} : ∀ {g f : Raw}, Bx b f → Bx b g → Bx b (lessT f g)
  | [], f, hf, _ => hf
  | u :: r, f, hf, hg => Bx.lessT (g := r) (hf.bump (hg u List.mem_cons_self)) fun t ht => hg t (List.mem_cons_of_mem _ ht)
theorem Bx.rowT {b c e : Bd} {x : Int × Int} (hx : InBox b x.1) (he : ∀ i, badd b c i ≤ e i) : ∀ {g t : Raw}, Bx e t → Bx c g → Bx e (rowT x t g)
  | [], t, ht, _ => ht
  | u :: r, t, ht, hg => Bx.rowT hx he (g := r) (ht.bump ((hx.add (hg u List.mem_cons_self)).mono he)) fun t ht => hg t (List.mem_cons_of_mem _ ht)
theorem Bx.timesGo {b c e : Bd} {g : Raw} (hg : Bx c g) (he : ∀ i, badd b c i ≤ e i) : ∀ {f t : Raw}, Bx e t → Bx b f → Bx e (f.foldl (fun t x => Su.rowT x t g) t)
  | [], t, ht, _ => ht
  | x :: r, t, ht, hf => Bx.timesGo hg he (f := r) (Bx.rowT (hf x List.mem_cons_self) he ht hg) fun t ht => hf t (List.mem_cons_of_mem _ ht)
theorem Bx.timesT {b c : Bd} {f g : Raw} (hf : Bx b f) (hg : Bx c g) : Bx (badd b c) (timesT f g) := Bx.timesGo hg (fun _ => Nat.le_refl _) (fun _ h => absurd h List.not_mem_nil) hf
theorem Bx.mono {b c : Bd} {d : Raw} (h : Bx b d) (hb : ∀ i, b i ≤ c i) : Bx c d := fun t ht => (h t ht).mono hb
/-! ### How great the numbers are -/
def nrmD (d : Raw) : Nat := (d.map fun t => t.2.natAbs).sum
theorem nrmD_cons (t : Int × Int) (d : Raw) : nrmD (t :: d) = t.2.natAbs + nrmD d := rfl
theorem nrmD_append (a b : Raw) : nrmD (a ++ b) = nrmD a + nrmD b := by
  unfold nrmD
  rw [List.map_append, List.sum_append]
theorem nrmD_put {d : Raw} (h : Nd d) (k v : Int) : nrmD (d.map fun t => if t.1 = k then (t.1, (get d k).getD 0 + v) else t) ≤ nrmD d + v.natAbs := by
  induction d with
  | nil => exact Nat.zero_le _
  | cons t r ih =>
    rw [List.map_cons, nrmD_cons, nrmD_cons]
    by_cases e : t.1 = k
    · have hr : r.map (fun u => if u.1 = k then (u.1, (get (t :: r) k).getD 0 + v) else u) = r := by
        conv => rhs; rw [← List.map_id r]
        refine List.map_congr_left fun u hu => ?_
        rw [if_neg (e ▸ h.head u hu)]
        rfl
      rw [hr]
      have eg : get (t :: r) k = some t.2 := if_pos e
      rw [if_pos e, eg]
      have : (t.2 + v).natAbs ≤ t.2.natAbs + v.natAbs := Int.natAbs_add_le _ _
      show (t.2 + v).natAbs + nrmD r ≤ _
      omega
    · have eg : get (t :: r) k = get r k := if_neg e
      rw [if_neg e, eg]
      have := ih h.tail
      omega
theorem nrmD_bump {d : Raw} (h : Nd d) (k v : Int) : nrmD (bump d k v) ≤ nrmD d + v.natAbs := by
  unfold bump put
  by_cases e : has d k = true
  · rw [if_pos e]
    exact nrmD_put h k v
  · rw [if_neg e, nrmD_append]
    have : get d k = none := get_none fun t ht z => e (has_iff.mpr ⟨t, ht, z⟩)
    rw [this]
    show _ + ((0 + v).natAbs + 0) ≤ _
    rw [Int.zero_add]
    omega
theorem nrmD_plusT : ∀ (g : Raw) {f : Raw}, Nd f → nrmD (plusT f g) ≤ nrmD f + nrmD g
  | [], f, _ => Nat.le_refl _
  | u :: r, f, h => by
    have h1 := nrmD_plusT r (bump_nd h u.1 u.2)
    have h2 := nrmD_bump h u.1 u.2
    show nrmD (plusT (bump f u.1 u.2) r) ≤ _
    rw [nrmD_cons]
    omega
theorem nrmD_lessT : ∀ (g : Raw) {f : Raw}, Nd f → nrmD (lessT f g) ≤ nrmD f + nrmD g
  | [], f, _ => Nat.le_refl _
  | u :: r, f, h => by
    have h1 := nrmD_lessT r (bump_nd h u.1 (-u.2))
    have h2 := nrmD_bump h u.1 (-u.2)
    rw [Int.natAbs_neg] at h2
    show nrmD (lessT (bump f u.1 (-u.2)) r) ≤ _
    rw [nrmD_cons]
    omega
theorem nrmD_rowT (x : Int × Int) : ∀ (g : Raw) {t : Raw}, Nd t → nrmD (rowT x t g) ≤ nrmD t + x.2.natAbs * nrmD g
  | [], t, _ => Nat.le_add_right _ _
  | u :: r, t, h => by
    have h1 := nrmD_rowT x r (bump_nd h (x.1 + u.1) (x.2 * u.2))
    have h2 := nrmD_bump h (x.1 + u.1) (x.2 * u.2)
    rw [Int.natAbs_mul] at h2
    show nrmD (rowT x (bump t (x.1 + u.1) (x.2 * u.2)) r) ≤ _
    rw [nrmD_cons, Nat.mul_add]
    omega
theorem nrmD_timesGo (g : Raw) : ∀ (f : Raw) {t : Raw}, Nd t → nrmD (f.foldl (fun t x => rowT x t g) t) ≤ nrmD t + nrmD f * nrmD g
  | [], t, _ => Nat.le_add_right _ _
  | x :: r, t, h => by
    have h1 := nrmD_timesGo g r (rowT_ok x g t h).1
    have h2 := nrmD_rowT x g h
    rw [List.foldl_cons, nrmD_cons, Nat.add_mul]
    omega
theorem nrmD_timesT (f g : Raw) : nrmD (timesT f g) ≤ nrmD f * nrmD g := by
  have := nrmD_timesGo g f Nd.nil
  have e : nrmD [] = 0 := rfl
  rw [e] at this
  show nrmD (f.foldl (fun t x => rowT x t g) []) ≤ _
  omega
theorem nrmD_filter : ∀ (d : Raw), nrmD (d.filter fun u => decide (u.2 ≠ 0)) ≤ nrmD d
  | [] => Nat.le_refl _
  | t :: r => by
    have := nrmD_filter r
    by_cases z : t.2 ≠ 0
    · rw [List.filter_cons_of_pos (p := fun u : Int × Int => decide (u.2 ≠ 0)) (decide_eq_true z), nrmD_cons, nrmD_cons]
      omega
    · rw [List.filter_cons_of_neg (p := fun u : Int × Int => decide (u.2 ≠ 0)) (by simpa using z), nrmD_cons]
      omega
theorem nrmD_mem {d : Raw} {t : Int × Int} (h : t ∈ d) : t.2.natAbs ≤ nrmD d := by
  induction d with
  | nil => exact absurd h List.not_mem_nil
  | cons u r ih =>
    rw [nrmD_cons]
    rcases List.mem_cons.mp h with rfl | h
    · omega
    · have := ih h
      omega
/-- **A dict within a box, its numbers below a power of two** -/
structure GD (b : Bd) (n : Nat) (d : Raw) : Prop where
  dn : Dn d
  bx : Bx b d
  z : nrmD d ≤ 2 ^ n
theorem GD.mono {b c : Bd} {n m : Nat} {d : Raw} (h : GD b n d) (hb : ∀ i, b i ≤ c i) (hn : n ≤ m) : GD c m d := ⟨h.dn, h.bx.mono hb, Nat.le_trans h.z (pow2_le hn)⟩
theorem noNought_mem {d : Raw} (h : Nd d) {t : Int × Int} (ht : t ∈ noNought d) : t ∈ d := by
  rw [noNought_eq h] at ht
  exact (List.mem_filter.mp ht).1
theorem GD.of {b : Bd} {n : Nat} {d : Raw} (h : Nd d) (hb : Bx b d) (hz : nrmD d ≤ 2 ^ n) : GD b n (noNought d) := by
  refine ⟨noNought_dn h, fun t ht => hb t (noNought_mem h ht), ?_⟩
  rw [noNought_eq h]
  exact Nat.le_trans (nrmD_filter d) hz
theorem bmax_l {b c : Bd} (i : Nat) : b i ≤ bmax b c i := by
  show b i ≤ max (b i) (c i)
  omega
theorem bmax_r {b c : Bd} (i : Nat) : c i ≤ bmax b c i := by
  show c i ≤ max (b i) (c i)
  omega
theorem two_max {n m x y : Nat} (hx : x ≤ 2 ^ n) (hy : y ≤ 2 ^ m) : x + y ≤ 2 ^ (max n m + 1) := by
  have h4 : 2 ^ n ≤ 2 ^ (max n m) := pow2_le (by omega)
  have h5 : 2 ^ m ≤ 2 ^ (max n m) := pow2_le (by omega)
  rw [Nat.pow_succ]
  omega
theorem GD.plus {b c : Bd} {n m : Nat} {f g : Raw} (hf : GD b n f) (hg : GD c m g) : GD (bmax b c) (max n m + 1) (mPlus f g) :=
  GD.of (plusT_ok g f hf.dn.nd).1 (Bx.plusT (hf.bx.mono bmax_l) (hg.bx.mono bmax_r)) (Nat.le_trans (nrmD_plusT g hf.dn.nd) (two_max hf.z hg.z))
theorem GD.less {b c : Bd} {n m : Nat} {f g : Raw} (hf : GD b n f) (hg : GD c m g) : GD (bmax b c) (max n m + 1) (mLess f g) :=
  GD.of (lessT_ok g f hf.dn.nd).1 (Bx.lessT (hf.bx.mono bmax_l) (hg.bx.mono bmax_r)) (Nat.le_trans (nrmD_lessT g hf.dn.nd) (two_max hf.z hg.z))
theorem GD.times {b c : Bd} {n m : Nat} {f g : Raw} (hf : GD b n f) (hg : GD c m g) : GD (badd b c) (n + m) (mTimes f g) := by
  refine GD.of (timesT_ok f g).1 (Bx.timesT hf.bx hg.bx) (Nat.le_trans (nrmD_timesT f g) ?_)
  rw [Nat.pow_add]
  exact Nat.mul_le_mul hf.z hg.z
theorem GD.const {c : Int} {n : Nat} (h : c.natAbs ≤ 2 ^ n) : GD b0 n (mConst c) := by
  refine ⟨mConst_dn, ?_, ?_⟩ <;> unfold mConst <;> by_cases e : c = 0
  · rw [if_pos e]
    exact fun t ht => absurd ht List.not_mem_nil
  · rw [if_neg e]
    intro t ht
    rw [List.mem_singleton.mp ht]
    refine ⟨[0, 0, 0, 0], rfl, fun i => ?_, by simp [pk]⟩
    match i with
    | 0 => exact Nat.le_refl _
    | 1 => exact Nat.le_refl _
    | 2 => exact Nat.le_refl _
    | 3 => exact Nat.le_refl _
    | i + 4 => exact Nat.le_refl _
  · rw [if_pos e]
    exact Nat.zero_le _
  · rw [if_neg e]
    show c.natAbs + 0 ≤ _
    omega
/-! ### The dicts' operations, as the two readings have them -/
def dOps : Ops Raw := ⟨mPlus, mLess, mTimes, mConst⟩
def RingD (d : Raw) (v : L) : Prop := Dn d ∧ cls d = v
theorem ringD_rel : RelOps dOps ringOps RingD where
  add := fun h1 h2 => ⟨mPlus_dn h1.1.nd, by rw [← h1.2, ← h2.2]; exact cls_mPlus h1.1.nd⟩
  less := fun h1 h2 => ⟨mLess_dn h1.1.nd, by rw [← h1.2, ← h2.2]; exact cls_mLess h1.1.nd⟩
  times := fun h1 h2 => ⟨mTimes_dn, by rw [← h1.2, ← h2.2]; exact cls_mTimes⟩
  number := fun c => ⟨mConst_dn, cls_mConst⟩
def BD (d : Raw) (v : Bn) : Prop := GD v.b v.n d
theorem bD_rel : RelOps dOps bOps BD where
  add := fun h1 h2 => GD.plus h1 h2
  less := fun h1 h2 => GD.less h1 h2
  times := fun h1 h2 => GD.times h1 h2
  number := fun c => GD.const (bits_ok c)
/-! ### A dict and the specification's sum that have the same numbers are the same terms -/
theorem pk_inj {m n : List Nat} (hm : m.length = 4) (hn : n.length = 4) (bm : ∀ i, m.getD i 0 < 1000) (bn : ∀ i, n.getD i 0 < 1000) (e : pk m = pk n) : m = n := by
  obtain ⟨a, b, c, d, rfl⟩ := len4 hm
  obtain ⟨x, y, z, w, rfl⟩ := len4 hn
  have h0 := bm 0
  have h1 := bm 1
  have h2 := bm 2
  have h3 := bm 3
  have g0 := bn 0
  have g1 := bn 1
  have g2 := bn 2
  have g3 := bn 3
  simp only [List.getD_cons_zero, List.getD_cons_succ, pk] at *
  have e0 : a = x := by omega
  have e1 : b = y := by omega
  have e2 : c = z := by omega
  have e3 : d = w := by omega
  rw [e0, e1, e2, e3]
theorem pk_ahead {m n : List Nat} (hm : m.length = 4) (hn : n.length = 4) (bm : ∀ i, m.getD i 0 < 1000) (bn : ∀ i, n.getD i 0 < 1000) (h : Kh370.ahead m n = true) : pk n < pk m := by
  obtain ⟨a, b, c, d, rfl⟩ := len4 hm
  obtain ⟨x, y, z, w, rfl⟩ := len4 hn
  have h0 := bm 0
  have h1 := bm 1
  have h2 := bm 2
  have h3 := bm 3
  have g0 := bn 0
  have g1 := bn 1
  have g2 := bn 2
  have g3 := bn 3
  simp only [List.getD_cons_zero, List.getD_cons_succ, pk] at *
  simp only [Kh370.ahead] at h
  split at h
  · split at h
    · split at h
      · split at h
        · simp at h
        · have := of_decide_eq_true h
          omega
      · have := of_decide_eq_true h
        omega
    · have := of_decide_eq_true h
      omega
  · have := of_decide_eq_true h
    omega
theorem mem_coef {d : Raw} (h : Dn d) (t : Int × Int) : t ∈ d ↔ coef d t.1 = t.2 ∧ t.2 ≠ 0 := by
  obtain ⟨hn, hz⟩ := h
  induction d with
  | nil =>
    constructor
    · intro h
      exact absurd h List.not_mem_nil
    · rintro ⟨h, g⟩
      exact absurd h.symm g
  | cons u r ih =>
    have ih := ih hn.tail fun v hv => hz v (List.mem_cons_of_mem _ hv)
    rw [List.mem_cons, ih, coef_cons]
    by_cases e : u.1 = t.1
    · have cr : coef r t.1 = 0 := coef_none fun v hv => e ▸ hn.head v hv
      rw [if_pos e, cr]
      constructor
      · rintro (rfl | ⟨h, g⟩)
        · exact ⟨by omega, hz t List.mem_cons_self⟩
        · exact absurd h.symm g
      · rintro ⟨h, g⟩
        exact .inl (Prod.ext e.symm (by omega))
    · rw [if_neg e]
      constructor
      · rintro (rfl | ⟨h, g⟩)
        · exact absurd rfl e
        · exact ⟨by omega, g⟩
      · rintro ⟨h, g⟩
        exact .inr ⟨by omega, g⟩
theorem raw_keys (p : Poly) : (raw p).map (·.1) = p.map fun t => pk t.2 := by
  induction p with
  | nil => rfl
  | cons t r ih =>
    have e : raw (t :: r) = (pk t.2, t.1) :: raw r := List.map_cons
    rw [e, List.map_cons, List.map_cons, ih]
theorem raw_dn {b : Bd} {n : Nat} {p : Poly} (h : G b n p) (hb : ∀ i, b i < 1000) : Dn (raw p) := by
  refine ⟨?_, fun t ht => ?_⟩
  · unfold Nd
    rw [raw_keys, List.nodup_iff_pairwise_ne, List.pairwise_map]
    refine List.Pairwise.imp_of_mem ?_ h.s.1
    intro t u ht hu ha e
    have e2 := pk_inj (h.w t ht) (h.w u hu) (fun i => Nat.lt_of_le_of_lt (h.d t ht i) (hb i)) (fun i => Nat.lt_of_le_of_lt (h.d u hu i) (hb i)) e
    rw [e2, ahead_irrefl] at ha
    cases ha
  · obtain ⟨u, hu, rfl⟩ := List.mem_map.mp ht
    exact h.s.2 u hu
theorem dn_nodup {d : Raw} (h : Dn d) : d.Nodup := List.Pairwise.of_map (fun t : Int × Int => t.1) (fun a b hab e => hab (by rw [e])) h.nd
/-- **The dict holds just the sum's terms.** -/
theorem rep_of {b : Bd} {n : Nat} {p : Poly} {d : Raw} (h : G b n p) (hb : ∀ i, b i < 1000) (hd : Dn d) (e : cls d = pc p) : d.Perm (raw p) := by
  have hp := raw_dn h hb
  rw [List.perm_ext_iff_of_nodup (dn_nodup hd) (dn_nodup hp)]
  intro t
  rw [mem_coef hd, mem_coef hp, eq_cls e t.1]
/-- the keys, from above, are the sum's in order -/
theorem raw_desc {b : Bd} {n : Nat} {p : Poly} (h : G b n p) (hb : ∀ i, b i < 1000) : ((raw p).map (·.1)).Pairwise (· > ·) := by
  rw [raw_keys, List.pairwise_map]
  refine List.Pairwise.imp_of_mem ?_ h.s.1
  intro t u ht hu ha
  exact pk_ahead (h.w t ht) (h.w u hu) (fun i => Nat.lt_of_le_of_lt (h.d t ht i) (hb i)) (fun i => Nat.lt_of_le_of_lt (h.d u hu i) (hb i)) ha
theorem rep_nil {p : Poly} {d : Raw} (h : d.Perm (raw p)) : d = [] ↔ p = [] := by
  have e := h.length_eq
  have e2 : (raw p).length = p.length := List.length_map _
  constructor
  · rintro rfl
    exact List.length_eq_zero_iff.mp (by rw [← e2, ← e]; rfl)
  · rintro rfl
    exact List.length_eq_zero_iff.mp e
end Su
end
section
set_option Elab.async false
set_option linter.all false
namespace Su
open Kh370 (Poly Term)
open Kh374 (Ops Tri Fig)
/-! ### Grids -/
theorem many4 (n : Nat) (f : Nat → Nat) (hn : n ≤ 4) (hz : ∀ x, n ≤ x → f x = 0) : Kh373.many ((List.range n).map f) = prod4 f := by
  unfold Kh373.many prod4
  rw [List.map_map]
  match n, hn with
  | 0, _ => simp [hz]
  | 1, _ => simp [List.range_succ, hz]
  | 2, _ => simp [List.range_succ, hz]
  | 3, _ => simp [List.range_succ, hz, Nat.mul_assoc]
  | 4, _ => simp [List.range_succ, Nat.mul_assoc]
theorem gridAt_many {a : Fig} (h : Kh373.lettersOf a ≤ 4) (p : Nat) : Kh373.many (Kh373.gridAt a p) = prod4 (reachB a p) := many4 _ _ h fun x hx => reaches_zero hx p
def sayB (a : Fig) (k : Nat) (l : List Nat) : Bd := fun x => Kh373.sayReach k ((Kh373.pointsIn k l).map fun p => (Kh373.reaches a x).getD p 0)
theorem sayReach_zero (k : Nat) (d : List Nat) (h : ∀ x ∈ d, x = 0) : Kh373.sayReach k d = 0 := by
  have g : ∀ i, d.getD i 0 = 0 := fun i => by
    rw [List.getD_eq_getElem?_getD]
    cases e : d[i]? with
    | none => rfl
    | some x => exact h x (List.mem_of_getElem? e)
  unfold Kh373.sayReach
  simp only [g]
  split <;> rfl
theorem gridOf_many {a : Fig} (h : Kh373.lettersOf a ≤ 4) (k : Nat) (l : List Nat) : Kh373.many (Kh373.gridOf a k l) = prod4 (sayB a k l) := many4 _ _ h fun x hx => sayReach_zero _ _ fun y hy => by
  obtain ⟨p, _, rfl⟩ := List.mem_map.mp hy
  exact reaches_zero hx p
theorem prod4_mono {b c : Bd} (h : ∀ i, b i ≤ c i) : prod4 b ≤ prod4 c :=
  Nat.mul_le_mul (Nat.succ_le_succ (h 0)) (Nat.mul_le_mul (Nat.succ_le_succ (h 1)) (Nat.mul_le_mul (Nat.succ_le_succ (h 2)) (Nat.succ_le_succ (h 3))))
theorem le_prod4 (b : Bd) (i : Nat) (hi : i < 4) : b i + 1 ≤ prod4 b := by
  have key : ∀ x y z w : Nat, x + 1 ≤ (x + 1) * ((y + 1) * ((z + 1) * (w + 1))) ∧ y + 1 ≤ (x + 1) * ((y + 1) * ((z + 1) * (w + 1))) ∧ z + 1 ≤ (x + 1) * ((y + 1) * ((z + 1) * (w + 1))) ∧ w + 1 ≤ (x + 1) * ((y + 1) * ((z + 1) * (w + 1))) := by
    intro x y z w
    have p : ∀ m n : Nat, m + 1 ≤ (m + 1) * (n + 1) ∧ n + 1 ≤ (m + 1) * (n + 1) := fun m n => ⟨Nat.le_mul_of_pos_right _ (by omega), Nat.le_mul_of_pos_left _ (by omega)⟩
    obtain ⟨q, hq⟩ : ∃ q, (z + 1) * (w + 1) = q + 1 := ⟨(z + 1) * (w + 1) - 1, by have := (p z w).1; omega⟩
    have a1 := p z w
    rw [hq] at a1 ⊢
    obtain ⟨r, hr⟩ : ∃ r, (y + 1) * (q + 1) = r + 1 := ⟨(y + 1) * (q + 1) - 1, by have := (p y q).1; omega⟩
    have a2 := p y q
    rw [hr] at a2 ⊢
    have a3 := p x r
    exact ⟨a3.1, by omega, by omega, by omega⟩
  have k := key (b 0) (b 1) (b 2) (b 3)
  match i, hi with
  | 0, _ => exact k.1
  | 1, _ => exact k.2.1
  | 2, _ => exact k.2.2.1
  | 3, _ => exact k.2.2.2
theorem FigOk.small {a : Fig} (h : FigOk a) : ∀ i, prod4 (reachB a i) ≤ 200 := by
  induction h with
  | nil =>
    intro i
    have e : reachB [] i = fun _ => 0 := rfl
    rw [e]
    decide
  | @snoc a s h hs ih =>
    intro i
    by_cases h1 : i < a.length
    · have e1 : reachB (a ++ [s]) i = reachB a i := funext fun l => by
        show (Kh373.reaches (a ++ [s]) l).getD i 0 = _
        rw [reaches_snoc, getD_old _ _ _ (by rwa [reaches_len])]
        rfl
      rw [e1]
      exact ih i
    · by_cases h2 : i = a.length
      · rw [h2, ← gridAt_many hs.lets]
        exact hs.wide
      · have e1 : reachB (a ++ [s]) i = fun _ => 0 := funext fun l => getD_out _ _ (by rw [reaches_len, List.length_append]; show _ + 1 ≤ _; omega)
        rw [e1]
        decide
theorem lt1000 {b : Bd} (h : prod4 b ≤ 200) (z : ∀ i, 4 ≤ i → b i = 0) : ∀ i, b i < 1000 := fun i => by
  by_cases hi : i < 4
  · have := le_prod4 b i hi
    omega
  · rw [z i (by omega)]
    decide
theorem reachB_far {a : Fig} (h : Kh373.lettersOf a ≤ 4) (i : Nat) : ∀ l, 4 ≤ l → reachB a i l = 0 := fun l hl => reaches_zero (by omega) i
theorem sayB_far {a : Fig} (h : Kh373.lettersOf a ≤ 4) (k : Nat) (l : List Nat) : ∀ x, 4 ≤ x → sayB a k l x = 0 := fun x hx => sayReach_zero _ _ fun y hy => by
  obtain ⟨p, _, rfl⟩ := List.mem_map.mp hy
  exact reaches_zero (by omega) p
/-! ### How far what's left of a saying goes -/
set_option maxHeartbeats 8000000 in
theorem rest_le (k : Nat) (qs : List (Tri Bn)) (R : Nat → List Nat) (N : Nat) (m n : Int) (hm : (m * m).natAbs ≤ 1048576) (hn : (n * n).natAbs ≤ 1048576)
    (hq : ∀ i, ∃ c, c ≤ N ∧ qs.getD i ⟨bOps.number 0, bOps.number 0, bOps.number 0⟩ = ⟨⟨fun l => (R l).getD i 0, c⟩, ⟨fun l => (R l).getD i 0, c⟩, ⟨fun l => (R l).getD i 0, c⟩⟩) :
    ∀ v ∈ Kh374.rest bOps k qs m n, Le v (fun l => Kh373.sayReach k (R l)) (8 * N + 40) := by
  obtain ⟨c0, n0, q0⟩ := hq 0
  obtain ⟨c1, n1, q1⟩ := hq 1
  obtain ⟨c2, n2, q2⟩ := hq 2
  obtain ⟨c3, n3, q3⟩ := hq 3
  obtain ⟨c4, n4, q4⟩ := hq 4
  obtain ⟨c5, n5, q5⟩ := hq 5
  have bm := bits_20 hm
  have bn := bits_20 hn
  intro v hv
  match k with
  | 0 =>
    simp only [Kh374.rest, q0, q1, q2, q3, q4, q5, List.mem_cons, List.not_mem_nil, or_false] at hv
    rcases hv with rfl | rfl <;> refine ⟨fun l => ?_, ?_⟩ <;> simp only [bOps, bmax, badd, Kh373.sayReach] <;> omega
  | 1 =>
    simp only [Kh374.rest, q0, q1, q2, q3, q4, q5, List.mem_cons, List.not_mem_nil, or_false] at hv
    rcases hv with rfl
    refine ⟨fun l => ?_, ?_⟩ <;> simp only [Kh374.det, bOps, bmax, badd, Kh373.sayReach] <;> omega
  | 2 =>
    simp only [Kh374.rest, q0, q1, q2, q3, q4, q5, List.mem_cons, List.not_mem_nil, or_false] at hv
    rcases hv with rfl
    refine ⟨fun l => ?_, ?_⟩ <;> simp only [Kh374.cr, Kh374.across, Kh374.up, bOps, bmax, badd, Kh373.sayReach] <;> omega
  | 3 =>
    simp only [Kh374.rest, q0, q1, q2, q3, q4, q5, List.mem_cons, List.not_mem_nil, or_false] at hv
    rcases hv with rfl
    refine ⟨fun l => ?_, ?_⟩ <;> simp only [Kh374.dt, Kh374.across, Kh374.up, bOps, bmax, badd, Kh373.sayReach] <;> omega
  | 4 =>
    simp only [Kh374.rest, q0, q1, q2, q3, q4, q5, List.mem_cons, List.not_mem_nil, or_false] at hv
    rcases hv with rfl
    refine ⟨fun l => ?_, ?_⟩ <;> simp only [Kh374.dt, Kh374.sq, Kh374.across, Kh374.up, bOps, bmax, badd, Kh373.sayReach] <;> omega
  | 5 =>
    simp only [Kh374.rest, q0, q1, q2, q3, q4, q5, List.mem_cons, List.not_mem_nil, or_false] at hv
    rcases hv with rfl
    refine ⟨fun l => ?_, ?_⟩ <;> simp only [Kh374.dt, Kh374.sq, Kh374.across, Kh374.up, bOps, bmax, badd, b0, Kh373.sayReach] <;> omega
  | 6 =>
    simp only [Kh374.rest, q0, q1, q2, q3, q4, q5, List.mem_cons, List.not_mem_nil, or_false] at hv
    rcases hv with rfl
    refine ⟨fun l => ?_, ?_⟩ <;> simp only [Kh374.det, Kh374.sq, Kh374.square, bOps, bmax, badd, b0, Kh373.sayReach] <;> omega
  | 7 =>
    simp only [Kh374.rest, q0, q1, q2, q3, q4, q5, List.mem_cons, List.not_mem_nil, or_false] at hv
    rcases hv with rfl
    refine ⟨fun l => ?_, ?_⟩ <;> simp only [Kh374.dt, Kh374.cr, Kh374.across, Kh374.up, bOps, bmax, badd, Kh373.sayReach] <;> omega
  | 8 =>
    simp only [Kh374.rest, q0, q1, q2, q3, q4, q5, List.mem_cons, List.not_mem_nil, or_false] at hv
    rcases hv with rfl
    refine ⟨fun l => ?_, ?_⟩ <;> simp only [Kh374.det, bOps, bmax, badd, Kh373.sayReach] <;> omega
  | 9 =>
    simp only [Kh374.rest, q0, q1, q2, q3, q4, q5, List.mem_cons, List.not_mem_nil, or_false] at hv
    rcases hv with rfl
    refine ⟨fun l => ?_, ?_⟩ <;> simp only [Kh374.line, bOps, bmax, badd, Kh373.sayReach] <;> omega
  | 10 =>
    simp only [Kh374.rest, q0, q1, q2, q3, q4, q5, List.mem_cons, List.not_mem_nil, or_false] at hv
    rcases hv with rfl | rfl <;> refine ⟨fun l => ?_, ?_⟩ <;> simp only [bOps, bmax, badd, b0, bits2, Kh373.sayReach] <;> omega
  | 11 =>
    simp only [Kh374.rest, q0, q1, q2, q3, q4, q5, List.mem_cons, List.not_mem_nil, or_false] at hv
    rcases hv with rfl
    refine ⟨fun l => ?_, ?_⟩ <;> simp only [Kh374.line, Kh374.off, Kh374.dt, Kh374.sq, Kh374.across, Kh374.up, bOps, bmax, badd, Kh373.sayReach] <;> omega
  | k + 12 =>
    have er : ∀ d : List Nat, Kh373.sayReach (k + 12) d = d.getD 0 0 + d.getD 1 0 + d.getD 2 0 + d.getD 3 0 + d.getD 4 0 + d.getD 5 0 := fun d => rfl
    simp only [Kh374.rest, q0, q1, q2, q3, q4, q5, List.mem_cons, List.not_mem_nil, or_false] at hv
    rcases hv with rfl | rfl <;> refine ⟨fun l => ?_, ?_⟩ <;> simp only [Kh374.across, Kh374.up, bOps, bmax, badd, er] <;> omega
theorem LR.mem {A B : Type} {R : A → B → Prop} {l : List A} {m : List B} (h : LR R l m) : ∀ a ∈ l, ∃ b ∈ m, R a b := by
  induction h with
  | nil => exact fun a ha => absurd ha List.not_mem_nil
  | cons h1 _ ih =>
    intro a ha
    rcases List.mem_cons.mp ha with rfl | ha
    · exact ⟨_, List.mem_cons_self, h1⟩
    · obtain ⟨b, hb, r⟩ := ih a ha
      exact ⟨b, List.mem_cons_of_mem _ hb, r⟩
theorem heavyN_le {a : Fig} (h : FigOk a) (i : Nat) : heavyN a i ≤ 7990 := by
  unfold heavyN
  by_cases hi : i < a.length
  · have := (h.weights i hi).2
    omega
  · rw [getD_out _ _ (by rw [weights_len]; omega)]
    omega
/-- **What's left keeps to the saying's reach.** -/
theorem FigOk.left {a : Fig} (h : FigOk a) (k : Nat) (l : List Nat) (hl : (l.getD 4 0) ≤ 1000) (hl5 : (l.getD 5 0) ≤ 1000) : ∀ p ∈ Kh374.left a k l, G (sayB a k l) 64000 p := by
  intro p hp
  have hm : (((l.getD 4 0 : Nat) : Int) * ((l.getD 4 0 : Nat) : Int)).natAbs ≤ 1048576 := by
    rw [Int.natAbs_mul]
    exact Nat.le_trans (Nat.mul_le_mul (by omega) (by omega) : _ ≤ 1000 * 1000) (by decide)
  have hn : (((l.getD 5 0 : Nat) : Int) * ((l.getD 5 0 : Nat) : Int)).natAbs ≤ 1048576 := by
    rw [Int.natAbs_mul]
    exact Nat.le_trans (Nat.mul_le_mul (by omega) (by omega) : _ ≤ 1000 * 1000) (by decide)
  have e := rest_rel (u := bOps) (qs := (Kh373.pointsIn k l).map fun i => (⟨bnAt a i, bnAt a i, bnAt a i⟩ : Tri Bn)) b_rel k (ps := (Kh373.pointsIn k l).map fun i => (Kh374.points a).getD i ⟨[], [], []⟩) (fun i => ?_) (l.getD 4 0 : Nat) (l.getD 5 0 : Nat)
  · obtain ⟨v, hv, hr⟩ := e.mem p hp
    have le := rest_le k _ (fun x => (Kh373.pointsIn k l).map fun p => (Kh373.reaches a x).getD p 0) 7990 _ _ hm hn (fun i => ?_) v hv
    · exact (BR.le hr le).mono (fun _ => Nat.le_refl _) (by omega)
    · rw [List.getD_eq_getElem?_getD, List.getElem?_map]
      cases ei : (Kh373.pointsIn k l)[i]? with
      | none =>
        refine ⟨0, Nat.zero_le _, ?_⟩
        have e0 : ∀ x, ((Kh373.pointsIn k l).map fun p => (Kh373.reaches a x).getD p 0).getD i 0 = 0 := fun x => by
          rw [List.getD_eq_getElem?_getD, List.getElem?_map, ei]
          rfl
        simp only [e0]
        rfl
      | some p =>
        refine ⟨heavyN a p, heavyN_le h p, ?_⟩
        have e0 : ∀ x, ((Kh373.pointsIn k l).map fun p => (Kh373.reaches a x).getD p 0).getD i 0 = (Kh373.reaches a x).getD p 0 := fun x => by
          rw [List.getD_eq_getElem?_getD, List.getElem?_map, ei]
          rfl
        simp only [e0]
        rfl
  · rw [List.getD_eq_getElem?_getD, List.getElem?_map, List.getD_eq_getElem?_getD, List.getElem?_map]
    cases ei : (Kh373.pointsIn k l)[i]? with
    | none => exact ⟨G3.zero.x, G3.zero.y, G3.zero.w⟩
    | some p =>
      have g := h.bound p
      exact ⟨g.x, g.y, g.w⟩
end Su
end
section
set_option Elab.async false
set_option linter.all false
namespace Su
open Kh370 (Poly Term)
open Kh374 (Ops Tri Fig)
/-! ### The program's own formulas, whatever is added and multiplied -/
section
variable {A : Type} (o : Ops A)
def mAdded (f g h k : A) : A := o.add (o.times f g) (o.times h k)
def mCross (f g h k : A) : A := o.less (o.times f g) (o.times h k)
def mWay (a b : Tri A) : A × A := (mCross o b.x a.w a.x b.w, mCross o b.y a.w a.y b.w)
def mLine (a b : Tri A) : Tri A := ⟨mCross o a.y b.w b.y a.w, mCross o b.x a.w a.x b.w, mCross o a.x b.y b.x a.y⟩
def mBeside (l c : Tri A) : A := o.add (mAdded o l.x c.x l.y c.y) (o.times l.w c.w)
def mArea (a b c : Tri A) : A := mBeside o (mLine o b c) a
def mSquare (a : Tri A) : A := mAdded o a.x a.x a.y a.y
def mMatched (f g : A × A) : A := mAdded o f.1 g.1 f.2 g.2
def mMoved (a : Tri A) (scale acr upw : A) : Tri A := ⟨o.add (o.times a.x scale) acr, o.add (o.times a.y scale) upw, o.times a.w scale⟩
def mPart (a b : Tri A) (m n : A) : Tri A := mMoved o a (o.times n b.w) (o.times m (mWay o a b).1) (o.times m (mWay o a b).2)
def mOn (a b : Tri A) (s : A) : Tri A := mPart o a b s (o.number 1)
def mAlong (a b c : Tri A) : Tri A := mMoved o c (o.times a.w b.w) (o.times c.w (mWay o a b).1) (o.times c.w (mWay o a b).2)
def mMeet (a b c d : Tri A) : Tri A := ⟨mCross o (mLine o a b).y (mLine o c d).w (mLine o c d).y (mLine o a b).w, mCross o (mLine o a b).w (mLine o c d).x (mLine o c d).w (mLine o a b).x, mCross o (mLine o a b).x (mLine o c d).y (mLine o c d).x (mLine o a b).y⟩
def xy (t : Tri A) : A × A := (t.x, t.y)
def mDropped (c a b : Tri A) (share : A) : Tri A := mMoved o c (mMatched o (xy (mLine o a b)) (xy (mLine o a b))) (o.times (mLine o a b).x (o.times share (mBeside o (mLine o a b) c))) (o.times (mLine o a b).y (o.times share (mBeside o (mLine o a b) c)))
def mFoot (c a b : Tri A) : Tri A := mDropped o c a b (o.number (-1))
def mMirror (c a b : Tri A) : Tri A := mDropped o c a b (o.number (-2))
def mTurn (a b : Tri A) : Tri A := mMoved o a b.w (o.times (o.number (-1)) (mWay o a b).2) (mWay o a b).1
def mCentre (a b c : Tri A) : Tri A :=
  let u := o.times (mSquare o a) (o.times b.w c.w)
  let v := o.times (mSquare o b) (o.times c.w a.w)
  let t := o.times (mSquare o c) (o.times a.w b.w)
  let bc := mLine o b c
  let ca := mLine o c a
  let ab := mLine o a b
  ⟨o.add (mAdded o u bc.x v ca.x) (o.times t ab.x), o.add (mAdded o u bc.y v ca.y) (o.times t ab.y), o.times (mArea o a b c) (o.times (o.times a.w b.w) (o.times c.w (o.number 2)))⟩
def mSecond (a b c : Tri A) : Tri A :=
  let ab := mWay o a b
  let k := o.times (o.number 2) (mMatched o (mWay o a c) ab)
  mMoved o a (o.times c.w (mMatched o ab ab)) (o.times k ab.1) (o.times k ab.2)
def mRound (c a : Tri A) (s : A) : Tri A :=
  let ao := mWay o a c
  let n := o.add (o.number 1) (o.times s s)
  let acr := o.less ao.1 (o.times s ao.2)
  let upw := o.add ao.2 (o.times s ao.1)
  mMoved o a (o.times c.w n) (o.times (o.number 2) acr) (o.times (o.number 2) upw)
def mInverse (c a p : Tri A) : Tri A :=
  let op := mWay o c p
  let oa := mWay o c a
  let f := o.times (mMatched o op op) (o.times a.w a.w)
  let h := o.times (mMatched o oa oa) p.w
  mMoved o c f (o.times h op.1) (o.times h op.2)
/-- the program's x, y, w of a step -/
def mStep (ps : List (Tri A)) (ls : List A) (s : Kh371.Step) : Tri A :=
  let g (i : Nat) : Tri A := ps.getD i ⟨o.number 0, o.number 0, o.number 0⟩
  let z (i : Nat) : A := ls.getD i (o.number 0)
  match s with
  | .fixed a b => ⟨o.number a, o.number b, o.number 1⟩
  | .free => ⟨z 0, z 1, o.number 1⟩
  | .on a b => mOn o (g a) (g b) (z 0)
  | .part a b m n => mPart o (g a) (g b) (o.number m) (o.number n)
  | .along a b c => mAlong o (g a) (g b) (g c)
  | .meet a b c d => mMeet o (g a) (g b) (g c) (g d)
  | .foot c a b => mFoot o (g c) (g a) (g b)
  | .mirror c a b => mMirror o (g c) (g a) (g b)
  | .turn a b => mTurn o (g a) (g b)
  | .centre a b c => mCentre o (g a) (g b) (g c)
  | .second a b c => mSecond o (g a) (g b) (g c)
  | .round c a => mRound o (g c) (g a) (z 0)
  | .inverse c a p => mInverse o (g c) (g a) (g p)
end
section
variable {A B : Type} {o : Ops A} {u : Ops B} {R : A → B → Prop}
structure PR (R : A → B → Prop) (f : A × A) (g : B × B) : Prop where
  l : R f.1 g.1
  r : R f.2 g.2
theorem mAdded_rel (h : RelOps o u R) {f g x k : A} {f' g' x' k' : B} (h1 : R f f') (h2 : R g g') (h3 : R x x') (h4 : R k k') : R (mAdded o f g x k) (mAdded u f' g' x' k') := h.add (h.times h1 h2) (h.times h3 h4)
theorem mCross_rel (h : RelOps o u R) {f g x k : A} {f' g' x' k' : B} (h1 : R f f') (h2 : R g g') (h3 : R x x') (h4 : R k k') : R (mCross o f g x k) (mCross u f' g' x' k') := h.less (h.times h1 h2) (h.times h3 h4)
theorem mWay_rel (h : RelOps o u R) {a b : Tri A} {a' b' : Tri B} (ha : TR R a a') (hb : TR R b b') : PR R (mWay o a b) (mWay u a' b') := ⟨mCross_rel h hb.x ha.w ha.x hb.w, mCross_rel h hb.y ha.w ha.y hb.w⟩
theorem mLine_rel (h : RelOps o u R) {a b : Tri A} {a' b' : Tri B} (ha : TR R a a') (hb : TR R b b') : TR R (mLine o a b) (mLine u a' b') := ⟨mCross_rel h ha.y hb.w hb.y ha.w, mCross_rel h hb.x ha.w ha.x hb.w, mCross_rel h ha.x hb.y hb.x ha.y⟩
theorem mBeside_rel (h : RelOps o u R) {l c : Tri A} {l' c' : Tri B} (hl : TR R l l') (hc : TR R c c') : R (mBeside o l c) (mBeside u l' c') := h.add (mAdded_rel h hl.x hc.x hl.y hc.y) (h.times hl.w hc.w)
theorem mArea_rel (h : RelOps o u R) {a b c : Tri A} {a' b' c' : Tri B} (ha : TR R a a') (hb : TR R b b') (hc : TR R c c') : R (mArea o a b c) (mArea u a' b' c') := mBeside_rel h (mLine_rel h hb hc) ha
theorem mSquare_rel (h : RelOps o u R) {a : Tri A} {a' : Tri B} (ha : TR R a a') : R (mSquare o a) (mSquare u a') := mAdded_rel h ha.x ha.x ha.y ha.y
theorem mMatched_rel (h : RelOps o u R) {f g : A × A} {f' g' : B × B} (hf : PR R f f') (hg : PR R g g') : R (mMatched o f g) (mMatched u f' g') := mAdded_rel h hf.l hg.l hf.r hg.r
theorem xy_rel {a : Tri A} {a' : Tri B} (ha : TR R a a') : PR R (xy a) (xy a') := ⟨ha.x, ha.y⟩
theorem mMoved_rel (h : RelOps o u R) {a : Tri A} {a' : Tri B} {s x y : A} {s' x' y' : B} (ha : TR R a a') (hs : R s s') (hx : R x x') (hy : R y y') : TR R (mMoved o a s x y) (mMoved u a' s' x' y') := ⟨h.add (h.times ha.x hs) hx, h.add (h.times ha.y hs) hy, h.times ha.w hs⟩
theorem mPart_rel (h : RelOps o u R) {a b : Tri A} {a' b' : Tri B} {m n : A} {m' n' : B} (ha : TR R a a') (hb : TR R b b') (hm : R m m') (hn : R n n') : TR R (mPart o a b m n) (mPart u a' b' m' n') :=
  mMoved_rel h ha (h.times hn hb.w) (h.times hm (mWay_rel h ha hb).l) (h.times hm (mWay_rel h ha hb).r)
theorem mDropped_rel (h : RelOps o u R) {c a b : Tri A} {c' a' b' : Tri B} {s : A} {s' : B} (hc : TR R c c') (ha : TR R a a') (hb : TR R b b') (hs : R s s') : TR R (mDropped o c a b s) (mDropped u c' a' b' s') :=
  have l := mLine_rel h ha hb
  have t := h.times hs (mBeside_rel h l hc)
  mMoved_rel h hc (mMatched_rel h (xy_rel l) (xy_rel l)) (h.times l.x t) (h.times l.y t)
theorem mStep_rel (h : RelOps o u R) {ps : List (Tri A)} {qs : List (Tri B)} {ls : List A} {ms : List B} (hp : ∀ i, TR R (ps.getD i (z3 o)) (qs.getD i (z3 u))) (hl : ∀ i, R (ls.getD i (o.number 0)) (ms.getD i (u.number 0))) (s : Kh371.Step) :
    TR R (mStep o ps ls s) (mStep u qs ms s) := by
  cases s with
  | fixed a b => exact ⟨h.number a, h.number b, h.number 1⟩
  | free => exact ⟨hl 0, hl 1, h.number 1⟩
  | on a b => exact mPart_rel h (hp a) (hp b) (hl 0) (h.number 1)
  | part a b m n => exact mPart_rel h (hp a) (hp b) (h.number m) (h.number n)
  | along a b c =>
    have w := mWay_rel h (hp a) (hp b)
    exact mMoved_rel h (hp c) (h.times (hp a).w (hp b).w) (h.times (hp c).w w.l) (h.times (hp c).w w.r)
  | meet a b c d =>
    have l := mLine_rel h (hp a) (hp b)
    have m := mLine_rel h (hp c) (hp d)
    exact ⟨mCross_rel h l.y m.w m.y l.w, mCross_rel h l.w m.x m.w l.x, mCross_rel h l.x m.y m.x l.y⟩
  | foot c a b => exact mDropped_rel h (hp c) (hp a) (hp b) (h.number _)
  | mirror c a b => exact mDropped_rel h (hp c) (hp a) (hp b) (h.number _)
  | turn a b =>
    have w := mWay_rel h (hp a) (hp b)
    exact mMoved_rel h (hp a) (hp b).w (h.times (h.number _) w.r) w.l
  | centre a b c =>
    have eu := h.times (mSquare_rel h (hp a)) (h.times (hp b).w (hp c).w)
    have ev := h.times (mSquare_rel h (hp b)) (h.times (hp c).w (hp a).w)
    have et := h.times (mSquare_rel h (hp c)) (h.times (hp a).w (hp b).w)
    have bc := mLine_rel h (hp b) (hp c)
    have ca := mLine_rel h (hp c) (hp a)
    have ab := mLine_rel h (hp a) (hp b)
    exact ⟨h.add (mAdded_rel h eu bc.x ev ca.x) (h.times et ab.x), h.add (mAdded_rel h eu bc.y ev ca.y) (h.times et ab.y), h.times (mArea_rel h (hp a) (hp b) (hp c)) (h.times (h.times (hp a).w (hp b).w) (h.times (hp c).w (h.number 2)))⟩
  | second a b c =>
    have ab := mWay_rel h (hp a) (hp b)
    have k := h.times (h.number 2) (mMatched_rel h (mWay_rel h (hp a) (hp c)) ab)
    exact mMoved_rel h (hp a) (h.times (hp c).w (mMatched_rel h ab ab)) (h.times k ab.l) (h.times k ab.r)
  | round c a =>
    have ao := mWay_rel h (hp a) (hp c)
    have n := h.add (h.number 1) (h.times (hl 0) (hl 0))
    exact mMoved_rel h (hp a) (h.times (hp c).w n) (h.times (h.number 2) (h.less ao.l (h.times (hl 0) ao.r))) (h.times (h.number 2) (h.add ao.r (h.times (hl 0) ao.l)))
  | inverse c a p =>
    have op := mWay_rel h (hp c) (hp p)
    have oa := mWay_rel h (hp c) (hp a)
    have f := h.times (mMatched_rel h op op) (h.times (hp a).w (hp a).w)
    have hh := h.times (mMatched_rel h oa oa) (hp p).w
    exact mMoved_rel h (hp c) f (h.times hh op.l) (h.times hh op.r)
end
theorem lint0 : lint 0 = 0 := rfl
theorem lint1 : lint 1 = 1 := rfl
theorem lint2 : lint 2 = 2 := rfl
theorem lintm1 : lint (-1) = -1 := rfl
theorem lintm2 : lint (-2) = -2 := rfl
theorem tri_ext {A : Type} {t u : Tri A} (hx : t.x = u.x) (hy : t.y = u.y) (hw : t.w = u.w) : t = u := by
  cases t
  cases u
  cases hx
  cases hy
  cases hw
  rfl
/-- **The program's formulas are the document's**, in the ring. -/
theorem mStep_ring (ps : List (Tri L)) (ls : List L) (s : Kh371.Step) : mStep ringOps ps ls s = Kh374.place ringOps ps ls s := by
  cases s with
  | fixed a b => rfl
  | free => rfl
  | on a b =>
    refine tri_ext ?_ ?_ ?_ <;> simp only [mStep, mOn, mPart, mMoved, mWay, mCross, Kh374.place, Kh374.across, Kh374.up, ringOps, lint1] <;> grind
  | part a b m n =>
    refine tri_ext ?_ ?_ ?_ <;> simp only [mStep, mPart, mMoved, mWay, mCross, Kh374.place, Kh374.across, Kh374.up, ringOps] <;> grind
  | along a b c =>
    refine tri_ext ?_ ?_ ?_ <;> simp only [mStep, mAlong, mMoved, mWay, mCross, Kh374.place, Kh374.across, Kh374.up, ringOps] <;> grind
  | meet a b c d =>
    refine tri_ext ?_ ?_ ?_ <;> simp only [mStep, mMeet, mLine, mCross, Kh374.place, Kh374.line, ringOps] <;> grind
  | foot c a b =>
    refine tri_ext ?_ ?_ ?_ <;> simp only [mStep, mFoot, mDropped, mMatched, mAdded, mBeside, xy, mMoved, mLine, mCross, Kh374.place, Kh374.over, Kh374.off, Kh374.sq, Kh374.line, ringOps, lint1, lintm1] <;> grind
  | mirror c a b =>
    refine tri_ext ?_ ?_ ?_ <;> simp only [mStep, mMirror, mDropped, mMatched, mAdded, mBeside, xy, mMoved, mLine, mCross, Kh374.place, Kh374.over, Kh374.off, Kh374.sq, Kh374.line, ringOps, lint2, lintm2] <;> grind
  | turn a b =>
    refine tri_ext ?_ ?_ ?_ <;> simp only [mStep, mTurn, mMoved, mWay, mCross, Kh374.place, Kh374.across, Kh374.up, ringOps, lintm1] <;> grind
  | centre a b c =>
    refine tri_ext ?_ ?_ ?_ <;> simp only [mStep, mCentre, mSquare, mArea, mBeside, mAdded, mLine, mCross, Kh374.place, Kh374.square, Kh374.det, Kh374.sq, ringOps, lint2] <;> grind
  | second a b c =>
    refine tri_ext ?_ ?_ ?_ <;> simp only [mStep, mSecond, mMatched, mAdded, mMoved, mWay, mCross, Kh374.place, Kh374.across, Kh374.up, Kh374.sq, ringOps, lint2] <;> grind
  | round c a =>
    refine tri_ext ?_ ?_ ?_ <;> simp only [mStep, mRound, mMoved, mWay, mCross, Kh374.place, Kh374.across, Kh374.up, Kh374.sq, ringOps, lint1, lint2] <;> grind
  | inverse c a p =>
    refine tri_ext ?_ ?_ ?_ <;> simp only [mStep, mInverse, mMatched, mAdded, mMoved, mWay, mCross, Kh374.place, Kh374.across, Kh374.up, Kh374.sq, ringOps] <;> grind
end Su
end
section
set_option Elab.async false
set_option linter.all false
namespace Su
open Kh370 (Poly Term)
open Kh374 (Ops Tri Fig)
/-! ### What's left of a saying, in the ring -/
def pcTri (t : Tri Poly) : Tri L := ⟨pc t.x, pc t.y, pc t.w⟩
theorem LR.map_eq {l : List Poly} {m : List L} (h : LR RingR l m) : l.map pc = m := by
  induction h with
  | nil => rfl
  | cons h1 _ ih => rw [List.map_cons, ih, h1.2]
theorem left_ring {a : Fig} (ok : FigOk a) (k : Nat) (l : List Nat) : (Kh374.left a k l).map pc = Kh374.rest ringOps k ((Kh373.pointsIn k l).map fun i => pcTri ((Kh374.points a).getD i (z3 Kh374.polys))) (l.getD 4 0 : Nat) (l.getD 5 0 : Nat) := by
  refine LR.map_eq (rest_rel ring_rel k (fun i => ?_) _ _)
  rw [List.getD_eq_getElem?_getD, List.getElem?_map, List.getD_eq_getElem?_getD, List.getElem?_map]
  cases (Kh373.pointsIn k l)[i]? with
  | none => exact ⟨ring_rel.number 0, ring_rel.number 0, ring_rel.number 0⟩
  | some p =>
    have b := ok.bound p
    exact ⟨⟨b.x.w, rfl⟩, ⟨b.y.w, rfl⟩, ⟨b.w.w, rfl⟩⟩
/-- a dict that has what the ring says is left holds just the terms that are left -/
theorem left_rep {a : Fig} (ok : FigOk a) {k : Nat} {l : List Nat} (h4 : l.getD 4 0 ≤ 1000) (h5 : l.getD 5 0 ≤ 1000) (hw : Kh373.many (Kh373.gridOf a k l) ≤ 200) {p : Poly} (hp : p ∈ Kh374.left a k l) {d : Raw} (hd : Dn d) (e : cls d = pc p) : d.Perm (raw p) := by
  have g := ok.left k l h4 h5 p hp
  rw [gridOf_many ok.letters] at hw
  exact rep_of g (lt1000 hw (sayB_far ok.letters k l)) hd e
/-! ### A letter given a value -/
def gsum (p : Poly) (i : Nat) (v k : Int) : Int := (p.map fun t => if pk (t.2.set i 0) = k then t.1 * v ^ (t.2.getD i 0) else 0).sum
theorem coef_number (c k : Int) : coef (raw (Kh370.number 4 c)) k = if (0 : Int) = k then c else 0 := by
  have := eq_cls (pc_number c) k
  rw [this]
  show (if (0 : Int) = k then c else 0) + 0 = _
  omega
theorem times_number {c : Int} {q : Poly} (hq : W4 q) (k : Int) : coef (raw (Kh370.times (Kh370.number 4 c) q)) k = c * coef (raw q) k := by
  rw [coef_raw_times k q hq _ (G.number (n := c.natAbs) (Nat.le_of_lt Nat.lt_two_pow_self)).w]
  unfold Kh370.number
  by_cases h : c = 0
  · rw [if_pos h, h, Int.zero_mul]
    rfl
  · rw [if_neg h]
    have e : raw [(c, List.replicate 4 0)] = [(pk (List.replicate 4 0), c)] := rfl
    have e0 : pk (List.replicate 4 0) = 0 := by simp [pk]
    rw [e, e0, coef_rmul_cons, coef_rmul_nil, Int.sub_zero]
    show c * coef (raw q) k + 0 = _
    omega
theorem power_number (v : Int) : ∀ n, W4 (Kh370.power 4 (Kh370.number 4 v) n) ∧ ∀ k, coef (raw (Kh370.power 4 (Kh370.number 4 v) n)) k = if (0 : Int) = k then v ^ n else 0
  | 0 => ⟨(G.number (c := 1) (n := 0) (by decide)).w, fun k => by
    rw [Int.pow_zero]
    exact coef_number 1 k⟩
  | n + 1 => by
    obtain ⟨h1, h2⟩ := power_number v n
    refine ⟨times_W4 h1 (G.number (n := v.natAbs) (Nat.le_of_lt Nat.lt_two_pow_self)).w, fun k => ?_⟩
    show coef (raw (Kh370.times (Kh370.number 4 v) (Kh370.power 4 (Kh370.number 4 v) n))) k = _
    rw [times_number h1, h2]
    by_cases e : (0 : Int) = k
    · rw [if_pos e, if_pos e, Int.pow_succ, Int.mul_comm]
    · rw [if_neg e, if_neg e, Int.mul_zero]
theorem set_len {m : List Nat} (h : m.length = 4) (i : Nat) : (m.set i 0).length = 4 := by rw [List.length_set, h]
theorem put_ok (i : Nat) (v : Int) : ∀ {p : Poly}, W4 p → W4 (Kh370.put 4 p i (Kh370.number 4 v)) ∧ Srt (Kh370.put 4 p i (Kh370.number 4 v)) ∧ ∀ k, coef (raw (Kh370.put 4 p i (Kh370.number 4 v))) k = gsum p i v k
  | [], _ => ⟨W4.nil, ⟨.nil, fun _ h => absurd h List.not_mem_nil⟩, fun _ => rfl⟩
  | t :: r, hp => by
    obtain ⟨h1, h2, h3⟩ := put_ok i v hp.tail
    have hs := set_len hp.head i
    obtain ⟨w1, w2⟩ := power_number v (t.2.getD i 0)
    have hm : W4 (Kh370.mono (t.1, t.2.set i 0) (Kh370.power 4 (Kh370.number 4 v) (t.2.getD i 0))) := mono_W4 hs w1
    refine ⟨add_W4 h1 hm, add_srt h1 h2 hm, fun k => ?_⟩
    show coef (raw (Kh370.add (Kh370.mono (t.1, t.2.set i 0) (Kh370.power 4 (Kh370.number 4 v) (t.2.getD i 0))) (Kh370.put 4 r i (Kh370.number 4 v)))) k = (if pk (t.2.set i 0) = k then t.1 * v ^ (t.2.getD i 0) else 0) + gsum r i v k
    rw [coef_raw_add, h3, coef_raw_mono _ hs k _ w1, w2]
    show t.1 * (if (0 : Int) = k - pk (t.2.set i 0) then _ else 0) + _ = _
    by_cases e : pk (t.2.set i 0) = k
    · rw [if_pos e, if_pos (by omega)]
    · rw [if_neg e, if_neg (by omega), Int.mul_zero]
theorem put_pow {q : Poly} : ∀ {p : Poly} {i : Nat} {v : Int} {x : Term}, W4 p → x ∈ Kh370.put 4 p i (Kh370.number 4 v) → ∃ t ∈ p, x.2 = t.2.set i 0
  | [], i, v, x, _, h => absurd h List.not_mem_nil
  | t :: r, i, v, x, hp, h => by
    rcases add_pow (p := Kh370.mono (t.1, t.2.set i 0) (Kh370.power 4 (Kh370.number 4 v) (t.2.getD i 0))) (q := Kh370.put 4 r i (Kh370.number 4 v)) h with ⟨u, hu, e⟩ | ⟨u, hu, e⟩
    · obtain ⟨y, hy, ey⟩ := mono_mem hu
      have hz : ∀ n, ∀ y ∈ Kh370.power 4 (Kh370.number 4 v) n, y.2 = List.replicate 4 0 := by
        intro n
        induction n with
        | zero =>
          intro y hy
          have : y ∈ [((1 : Int), List.replicate 4 0)] := hy
          rw [List.mem_singleton.mp this]
        | succ n ih =>
          intro y hy
          obtain ⟨c, hc, d, hd, e⟩ := times_pow (p := Kh370.number 4 v) (q := Kh370.power 4 (Kh370.number 4 v) n) hy
          have ed := ih d hd
          have ec : c.2 = List.replicate 4 0 := by
            unfold Kh370.number at hc
            by_cases z : v = 0
            · rw [if_pos z] at hc
              exact absurd hc List.not_mem_nil
            · rw [if_neg z] at hc
              rw [List.mem_singleton.mp hc]
          rw [e, ec, ed]
          rfl
      have e2 := hz _ y hy
      have hs := set_len hp.head i
      refine ⟨t, List.mem_cons_self, ?_⟩
      rw [← e, ey, e2]
      show List.zipWith (· + ·) (t.2.set i 0) (List.replicate 4 0) = t.2.set i 0
      obtain ⟨a, b, c, d, ex⟩ := len4 hs
      rw [ex]
      rfl
    · obtain ⟨y, hy, ey⟩ := put_pow (q := q) hp.tail hu
      exact ⟨y, List.mem_cons_of_mem _ hy, by rw [← e, ey]⟩
theorem srt_coef {b : Bd} {n : Nat} {p : Poly} (h : G b n p) (hb : ∀ i, b i < 1000) : p = [] ↔ ∀ k, coef (raw p) k = 0 := by
  constructor
  · rintro rfl k
    rfl
  · intro z
    have hp := raw_dn h hb
    cases hr : p with
    | nil => rfl
    | cons t r =>
      exfalso
      have hm : (pk t.2, t.1) ∈ raw p := by rw [hr]; exact List.mem_cons_self
      have := (mem_coef hp _).mp hm
      exact this.2 (this.1.symm.trans (z _))
/-- **A sum goes where a letter is v** just if all that stands beside its powers comes to 0. -/
theorem goes_iff {b : Bd} {n : Nat} {p : Poly} (h : G b n p) (hb : ∀ i, b i < 1000) (i : Nat) (v : Int) : Kh370.goes 4 p i v = true ↔ ∀ k, gsum p i v k = 0 := by
  obtain ⟨h1, h2, h3⟩ := put_ok i v h.w
  have g : G b (nrm (Kh370.put 4 p i (Kh370.number 4 v))) (Kh370.put 4 p i (Kh370.number 4 v)) := by
    refine ⟨h1, h2, fun x hx j => ?_, Nat.le_of_lt Nat.lt_two_pow_self⟩
    obtain ⟨t, ht, e⟩ := put_pow (q := []) h.w hx
    rw [e]
    have hj := h.d t ht j
    rw [List.getD_eq_getElem?_getD, List.getElem?_set]
    split
    · split
      · exact Nat.zero_le _
      · exact Nat.zero_le _
    · rw [← List.getD_eq_getElem?_getD]
      exact hj
  unfold Kh370.goes
  rw [beq_iff_eq, srt_coef g hb]
  constructor
  · intro z k
    rw [← h3]
    exact z k
  · intro z k
    rw [h3]
    exact z k
/-! ### What a sum comes to -/
theorem foldl_add (l : List Int) : ∀ a : Int, l.foldl (· + ·) a = a + l.sum := by
  induction l with
  | nil => intro a; simp
  | cons x r ih =>
    intro a
    rw [List.foldl_cons, ih, List.sum_cons]
    omega
theorem value_sum (p : Poly) (v : List Int) : Kh370.value p v = (p.map fun t => t.1 * Kh370.worth v t.2).sum := by
  unfold Kh370.value
  rw [foldl_add]
  omega
theorem worth4 (a b c d : Int) (m n o q : Nat) : Kh370.worth [a, b, c, d] [m, n, o, q] = a ^ m * b ^ n * c ^ o * d ^ q := by
  show 1 * a ^ m * b ^ n * c ^ o * d ^ q = _
  rw [Int.one_mul]
theorem sum_perm {l m : List Int} (h : l.Perm m) : l.sum = m.sum := by
  induction h with
  | nil => rfl
  | cons x _ ih => rw [List.sum_cons, List.sum_cons, ih]
  | swap x y l =>
    rw [List.sum_cons, List.sum_cons, List.sum_cons, List.sum_cons]
    omega
  | trans _ _ ih1 ih2 => exact ih1.trans ih2
/-- sums over a dict and over the terms that it holds -/
theorem perm_sum {d : Raw} {p : Poly} (h : d.Perm (raw p)) (f : Int → Int → Int) : (d.map fun t => f t.1 t.2).sum = (p.map fun t => f (pk t.2) t.1).sum := by
  have e := (h.map fun t : Int × Int => f t.1 t.2)
  have e2 : ((raw p).map fun t : Int × Int => f t.1 t.2) = p.map fun t => f (pk t.2) t.1 := by
    unfold raw
    rw [List.map_map]
    rfl
  rw [← e2]
  exact sum_perm e
theorem perm_desc : ∀ {l m : List Int}, l.Perm m → l.Pairwise (· ≥ ·) → m.Pairwise (· ≥ ·) → l = m
  | [], m, h, _, _ => (List.nil_perm.mp h).symm
  | x :: l, [], h, _, _ => absurd (List.perm_nil.mp h) (List.cons_ne_nil _ _)
  | x :: l, y :: m, h, h1, h2 => by
    have p1 := List.pairwise_cons.mp h1
    have p2 := List.pairwise_cons.mp h2
    have e : x = y := by
      have a1 : x ∈ y :: m := h.mem_iff.mp List.mem_cons_self
      have a2 : y ∈ x :: l := h.mem_iff.mpr List.mem_cons_self
      rcases List.mem_cons.mp a1 with e | a1
      · exact e
      · rcases List.mem_cons.mp a2 with e | a2
        · exact e.symm
        · have b1 : y ≥ x := p2.1 x a1
          have b2 : x ≥ y := p1.1 y a2
          omega
    subst e
    rw [perm_desc (List.perm_cons x |>.mp h) p1.2 p2.2]
/-- **The keys, sorted from above, are those of the sum's terms in order.** -/
theorem sorted_keys {b : Bd} {n : Nat} {p : Poly} {d : Raw} (h : G b n p) (hb : ∀ i, b i < 1000) (hd : d.Perm (raw p)) {ys : List Int} (hp : ys.Perm (d.map (·.1))) (hs : ys.Pairwise (· ≥ ·)) : ys = p.map fun t => pk t.2 := by
  rw [← raw_keys]
  refine perm_desc (hp.trans (hd.map _)) hs ?_
  exact List.Pairwise.imp (fun h => Int.le_of_lt h) (raw_desc h hb)
/-- what a key holds -/
theorem get_of_mem {d : Raw} (h : Nd d) {t : Int × Int} (ht : t ∈ d) : get d t.1 = some t.2 := by
  induction d with
  | nil => exact absurd ht List.not_mem_nil
  | cons u r ih =>
    rcases List.mem_cons.mp ht with e | ht
    · subst e
      exact if_pos rfl
    · have ne : ¬ u.1 = t.1 := fun e => h.head t ht e.symm
      show (if u.1 = t.1 then some u.2 else get r t.1) = _
      rw [if_neg ne]
      exact ih h.tail ht
/-- a letter's power, read off a packed key -/
theorem pk_power {m : List Nat} (hm : m.length = 4) (bm : ∀ i, m.getD i 0 < 1000) : pk m / 1000000000 % 1000 = (m.getD 0 0 : Int) ∧ pk m / 1000000 % 1000 = (m.getD 1 0 : Int) ∧ pk m / 1000 % 1000 = (m.getD 2 0 : Int) ∧ pk m / 1 % 1000 = (m.getD 3 0 : Int) := by
  obtain ⟨a, b, c, d, rfl⟩ := len4 hm
  have h0 := bm 0
  have h1 := bm 1
  have h2 := bm 2
  have h3 := bm 3
  simp only [List.getD_cons_zero, List.getD_cons_succ, pk] at *
  refine ⟨?_, ?_, ?_, ?_⟩ <;> omega
end Su
end
section
set_option Elab.async false
set_option linter.all false
namespace Su
/-! ### Reading the list of calls -/
theorem shape_eq : ∀ i : Nat, i < 27 → PyKh374.shape (i : Int) = some ((wholeL.getD i 0).toNat, (rowsL.getD i 0).toNat) ∧ wholeL[i]? = some (((wholeL.getD i 0).toNat : Nat) : Int) ∧ rowsL[i]? = some (((rowsL.getD i 0).toNat : Nat) : Int) := by decide
theorem shape_none {p : Int} (h : p < 0 ∨ 26 < p) : PyKh374.shape p = none := by
  unfold PyKh374.shape
  rw [if_neg (by omega), if_neg (by omega), if_neg (by omega), if_neg (by omega), if_neg (by omega), if_neg (by omega), if_neg (by omega), if_neg (by omega), if_neg (by omega), if_neg (by omega), if_neg (by omega), if_neg (by omega), if_neg (by omega), if_neg (by omega), if_neg (by omega), if_neg (by omega), if_neg (by omega), if_neg (by omega), if_neg (by omega), if_neg (by omega), if_neg (by omega), if_neg (by omega), if_neg (by omega), if_neg (by omega), if_neg (by omega), if_neg (by omega), if_neg (by omega)]
theorem shape_at {p : Int} {n k : Nat} (h : PyKh374.shape p = some (n, k)) : ∃ i : Nat, p = i ∧ i < 27 ∧ wholeL[i]? = some (n : Int) ∧ rowsL[i]? = some (k : Int) := by
  by_cases hb : 0 ≤ p ∧ p ≤ 26
  · obtain ⟨i, rfl⟩ := Int.eq_ofNat_of_zero_le hb.1
    have hi : i < 27 := by omega
    obtain ⟨e1, e2, e3⟩ := shape_eq i hi
    have e := Prod.mk.inj (Option.some.inj (h.symm.trans e1))
    rw [← e.1] at e2
    rw [← e.2] at e3
    exact ⟨i, rfl, hi, e2, e3⟩
  · rw [shape_none (by omega)] at h
    cases h
theorem drop_cons {A : Type} {l r : List A} {b : Nat} {x : A} (h : l.drop b = x :: r) : l[b]? = some x ∧ l.drop (b + 1) = r ∧ b < l.length := by
  have hl : b < l.length := by
    by_cases hb : b < l.length
    · exact hb
    · rw [List.drop_of_length_le (by omega)] at h
      cases h
  rw [List.drop_eq_getElem_cons hl] at h
  have h' := List.cons.inj h
  exact ⟨by rw [List.getElem?_eq_getElem hl, h'.1], h'.2, hl⟩
theorem row_inv {s x t : List Int} (h : PyFlat.row s = some (x, t)) : ∃ n r, s = n :: r ∧ 0 ≤ n ∧ n.toNat ≤ r.length ∧ x = r.take n.toNat ∧ t = r.drop n.toNat := by
  match s with
  | [] => cases h
  | n :: r =>
    have h : (if 0 ≤ n ∧ n.toNat ≤ r.length then some (r.take n.toNat, r.drop n.toNat) else none) = some (x, t) := h
    by_cases c : 0 ≤ n ∧ n.toNat ≤ r.length
    · rw [if_pos c] at h
      have e := Prod.mk.inj (Option.some.inj h)
      exact ⟨n, r, rfl, c.1, c.2, e.1.symm, e.2.symm⟩
    · rw [if_neg c] at h
      cases h
theorem rows_inv {k : Nat} {s : List Int} {xs : List (List Int)} {t : List Int} (h : PyFlat.rows (k + 1) s = some (xs, t)) : ∃ x s1 ys, PyFlat.row s = some (x, s1) ∧ PyFlat.rows k s1 = some (ys, t) ∧ xs = x :: ys := by
  unfold PyFlat.rows at h
  cases e : PyFlat.row s with
  | none =>
    rw [e] at h
    cases h
  | some q =>
    obtain ⟨x, s1⟩ := q
    rw [e] at h
    simp only at h
    cases e2 : PyFlat.rows k s1 with
    | none =>
      rw [e2] at h
      cases h
    | some q2 =>
      obtain ⟨ys, t2⟩ := q2
      rw [e2] at h
      have e3 := Prod.mk.inj (Option.some.inj h)
      exact ⟨x, s1, ys, rfl, by rw [e2, e3.2], e3.1.symm⟩
theorem call_inv {sh : Int → Option (Nat × Nat)} {s : List Int} {c : List (List Int)} {t : List Int} (h : PyFlat.call sh s = some (c, t)) : ∃ p r n k xs, s = p :: r ∧ sh p = some (n, k) ∧ n ≤ r.length ∧ PyFlat.rows k (r.drop n) = some (xs, t) ∧ c = (p :: r.take n) :: xs := by
  match s with
  | [] => cases h
  | p :: r =>
    have h : (match sh p with
      | none => none
      | some (n, k) => if r.length < n then none else match PyFlat.rows k (r.drop n) with
        | none => none
        | some (xs, t) => some ((p :: r.take n) :: xs, t)) = some (c, t) := h
    cases e : sh p with
    | none =>
      rw [e] at h
      cases h
    | some q =>
      obtain ⟨n, k⟩ := q
      rw [e] at h
      have h : (if r.length < n then none else match PyFlat.rows k (r.drop n) with
        | none => none
        | some (xs, t) => some ((p :: r.take n) :: xs, t)) = some (c, t) := h
      by_cases c1 : r.length < n
      · rw [if_pos c1] at h
        cases h
      · rw [if_neg c1] at h
        cases e2 : PyFlat.rows k (r.drop n) with
        | none =>
          rw [e2] at h
          cases h
        | some q2 =>
          obtain ⟨xs, t2⟩ := q2
          rw [e2] at h
          have e3 := Prod.mk.inj (Option.some.inj h)
          exact ⟨p, r, n, k, xs, rfl, e, by omega, by rw [e2, e3.2], e3.1.symm⟩
/-- how many rows are read -/
theorem rows_len : ∀ {k : Nat} {s : List Int} {xs : List (List Int)} {t : List Int}, PyFlat.rows k s = some (xs, t) → xs.length = k
  | 0, s, xs, t, h => by
    have e := Prod.mk.inj (Option.some.inj h)
    rw [← e.1]
    rfl
  | k + 1, s, xs, t, h => by
    obtain ⟨x, s1, ys, _, h2, rfl⟩ := rows_inv h
    rw [List.length_cons, rows_len h2]
end Su
end
section
set_option Elab.async false
set_option linter.all false
namespace Su
open Kh374 (Fig)
/-! ### The calls, played one by one -/
abbrev CallL := List (List Int)
def stepN : Kh374Neutral.S → CallL → Kh374Neutral.S × List Int := Kh374Neutral.step
def after (cs : List CallL) : Kh374Neutral.S := cs.foldl (fun s c => (Kh374Neutral.step s c).1) Kh374Neutral.start
def toldUp (cs : List CallL) : List Int := PyFlat.told (PyFlat.played Kh374Neutral.step Kh374Neutral.start cs)
theorem played_snoc {S : Type} (step : S → CallL → S × List Int) (c : CallL) : ∀ (cs : List CallL) (s : S), PyFlat.played step s (cs ++ [c]) = PyFlat.played step s cs ++ [(step (cs.foldl (fun s c => (step s c).1) s) c).2]
  | [], s => rfl
  | d :: r, s => by
    show (step s d).2 :: PyFlat.played step (step s d).1 (r ++ [c]) = _
    rw [played_snoc step c r]
    rfl
theorem after_snoc (cs : List CallL) (c : CallL) : after (cs ++ [c]) = (Kh374Neutral.step (after cs) c).1 := by
  unfold after
  rw [List.foldl_append]
  rfl
/-- one call more: its count, and its numbers -/
theorem toldUp_snoc (cs : List CallL) (c : CallL) : toldUp (cs ++ [c]) = toldUp cs ++ (((Kh374Neutral.step (after cs) c).2.length : Int) :: (Kh374Neutral.step (after cs) c).2) := by
  unfold toldUp PyFlat.told
  rw [played_snoc, List.flatMap_append]
  congr 1
  show _ ++ [] = _
  rw [List.append_nil]
  rfl
/-- each call that is read has its number, its numbers, its rows -/
structure Shaped (c : CallL) (p : Nat) (nums : List Int) (xs : List (List Int)) : Prop where
  eq : c = ((p : Int) :: nums) :: xs
  lt : p < 27
  nums : (nums.length : Int) = wholeL.getD p 0
  rows : (xs.length : Int) = rowsL.getD p 0
theorem calls_shaped : ∀ {f : Nat} {s : List Int} {cs : List CallL}, PyFlat.calls PyKh374.shape f s = some cs → ∀ c ∈ cs, ∃ p nums xs, Shaped c p nums xs
  | 0, [], cs, h, c, hc => by
    rw [← Option.some.inj h] at hc
    exact absurd hc List.not_mem_nil
  | f + 1, [], cs, h, c, hc => by
    rw [← Option.some.inj h] at hc
    exact absurd hc List.not_mem_nil
  | 0, x :: r, cs, h, c, hc => by cases h
  | f + 1, x :: r, cs, h, c, hc => by
    have h : (match PyFlat.call PyKh374.shape (x :: r) with
      | none => none
      | some (c, t) => match PyFlat.calls PyKh374.shape f t with
        | none => none
        | some cs => some (c :: cs)) = some cs := h
    cases e : PyFlat.call PyKh374.shape (x :: r) with
    | none =>
      rw [e] at h
      cases h
    | some q =>
      obtain ⟨c1, t⟩ := q
      rw [e] at h
      have h : (match PyFlat.calls PyKh374.shape f t with
        | none => none
        | some cs => some (c1 :: cs)) = some cs := h
      cases e2 : PyFlat.calls PyKh374.shape f t with
      | none =>
        rw [e2] at h
        cases h
      | some ds =>
        rw [e2] at h
        rw [← Option.some.inj h] at hc
        rcases List.mem_cons.mp hc with rfl | hc
        · obtain ⟨p, r', n, k, xs, _, hsh, hn, hrows, ec⟩ := call_inv e
          obtain ⟨i, rfl, hi, hW, hR⟩ := shape_at hsh
          refine ⟨i, r'.take n, xs, ec, hi, ?_, ?_⟩
          · rw [List.length_take, Nat.min_eq_left hn, List.getD_eq_getElem?_getD, hW]
            rfl
          · rw [rows_len hrows, List.getD_eq_getElem?_getD, hR]
            rfl
        · exact calls_shaped e2 c hc
theorem whole_sh {c : CallL} {p : Nat} {nums : List Int} {xs : List (List Int)} (h : Shaped c p nums xs) : PyKh374.whole c = c := by
  obtain ⟨rfl, hp, hn, hr⟩ := h
  have hn : nums.length = (wholeL.getD p 0).toNat := by omega
  have hr : xs.length = (rowsL.getD p 0).toNat := by omega
  match p, hp, nums, hn, xs, hr with
  | 0, _, [], _, [], _ => exact rfl
  | 1, _, [x0, x1], _, [], _ => exact rfl
  | 2, _, [], _, [], _ => exact rfl
  | 3, _, [x0, x1], _, [], _ => exact rfl
  | 4, _, [x0, x1, x2, x3], _, [], _ => exact rfl
  | 5, _, [x0, x1, x2], _, [], _ => exact rfl
  | 6, _, [x0, x1, x2, x3], _, [], _ => exact rfl
  | 7, _, [x0, x1, x2], _, [], _ => exact rfl
  | 8, _, [x0, x1, x2], _, [], _ => exact rfl
  | 9, _, [x0, x1], _, [], _ => exact rfl
  | 10, _, [x0, x1, x2], _, [], _ => exact rfl
  | 11, _, [x0, x1, x2], _, [], _ => exact rfl
  | 12, _, [x0, x1], _, [], _ => exact rfl
  | 13, _, [x0, x1, x2], _, [], _ => exact rfl
  | 14, _, [], _, [], _ => exact rfl
  | 15, _, [], _, [], _ => exact rfl
  | 16, _, [x0], _, [], _ => exact rfl
  | 17, _, [x0, x1], _, [], _ => exact rfl
  | 18, _, [x0, x1], _, [], _ => exact rfl
  | 19, _, [x0], _, [], _ => exact rfl
  | 20, _, [x0], _, [r0], _ => exact rfl
  | 21, _, [x0], _, [r0], _ => exact rfl
  | 22, _, [x0, x1], _, [r0], _ => exact rfl
  | 23, _, [x0, x1], _, [r0], _ => exact rfl
  | 24, _, [x0, x1], _, [r0, r1], _ => exact rfl
  | 25, _, [x0, x1], _, [r0, r1], _ => exact rfl
  | 26, _, [x0, x1, x2, x3], _, [r0], _ => exact rfl
  | p + 27, hp, _, _, _, _ => exact absurd hp (by omega)
theorem map_whole {cs : List CallL} (h : ∀ c ∈ cs, ∃ p nums xs, Shaped c p nums xs) : cs.map PyKh374.whole = cs := by
  induction cs with
  | nil => rfl
  | cons c r ih =>
    obtain ⟨p, nums, xs, hc⟩ := h c List.mem_cons_self
    rw [List.map_cons, ih (fun d hd => h d (List.mem_cons_of_mem _ hd)), whole_sh hc]
theorem answers_eq {l : List Int} {cs : List CallL} (h : PyFlat.calls PyKh374.shape l.length l = some cs) : PyKh374.answers l = toldUp cs := by
  unfold PyKh374.answers PyKh374.calls
  rw [h]
  show PyFlat.told (PyFlat.played _ _ (cs.map PyKh374.whole)) = _
  rw [map_whole (calls_shaped h)]
  rfl
/-- what is asked of a list -/
structure Asked (l : List Int) (cs : List CallL) : Prop where
  read : PyFlat.calls PyKh374.shape l.length l = some cs
  most : cs.length ≤ 60
  inside : ∀ c ∈ cs, PyInside.call PyKh374.bound c = true
  short : (toldUp cs).length ≤ 10000000
theorem asked_of {l : List Int} (h : PyKh374.answers_asked l = true) : ∃ cs, Asked l cs := by
  unfold PyKh374.answers_asked at h
  cases e : PyFlat.calls PyKh374.shape l.length l with
  | none =>
    rw [e] at h
    cases h
  | some cs =>
    rw [e] at h
    simp only [Bool.and_eq_true] at h
    obtain ⟨⟨⟨⟨_, h2⟩, h3⟩, _⟩, h5⟩ := h
    refine ⟨cs, e, of_decide_eq_true h2, fun c hc => List.all_eq_true.mp h3 c hc, ?_⟩
    rw [← answers_eq e]
    exact of_decide_eq_true h5
/-! ### A step's call -/
def stepOf (k : Nat) (l : List Int) : Kh371.Step :=
  let n (i : Nat) : Nat := (l.getD i 0).toNat
  let z (i : Nat) : Int := l.getD i 0
  match k with
  | 0 => .fixed (z 0) (z 1)
  | 1 => .free
  | 2 => .on (n 0) (n 1)
  | 3 => .part (n 0) (n 1) (z 2) (z 3)
  | 4 => .along (n 0) (n 1) (n 2)
  | 5 => .meet (n 0) (n 1) (n 2) (n 3)
  | 6 => .foot (n 0) (n 1) (n 2)
  | 7 => .mirror (n 0) (n 1) (n 2)
  | 8 => .turn (n 0) (n 1)
  | 9 => .centre (n 0) (n 1) (n 2)
  | 10 => .second (n 0) (n 1) (n 2)
  | 11 => .round (n 0) (n 1)
  | _ => .inverse (n 0) (n 1) (n 2)
theorem does_step (a : Fig) (k : Nat) (hk : k < 13) (nums : List Int) : Kh374.doing (some a) (Kh374Neutral.callOf1 [((k + 1 : Nat) : Int) :: nums]) = (some (Kh374.add a (stepOf k nums)).1, (Kh374.add a (stepOf k nums)).2) := by
  match k, hk with
  | 0, _ => rfl
  | 1, _ => rfl
  | 2, _ => rfl
  | 3, _ => rfl
  | 4, _ => rfl
  | 5, _ => rfl
  | 6, _ => rfl
  | 7, _ => rfl
  | 8, _ => rfl
  | 9, _ => rfl
  | 10, _ => rfl
  | 11, _ => rfl
  | 12, _ => rfl
theorem stepOf_kind {k : Nat} (hk : k < 13) (l : List Int) : Kh371.kind (stepOf k l) = k := by
  match k, hk with
  | 0, _ => rfl
  | 1, _ => rfl
  | 2, _ => rfl
  | 3, _ => rfl
  | 4, _ => rfl
  | 5, _ => rfl
  | 6, _ => rfl
  | 7, _ => rfl
  | 8, _ => rfl
  | 9, _ => rfl
  | 10, _ => rfl
  | 11, _ => rfl
  | 12, _ => rfl
/-- **What add does**, way by way -/
theorem add_2 {a : Fig} {s : Kh371.Step} (h : ¬ ∀ i ∈ Kh371.args s, i < a.length) : Kh374.add a s = (a, Kh374.say (-2)) := by
  unfold Kh374.add
  rw [if_pos]
  rw [List.any_eq_true]
  obtain ⟨i, h⟩ := Classical.not_forall.mp h
  obtain ⟨hi, hl⟩ := Classical.not_imp.mp h
  exact ⟨i, hi, decide_eq_true (by omega)⟩
theorem args_any {a : Fig} {s : Kh371.Step} (h : ∀ i ∈ Kh371.args s, i < a.length) : ¬ (Kh371.args s).any (fun i => decide (a.length ≤ i)) = true := by
  rw [List.any_eq_true]
  rintro ⟨i, hi, hl⟩
  have := h i hi
  have := of_decide_eq_true hl
  omega
theorem add_22 {a : Fig} {s : Kh371.Step} (h : ∀ i ∈ Kh371.args s, i < a.length) (h2 : Kh371.okStep s = false) : Kh374.add a s = (a, Kh374.say (-22)) := by
  unfold Kh374.add
  rw [if_neg (args_any h), if_pos h2]
theorem add_28 {a : Fig} {s : Kh371.Step} (h : ∀ i ∈ Kh371.args s, i < a.length) (h2 : Kh371.okStep s = true) (h3 : 12 ≤ a.length ∨ 4 < Kh373.lettersOf (a ++ [s])) : Kh374.add a s = (a, Kh374.say (-28)) := by
  unfold Kh374.add
  rw [if_neg (args_any h), if_neg (by rw [h2]; decide), if_pos (show Kh374.POINTS ≤ a.length ∨ Kh374.LETTERS < Kh374.letters (a ++ [s]) from h3)]
theorem add_75 {a : Fig} {s : Kh371.Step} (h : ∀ i ∈ Kh371.args s, i < a.length) (h2 : Kh371.okStep s = true) (h3 : ¬ (12 ≤ a.length ∨ 4 < Kh373.lettersOf (a ++ [s]))) (h4 : 400 < Kh371.weigh (Kh371.weights a) s ∨ 200 < Kh373.many (Kh373.gridAt (a ++ [s]) a.length)) : Kh374.add a s = (a, Kh374.say (-75)) := by
  unfold Kh374.add
  rw [if_neg (args_any h), if_neg (by rw [h2]; decide), if_neg (show ¬ (Kh374.POINTS ≤ a.length ∨ Kh374.LETTERS < Kh374.letters (a ++ [s])) from h3), if_pos (show Kh371.HEAVY < Kh371.weigh (Kh371.weights a) s ∨ Kh374.WIDE < Kh373.many (Kh373.gridAt (a ++ [s]) a.length) from h4)]
theorem add_33 {a : Fig} {s : Kh371.Step} (h : ∀ i ∈ Kh371.args s, i < a.length) (h2 : Kh371.okStep s = true) (h3 : ¬ (12 ≤ a.length ∨ 4 < Kh373.lettersOf (a ++ [s]))) (h4 : ¬ (400 < Kh371.weigh (Kh371.weights a) s ∨ 200 < Kh373.many (Kh373.gridAt (a ++ [s]) a.length))) (h5 : ((Kh374.points (a ++ [s])).getD a.length ⟨[], [], []⟩).w = []) :
    Kh374.add a s = (a, Kh374.say (-33)) := by
  unfold Kh374.add
  rw [if_neg (args_any h), if_neg (by rw [h2]; decide), if_neg (show ¬ (Kh374.POINTS ≤ a.length ∨ Kh374.LETTERS < Kh374.letters (a ++ [s])) from h3), if_neg (show ¬ (Kh371.HEAVY < Kh371.weigh (Kh371.weights a) s ∨ Kh374.WIDE < Kh373.many (Kh373.gridAt (a ++ [s]) a.length)) from h4), if_pos h5]
theorem add_ok {a : Fig} {s : Kh371.Step} (o : StepOk a s) : Kh374.add a s = (a ++ [s], Kh374.say a.length) := by
  unfold Kh374.add
  have := o.room
  have := o.lets
  have := o.heavy
  have := o.wide
  rw [if_neg (args_any o.args), if_neg (by rw [o.num]; decide), if_neg (show ¬ (Kh374.POINTS ≤ a.length ∨ Kh374.LETTERS < Kh374.letters (a ++ [s])) from (by omega : ¬ (12 ≤ a.length ∨ 4 < Kh373.lettersOf (a ++ [s])))),
    if_neg (show ¬ (Kh371.HEAVY < Kh371.weigh (Kh371.weights a) s ∨ Kh374.WIDE < Kh373.many (Kh373.gridAt (a ++ [s]) a.length)) from (by omega : ¬ (400 < Kh371.weigh (Kh371.weights a) s ∨ 200 < Kh373.many (Kh373.gridAt (a ++ [s]) a.length)))), if_neg o.there]
/-- what stands behind a call that is taken -/
theorem FigOk.out {a : Fig} (h : FigOk a) : FigOk a.dropLast := by
  cases h with
  | nil => exact FigOk.nil
  | snoc h _ =>
    rw [List.dropLast_concat]
    exact h
end Su
end
section
set_option Elab.async false
set_option linter.all false
namespace Su
open Kh370 (Poly Term)
open Kh374 (Ops Tri Fig)
/-! ### The program's own formulas of the sayings -/
section
variable {A : Type} (o : Ops A)
def mCrossed (f g : A × A) : A := mCross o f.1 g.2 f.2 g.1
def mMeeting (p q : Tri A) : Tri A := ⟨mCross o p.y q.w q.y p.w, mCross o p.w q.x q.w p.x, mCross o p.x q.y q.x p.y⟩
def mWts (a b c : Tri A) : A := o.times a.w (o.times b.w c.w)
def mFar (a b c d : Tri A) : A := o.times (mMatched o (mWay o a b) (mWay o a b)) (o.times (o.times c.w d.w) (o.times c.w d.w))
def mMany (a b c d : Tri A) (m n : Int) : A := mCross o (o.number (n * n)) (mFar o a b c d) (o.number (m * m)) (mFar o c d a b)
def mAround (a b c d : Tri A) : A := o.times (o.times (mSquare o a) (mWts o b c d)) (mArea o b c d)
def mCircle (a b c d : Tri A) : A := o.add (o.less (mAround o a b c d) (mAround o b a c d)) (o.less (mAround o c a b d) (mAround o d a b c))
def mAngles (a b c d e f : Tri A) : A := mCross o (mCrossed o (mWay o b a) (mWay o b c)) (mMatched o (mWay o e d) (mWay o e f)) (mMatched o (mWay o b a) (mWay o b c)) (mCrossed o (mWay o e d) (mWay o e f))
def mAreas (a b c d e f : Tri A) : A := mCross o (mArea o a b c) (mWts o d e f) (mArea o d e f) (mWts o a b c)
def mThrough (a b c d e f : Tri A) : A :=
  o.add (mMatched o (xy (mLine o a b)) (xy (mMeeting o (mLine o c d) (mLine o e f)))) (o.times (mLine o a b).w (mMeeting o (mLine o c d) (mLine o e f)).w)
def mTwice (b c : Tri A) : A := o.times (o.number 2) (o.times b.w c.w)
def mMidX (a b c : Tri A) : A := mCross o a.x (mTwice o b c) a.w (mAdded o b.x c.w c.x b.w)
def mMidY (a b c : Tri A) : A := mCross o a.y (mTwice o b c) a.w (mAdded o b.y c.w c.y b.w)
def mOff (a b c d : Tri A) : A := o.times (mBeside o (mLine o a b) c) d.w
def mTouch (a b c d : Tri A) : A := mCross o (mOff o a b c d) (mOff o a b c d) (mMatched o (mWay o c d) (mWay o c d)) (mMatched o (xy (mLine o a b)) (xy (mLine o a b)))
def mTogether (f g : A × A) : A × A := (mCross o f.1 g.1 f.2 g.2, mAdded o f.1 g.2 f.2 g.1)
def mAlikeX (a b c d e f : Tri A) : A := mCross o (mTogether o (mWay o a b) (mWay o d f)).1 (o.times e.w c.w) (mTogether o (mWay o d e) (mWay o a c)).1 (o.times f.w b.w)
def mAlikeY (a b c d e f : Tri A) : A := mCross o (mTogether o (mWay o a b) (mWay o d f)).2 (o.times e.w c.w) (mTogether o (mWay o d e) (mWay o a c)).2 (o.times f.w b.w)
/-- what the program leaves of a saying -/
def mSay (k : Nat) (p : List (Tri A)) (m n : Int) : List A :=
  let g (i : Nat) : Tri A := p.getD i ⟨o.number 0, o.number 0, o.number 0⟩
  match k with
  | 0 => [mCross o (g 0).x (g 1).w (g 1).x (g 0).w, mCross o (g 0).y (g 1).w (g 1).y (g 0).w]
  | 1 => [mArea o (g 0) (g 1) (g 2)]
  | 2 => [mCrossed o (mWay o (g 0) (g 1)) (mWay o (g 2) (g 3))]
  | 3 => [mMatched o (mWay o (g 0) (g 1)) (mWay o (g 2) (g 3))]
  | 4 => [mMany o (g 0) (g 1) (g 2) (g 3) 1 1]
  | 5 => [mMany o (g 0) (g 1) (g 2) (g 3) m n]
  | 6 => [mCircle o (g 0) (g 1) (g 2) (g 3)]
  | 7 => [mAngles o (g 0) (g 1) (g 2) (g 3) (g 4) (g 5)]
  | 8 => [mAreas o (g 0) (g 1) (g 2) (g 3) (g 4) (g 5)]
  | 9 => [mThrough o (g 0) (g 1) (g 2) (g 3) (g 4) (g 5)]
  | 10 => [mMidX o (g 0) (g 1) (g 2), mMidY o (g 0) (g 1) (g 2)]
  | 11 => [mTouch o (g 0) (g 1) (g 2) (g 3)]
  | _ => [mAlikeX o (g 0) (g 1) (g 2) (g 3) (g 4) (g 5), mAlikeY o (g 0) (g 1) (g 2) (g 3) (g 4) (g 5)]
end
section
variable {A B : Type} {o : Ops A} {u : Ops B} {R : A → B → Prop}
theorem mCrossed_rel (h : RelOps o u R) {f g : A × A} {f' g' : B × B} (hf : PR R f f') (hg : PR R g g') : R (mCrossed o f g) (mCrossed u f' g') := mCross_rel h hf.l hg.r hf.r hg.l
theorem mMeeting_rel (h : RelOps o u R) {p q : Tri A} {p' q' : Tri B} (hp : TR R p p') (hq : TR R q q') : TR R (mMeeting o p q) (mMeeting u p' q') := ⟨mCross_rel h hp.y hq.w hq.y hp.w, mCross_rel h hp.w hq.x hq.w hp.x, mCross_rel h hp.x hq.y hq.x hp.y⟩
theorem mWts_rel (h : RelOps o u R) {a b c : Tri A} {a' b' c' : Tri B} (ha : TR R a a') (hb : TR R b b') (hc : TR R c c') : R (mWts o a b c) (mWts u a' b' c') := h.times ha.w (h.times hb.w hc.w)
theorem mFar_rel (h : RelOps o u R) {a b c d : Tri A} {a' b' c' d' : Tri B} (ha : TR R a a') (hb : TR R b b') (hc : TR R c c') (hd : TR R d d') : R (mFar o a b c d) (mFar u a' b' c' d') :=
  h.times (mMatched_rel h (mWay_rel h ha hb) (mWay_rel h ha hb)) (h.times (h.times hc.w hd.w) (h.times hc.w hd.w))
theorem mMany_rel (h : RelOps o u R) {a b c d : Tri A} {a' b' c' d' : Tri B} (ha : TR R a a') (hb : TR R b b') (hc : TR R c c') (hd : TR R d d') (m n : Int) : R (mMany o a b c d m n) (mMany u a' b' c' d' m n) :=
  mCross_rel h (h.number _) (mFar_rel h ha hb hc hd) (h.number _) (mFar_rel h hc hd ha hb)
theorem mAround_rel (h : RelOps o u R) {a b c d : Tri A} {a' b' c' d' : Tri B} (ha : TR R a a') (hb : TR R b b') (hc : TR R c c') (hd : TR R d d') : R (mAround o a b c d) (mAround u a' b' c' d') :=
  h.times (h.times (mSquare_rel h ha) (mWts_rel h hb hc hd)) (mArea_rel h hb hc hd)
theorem mTogether_rel (h : RelOps o u R) {f g : A × A} {f' g' : B × B} (hf : PR R f f') (hg : PR R g g') : PR R (mTogether o f g) (mTogether u f' g') := ⟨mCross_rel h hf.l hg.l hf.r hg.r, mAdded_rel h hf.l hg.r hf.r hg.l⟩
theorem mOff_rel (h : RelOps o u R) {a b c d : Tri A} {a' b' c' d' : Tri B} (ha : TR R a a') (hb : TR R b b') (hc : TR R c c') (hd : TR R d d') : R (mOff o a b c d) (mOff u a' b' c' d') := h.times (mBeside_rel h (mLine_rel h ha hb) hc) hd.w
theorem mTwice_rel (h : RelOps o u R) {b c : Tri A} {b' c' : Tri B} (hb : TR R b b') (hc : TR R c c') : R (mTwice o b c) (mTwice u b' c') := h.times (h.number 2) (h.times hb.w hc.w)
theorem mSay_rel (h : RelOps o u R) (k : Nat) {ps : List (Tri A)} {qs : List (Tri B)} (hp : ∀ i, TR R (ps.getD i (z3 o)) (qs.getD i (z3 u))) (m n : Int) : LR R (mSay o k ps m n) (mSay u k qs m n) := by
  match k with
  | 0 => exact .cons (mCross_rel h (hp 0).x (hp 1).w (hp 1).x (hp 0).w) (.cons (mCross_rel h (hp 0).y (hp 1).w (hp 1).y (hp 0).w) .nil)
  | 1 => exact .cons (mArea_rel h (hp 0) (hp 1) (hp 2)) .nil
  | 2 => exact .cons (mCrossed_rel h (mWay_rel h (hp 0) (hp 1)) (mWay_rel h (hp 2) (hp 3))) .nil
  | 3 => exact .cons (mMatched_rel h (mWay_rel h (hp 0) (hp 1)) (mWay_rel h (hp 2) (hp 3))) .nil
  | 4 => exact .cons (mMany_rel h (hp 0) (hp 1) (hp 2) (hp 3) 1 1) .nil
  | 5 => exact .cons (mMany_rel h (hp 0) (hp 1) (hp 2) (hp 3) m n) .nil
  | 6 => exact .cons (h.add (h.less (mAround_rel h (hp 0) (hp 1) (hp 2) (hp 3)) (mAround_rel h (hp 1) (hp 0) (hp 2) (hp 3))) (h.less (mAround_rel h (hp 2) (hp 0) (hp 1) (hp 3)) (mAround_rel h (hp 3) (hp 0) (hp 1) (hp 2)))) .nil
  | 7 =>
    have ba := mWay_rel h (hp 1) (hp 0)
    have bc := mWay_rel h (hp 1) (hp 2)
    have ed := mWay_rel h (hp 4) (hp 3)
    have ef := mWay_rel h (hp 4) (hp 5)
    exact .cons (mCross_rel h (mCrossed_rel h ba bc) (mMatched_rel h ed ef) (mMatched_rel h ba bc) (mCrossed_rel h ed ef)) .nil
  | 8 => exact .cons (mCross_rel h (mArea_rel h (hp 0) (hp 1) (hp 2)) (mWts_rel h (hp 3) (hp 4) (hp 5)) (mArea_rel h (hp 3) (hp 4) (hp 5)) (mWts_rel h (hp 0) (hp 1) (hp 2))) .nil
  | 9 =>
    have l := mLine_rel h (hp 0) (hp 1)
    have t := mMeeting_rel h (mLine_rel h (hp 2) (hp 3)) (mLine_rel h (hp 4) (hp 5))
    exact .cons (h.add (mMatched_rel h (xy_rel l) (xy_rel t)) (h.times l.w t.w)) .nil
  | 10 => exact .cons (mCross_rel h (hp 0).x (mTwice_rel h (hp 1) (hp 2)) (hp 0).w (mAdded_rel h (hp 1).x (hp 2).w (hp 2).x (hp 1).w)) (.cons (mCross_rel h (hp 0).y (mTwice_rel h (hp 1) (hp 2)) (hp 0).w (mAdded_rel h (hp 1).y (hp 2).w (hp 2).y (hp 1).w)) .nil)
  | 11 =>
    have f := mOff_rel h (hp 0) (hp 1) (hp 2) (hp 3)
    have w := mWay_rel h (hp 2) (hp 3)
    have l := xy_rel (mLine_rel h (hp 0) (hp 1))
    exact .cons (mCross_rel h f f (mMatched_rel h w w) (mMatched_rel h l l)) .nil
  | k + 12 =>
    have f := mTogether_rel h (mWay_rel h (hp 0) (hp 1)) (mWay_rel h (hp 3) (hp 5))
    have g := mTogether_rel h (mWay_rel h (hp 3) (hp 4)) (mWay_rel h (hp 0) (hp 2))
    have ec := h.times (hp 4).w (hp 2).w
    have fb := h.times (hp 5).w (hp 1).w
    exact .cons (mCross_rel h f.l ec g.l fb) (.cons (mCross_rel h f.r ec g.r fb) .nil)
end
theorem one_eq {A : Type} {x y : A} (h : x = y) : [x] = [y] := by rw [h]
theorem two_eq {A : Type} {x y x' y' : A} (h : x = y) (h' : x' = y') : [x, x'] = [y, y'] := by rw [h, h']
theorem lint11 : lint (1 * 1) = 1 := rfl
/-- **What the program leaves is what the document says is left**, in the ring. -/
theorem mSay_ring (k : Nat) (ps : List (Tri L)) (m n : Int) : mSay ringOps k ps m n = Kh374.rest ringOps k ps m n := by
  match k with
  | 0 => rfl
  | 1 => refine one_eq ?_; simp only [mArea, mBeside, mAdded, mLine, mCross, Kh374.det, ringOps]; grind
  | 2 => refine one_eq ?_; simp only [mCrossed, mWay, mCross, Kh374.cr, Kh374.across, Kh374.up, ringOps]
  | 3 => refine one_eq ?_; simp only [mMatched, mAdded, mWay, mCross, Kh374.dt, Kh374.across, Kh374.up, ringOps]
  | 4 => refine one_eq ?_; simp only [mMany, mFar, mMatched, mAdded, mWay, mCross, Kh374.dt, Kh374.sq, Kh374.across, Kh374.up, ringOps, lint11]; grind
  | 5 => refine one_eq ?_; simp only [mMany, mFar, mMatched, mAdded, mWay, mCross, Kh374.dt, Kh374.sq, Kh374.across, Kh374.up, ringOps]
  | 6 => refine one_eq ?_; simp only [mCircle, mAround, mWts, mSquare, mArea, mBeside, mAdded, mLine, mCross, Kh374.det, Kh374.sq, Kh374.square, ringOps]; grind
  | 7 => refine one_eq ?_; simp only [mAngles, mCrossed, mMatched, mAdded, mWay, mCross, Kh374.dt, Kh374.cr, Kh374.across, Kh374.up, ringOps]
  | 8 => refine one_eq ?_; simp only [mAreas, mWts, mArea, mBeside, mAdded, mLine, mCross, Kh374.det, ringOps]; grind
  | 9 => refine one_eq ?_; simp only [mThrough, mMeeting, mMatched, mAdded, xy, mLine, mCross, Kh374.line, ringOps]; grind
  | 10 => refine two_eq ?_ ?_ <;> simp only [mMidX, mMidY, mTwice, mAdded, mCross, ringOps, lint2] <;> grind
  | 11 => refine one_eq ?_; simp only [mTouch, mOff, mBeside, mMatched, mAdded, xy, mWay, mLine, mCross, Kh374.line, Kh374.off, Kh374.dt, Kh374.sq, Kh374.across, Kh374.up, ringOps]; grind
  | k + 12 => refine two_eq ?_ ?_ <;> simp only [mAlikeX, mAlikeY, mTogether, mAdded, mWay, mCross, Kh374.across, Kh374.up, ringOps]
end Su
end
section
set_option Elab.async false
set_option linter.all false
namespace Su
open Kh370 (Poly Term)
open Kh374 (Ops Tri Fig)
/-! ### A dict that holds a sum's terms -/
structure Rep (d : Raw) (p : Poly) : Prop where
  b : ∃ b n, G b n p ∧ (∀ i, b i < 1000) ∧ prod4 b ≤ 200 ∧ n ≤ 64000
  dn : Dn d
  pm : d.Perm (raw p)
def plI (i : Nat) : Int := [1000000000, 1000000, 1000, 1].getD i 1
def powI (k : Int) (i : Nat) : Int := k / plI i % 1000
theorem powI_pk {m : List Nat} (hm : m.length = 4) (bm : ∀ i, m.getD i 0 < 1000) {i : Nat} (hi : i < 4) : powI (pk m) i = (m.getD i 0 : Int) := by
  obtain ⟨h0, h1, h2, h3⟩ := pk_power hm bm
  match i, hi with
  | 0, _ => exact h0
  | 1, _ => exact h1
  | 2, _ => exact h2
  | 3, _ => exact h3
theorem pk_set {m : List Nat} (hm : m.length = 4) {i : Nat} (hi : i < 4) : pk (m.set i 0) = pk m - (m.getD i 0 : Int) * plI i := by
  obtain ⟨a, b, c, d, rfl⟩ := len4 hm
  match i, hi with
  | 0, _ => simp [pk, plI]; omega
  | 1, _ => simp [pk, plI]; omega
  | 2, _ => simp [pk, plI]; omega
  | 3, _ => simp [pk, plI]
theorem raw_len (p : Poly) : (raw p).length = p.length := List.length_map _
theorem Rep.len {d : Raw} {p : Poly} (h : Rep d p) : d.length = p.length := by rw [h.pm.length_eq, raw_len]
theorem rep_gd {b : Bd} {n : Nat} {p : Poly} {d : Raw} (h : G b n p) (hd : Dn d) (hp : d.Perm (raw p)) : GD b n d := by
  refine ⟨hd, fun t ht => ?_, ?_⟩
  · obtain ⟨u, hu, rfl⟩ := List.mem_map.mp (hp.mem_iff.mp ht)
    exact ⟨u.2, h.w u hu, h.d u hu, rfl⟩
  · have e : nrmD d = nrm p := by
      unfold nrmD nrm
      rw [(hp.map _).sum_nat]
      unfold raw
      rw [List.map_map]
      rfl
    rw [e]
    exact h.z
theorem Rep.gd {d : Raw} {p : Poly} (h : Rep d p) : ∃ b n, GD b n d ∧ (∀ i, b i < 1000) ∧ prod4 b ≤ 200 ∧ n ≤ 64000 := by
  obtain ⟨b, n, g, h1, h2, h3⟩ := h.b
  exact ⟨b, n, rep_gd g h.dn h.pm, h1, h2, h3⟩
theorem Rep.short {d : Raw} {p : Poly} (h : Rep d p) : d.length ≤ 200 := by
  obtain ⟨b, n, g, _, h2, _⟩ := h.gd
  exact Nat.le_trans (Bx.len g.bx g.dn.nd) h2
theorem Rep.w4 {d : Raw} {p : Poly} (h : Rep d p) : W4 p := by
  obtain ⟨b, n, g, _⟩ := h.b
  exact g.w
theorem Rep.lt {d : Raw} {p : Poly} (h : Rep d p) : ∀ t ∈ p, ∀ i, t.2.getD i 0 < 1000 := by
  obtain ⟨b, n, g, h1, _⟩ := h.b
  intro t ht i
  exact Nat.lt_of_le_of_lt (g.d t ht i) (h1 i)
theorem Rep.nil {d : Raw} {p : Poly} (h : Rep d p) : d = [] ↔ p = [] := rep_nil h.pm
/-! ### The greatest of some numbers -/
theorem fmax_le : ∀ (l : List Int) (a x : Int), l.foldl max a ≤ x ↔ a ≤ x ∧ ∀ y ∈ l, y ≤ x
  | [], a, x => by simp
  | z :: l, a, x => by
    rw [List.foldl_cons, fmax_le l]
    simp only [List.mem_cons, forall_eq_or_imp]
    constructor
    · rintro ⟨h1, h2⟩
      exact ⟨by omega, by omega, h2⟩
    · rintro ⟨h1, h2, h3⟩
      exact ⟨by omega, h3⟩
theorem fmax_perm {l m : List Int} (h : l.Perm m) (a : Int) : l.foldl max a = m.foldl max a := by
  refine List.Perm.foldl_eq' h (fun x _ y _ z => ?_) a
  omega
theorem fmax_nat {A : Type} (g : A → Nat) : ∀ (l : List A) (a : Nat), (l.map fun t => ((g t : Nat) : Int)).foldl max (a : Int) = (((l.map g).foldl max a : Nat) : Int)
  | [], a => rfl
  | t :: l, a => by
    rw [List.map_cons, List.foldl_cons, List.map_cons, List.foldl_cons, ← fmax_nat g l]
    congr 1
    omega
/-- **A letter's greatest power.** -/
theorem Rep.degree {d : Raw} {p : Poly} (h : Rep d p) {i : Nat} (hi : i < 4) : (d.map fun t => powI t.1 i).foldl max 0 = (Kh370.degree p i : Int) := by
  rw [fmax_perm (h.pm.map fun t : Int × Int => powI t.1 i)]
  unfold raw
  rw [List.map_map]
  have e : p.map ((fun t : Int × Int => powI t.1 i) ∘ fun t => (pk t.2, t.1)) = p.map fun t => ((t.2.getD i 0 : Nat) : Int) := List.map_congr_left fun t ht => powI_pk (h.w4 t ht) (h.lt t ht) hi
  rw [e]
  exact fmax_nat (fun t : Term => t.2.getD i 0) p 0
def mostD (d : Raw) : Int := (d.map fun t => (t.2.natAbs : Int)).foldl max 0
/-- **Whether all terms can be told.** -/
theorem Rep.sized {d : Raw} {p : Poly} (h : Rep d p) : decide (1000000000000000 < mostD d) = !Kh370.sized p := by
  have e1 : mostD d ≤ 1000000000000000 ↔ Kh370.sized p = true := by
    unfold mostD
    rw [fmax_le]
    unfold Kh370.sized
    rw [List.all_eq_true]
    have eS : Kh370.SIZE = 1000000000000000 := by decide
    constructor
    · rintro ⟨_, h2⟩ t ht
      have hm : (pk t.2, t.1) ∈ d := h.pm.mem_iff.mpr (List.mem_map.mpr ⟨t, ht, rfl⟩)
      have := h2 _ (List.mem_map.mpr ⟨_, hm, rfl⟩)
      simp only [Bool.and_eq_true, decide_eq_true_eq, eS]
      have : ((t.1.natAbs : Nat) : Int) ≤ 1000000000000000 := this
      omega
    · intro h2
      refine ⟨by omega, fun y hy => ?_⟩
      obtain ⟨u, hu, rfl⟩ := List.mem_map.mp hy
      obtain ⟨t, ht, rfl⟩ := List.mem_map.mp (h.pm.mem_iff.mp hu)
      have := h2 t ht
      simp only [Bool.and_eq_true, decide_eq_true_eq, eS] at this
      show ((t.1.natAbs : Nat) : Int) ≤ _
      omega
  cases hs : Kh370.sized p with
  | true => exact decide_eq_false (by have := e1.mpr hs; omega)
  | false =>
    refine decide_eq_true ?_
    have : ¬ mostD d ≤ 1000000000000000 := fun z => by rw [e1.mp z] at hs; cases hs
    omega
/-! ### What divides them all -/
def gcdL (l : List Int) (g : Nat) : Nat := l.foldl (fun g x => Nat.gcd g x.natAbs) g
theorem gcdL_perm {l m : List Int} (h : l.Perm m) (g : Nat) : gcdL l g = gcdL m g := by
  refine List.Perm.foldl_eq' h (fun x _ y _ z => ?_) g
  rw [Nat.gcd_assoc, Nat.gcd_comm x.natAbs, ← Nat.gcd_assoc]
def gcdD (d : Raw) (g : Nat) : Nat := gcdL (d.map (·.2)) g
theorem Rep.common {x y w : Raw} {px py pw : Poly} (hx : Rep x px) (hy : Rep y py) (hw : Rep w pw) : gcdD w (gcdD y (gcdD x 0)) = Kh374.common [px, py, pw] := by
  have e : ∀ {d : Raw} {p : Poly}, Rep d p → ∀ g, gcdD d g = gcdL (p.map (·.1)) g := fun {d p} h g => by
    unfold gcdD
    rw [gcdL_perm (h.pm.map fun t : Int × Int => t.2)]
    unfold raw
    rw [List.map_map]
    rfl
  rw [e hx, e hy, e hw]
  unfold Kh374.common
  show gcdL _ (gcdL _ (gcdL _ 0)) = _
  simp only [List.flatMap_cons, List.flatMap_nil, List.append_nil, List.foldl_append]
  rfl
/-! ### A letter put in -/
def putStep (i : Nat) (v : Int) (t : Raw) (u : Int × Int) : Raw := bump t (u.1 - powI u.1 i * plI i) (u.2 * v ^ (powI u.1 i).toNat)
def putT (d : Raw) (i : Nat) (v : Int) : Raw := d.foldl (putStep i v) []
def mPut (d : Raw) (i : Nat) (v : Int) : Raw := noNought (putT d i v)
theorem putGo_nd (i : Nat) (v : Int) : ∀ (d : Raw) {t : Raw}, Nd t → Nd (d.foldl (putStep i v) t)
  | [], _, h => h
  | u :: d, _, h => putGo_nd i v d (bump_nd h _ _)
theorem putT_nd (d : Raw) (i : Nat) (v : Int) : Nd (putT d i v) := putGo_nd i v d Nd.nil
/-- a linear sum over a dict -/
def lin (F : Int → Int) (d : Raw) : Int := (d.map fun t => t.2 * F t.1).sum
theorem lin_cons (F : Int → Int) (t : Int × Int) (d : Raw) : lin F (t :: d) = t.2 * F t.1 + lin F d := rfl
theorem lin_append (F : Int → Int) (a b : Raw) : lin F (a ++ b) = lin F a + lin F b := by
  unfold lin
  rw [List.map_append, List.sum_append]
theorem lin_set (F : Int → Int) : ∀ {d : Raw}, Nd d → ∀ (k x : Int), has d k = true → lin F (d.map fun t => if t.1 = k then (t.1, (get d k).getD 0 + x) else t) = lin F d + x * F k
  | [], _, k, x, h => by cases h
  | u :: d, hn, k, x, h => by
    by_cases e : u.1 = k
    · have eg : get (u :: d) k = some u.2 := if_pos e
      have er : d.map (fun t => if t.1 = k then (t.1, (get (u :: d) k).getD 0 + x) else t) = d := by
        have : ∀ t ∈ d, (if t.1 = k then (t.1, (get (u :: d) k).getD 0 + x) else t) = t := fun t ht => if_neg fun z => hn.head t ht (z.trans e.symm)
        rw [List.map_congr_left this, List.map_id'']
        intro; rfl
      rw [List.map_cons, er, if_pos e, lin_cons, lin_cons, eg, e]
      show (u.2 + x) * F k + _ = _
      rw [Int.add_mul]
      omega
    · have eg : get (u :: d) k = get d k := if_neg e
      have h2 : has d k = true := by
        obtain ⟨t, ht, ek⟩ := has_iff.mp h
        rcases List.mem_cons.mp ht with z | z
        · exact absurd (by rw [← z]; exact ek) e
        · exact has_iff.mpr ⟨t, z, ek⟩
      rw [List.map_cons, if_neg e, lin_cons, lin_cons, eg, lin_set F hn.tail k x h2]
      omega
theorem lin_bump (F : Int → Int) {d : Raw} (h : Nd d) (k x : Int) : lin F (bump d k x) = lin F d + x * F k := by
  unfold bump put
  by_cases e : has d k = true
  · rw [if_pos e]
    exact lin_set F h k x e
  · rw [if_neg e, lin_append]
    have eg : get d k = none := get_none fun t ht z => e (has_iff.mpr ⟨t, ht, z⟩)
    rw [eg]
    show _ + ((0 + x) * F k + 0) = _
    rw [Int.zero_add, Int.add_zero]
theorem lin_filter (F : Int → Int) : ∀ (d : Raw), lin F (d.filter fun u => decide (u.2 ≠ 0)) = lin F d
  | [] => rfl
  | t :: d => by
    rw [List.filter_cons, lin_cons]
    by_cases e : t.2 = 0
    · rw [if_neg (by simp [e]), lin_filter F d, e, Int.zero_mul, Int.zero_add]
    · rw [if_pos (by simp [e]), lin_cons, lin_filter F d]
/-- what a letter's value makes of a sum over keys -/
def Tj (i : Nat) (v : Int) (F : Int → Int) : Int → Int := fun k => v ^ (powI k i).toNat * F (k - powI k i * plI i)
theorem lin_putGo (F : Int → Int) (i : Nat) (v : Int) : ∀ (d : Raw) {t : Raw}, Nd t → lin F (d.foldl (putStep i v) t) = lin F t + lin (Tj i v F) d
  | [], t, _ => by
    show lin F t = lin F t + 0
    omega
  | u :: d, t, h => by
    rw [List.foldl_cons, lin_putGo F i v d (t := putStep i v t u) (bump_nd h _ _)]
    unfold putStep
    rw [lin_bump F h, lin_cons]
    unfold Tj
    rw [Int.mul_assoc]
    omega
theorem lin_mPut (F : Int → Int) (d : Raw) (i : Nat) (v : Int) : lin F (mPut d i v) = lin (Tj i v F) d := by
  unfold mPut
  rw [noNought_eq (putT_nd d i v), lin_filter]
  unfold putT
  rw [lin_putGo F i v d Nd.nil]
  show 0 + _ = _
  omega
def at0 (k0 : Int) : Int → Int := fun k => if k = k0 then 1 else 0
theorem lin_at : ∀ (d : Raw) (k : Int), lin (at0 k) d = coef d k
  | [], k => rfl
  | t :: d, k => by
    rw [lin_cons, coef_cons, lin_at d k]
    unfold at0
    split <;> omega
theorem dn_nil {d : Raw} (h : Dn d) : d = [] ↔ ∀ k, coef d k = 0 := by
  constructor
  · rintro rfl k
    rfl
  · intro z
    cases d with
    | nil => rfl
    | cons t r =>
      have := (mem_coef h t).mp List.mem_cons_self
      exact absurd (this.1.symm.trans (z _)) this.2
theorem mPut_dn (d : Raw) (i : Nat) (v : Int) : Dn (mPut d i v) := noNought_dn (putT_nd d i v)
theorem lin_perm (F : Int → Int) {d : Raw} {p : Poly} (h : d.Perm (raw p)) : lin F d = (p.map fun t => t.1 * F (pk t.2)).sum := perm_sum h fun k x => x * F k
/-- **Where a sum goes.** -/
theorem Rep.goes {d : Raw} {p : Poly} (h : Rep d p) {i : Nat} (hi : i < 4) (v : Int) : decide (mPut d i v = []) = Kh370.goes 4 p i v := by
  obtain ⟨b, n, g, h1, _⟩ := h.b
  have e : mPut d i v = [] ↔ Kh370.goes 4 p i v = true := by
    rw [goes_iff g h1, dn_nil (mPut_dn d i v)]
    have key : ∀ k, coef (mPut d i v) k = gsum p i v k := fun k => by
      rw [← lin_at, lin_mPut, lin_perm _ h.pm]
      unfold gsum
      congr 1
      refine List.map_congr_left fun t ht => ?_
      unfold Tj at0
      rw [powI_pk (h.w4 t ht) (h.lt t ht) hi, pk_set (h.w4 t ht) hi, Int.toNat_natCast]
      split
      · rw [Int.mul_one]
      · rw [Int.mul_zero, Int.mul_zero]
    constructor
    · intro z k
      rw [← key]
      exact z k
    · intro z k
      rw [key]
      exact z k
  cases hg : Kh370.goes 4 p i v with
  | true => exact decide_eq_true (e.mpr hg)
  | false => exact decide_eq_false fun z => by rw [e.mp z] at hg; cases hg
/-! ### All letters put in -/
theorem Bx.putGo {b : Bd} (hb : ∀ i, b i < 1000) {i : Nat} (hi : i < 4) (v : Int) : ∀ {d t : Raw}, Bx b t → Bx b d → Bx b (d.foldl (putStep i v) t)
  | [], _, h, _ => h
  | u :: d, t, h, hd => by
    rw [List.foldl_cons]
    refine Bx.putGo hb hi v (t := putStep i v t u) (Bx.bump h ?_) (fun x hx => hd x (List.mem_cons_of_mem _ hx))
    obtain ⟨m, h1, h2, e⟩ := hd u List.mem_cons_self
    refine ⟨m.set i 0, by rw [List.length_set, h1], fun j => ?_, ?_⟩
    · rw [List.getD_eq_getElem?_getD, List.getElem?_set]
      split
      · split <;> exact Nat.zero_le _
      · rw [← List.getD_eq_getElem?_getD]
        exact h2 j
    · rw [e, powI_pk h1 (fun j => Nat.lt_of_le_of_lt (h2 j) (hb j)) hi, pk_set h1 hi]
theorem pow_le10 {v : Int} (hv : v.natAbs ≤ 1000) (n : Nat) (hn : n < 1000) : (v ^ n).natAbs ≤ 2 ^ 10000 := by
  rw [Int.natAbs_pow]
  have h1 : v.natAbs ^ n ≤ (2 ^ 10) ^ n := Nat.pow_le_pow_left (by omega) n
  rw [← Nat.pow_mul] at h1
  exact Nat.le_trans h1 (pow2_le (by omega))
theorem powI_lt (k : Int) (i : Nat) : 0 ≤ powI k i ∧ powI k i < 1000 := by
  unfold powI
  omega
theorem nrmD_putGo (i : Nat) {v : Int} (hv : v.natAbs ≤ 1000) : ∀ (d : Raw) {t : Raw}, Nd t → nrmD (d.foldl (putStep i v) t) ≤ nrmD t + nrmD d * 2 ^ 10000
  | [], t, _ => by
    rw [List.foldl_nil]
    exact Nat.le_add_right _ _
  | u :: d, t, h => by
    rw [List.foldl_cons]
    refine Nat.le_trans (nrmD_putGo i hv d (t := putStep i v t u) (bump_nd h _ _)) ?_
    have h1 := nrmD_bump h (u.1 - powI u.1 i * plI i) (u.2 * v ^ (powI u.1 i).toNat)
    have h2 : (u.2 * v ^ (powI u.1 i).toNat).natAbs ≤ u.2.natAbs * 2 ^ 10000 := by
      rw [Int.natAbs_mul]
      exact Nat.mul_le_mul (Nat.le_refl _) (pow_le10 hv _ (by have := powI_lt u.1 i; omega))
    have h3 : nrmD (putStep i v t u) ≤ nrmD t + (u.2 * v ^ (powI u.1 i).toNat).natAbs := h1
    rw [nrmD_cons, Nat.add_mul]
    omega
theorem GD.put {b : Bd} {n : Nat} {d : Raw} (h : GD b n d) (hb : ∀ i, b i < 1000) {i : Nat} (hi : i < 4) {v : Int} (hv : v.natAbs ≤ 1000) : GD b (n + 10000) (mPut d i v) := by
  refine GD.of (putT_nd d i v) (Bx.putGo hb hi v (fun _ h => absurd h List.not_mem_nil) h.bx) ?_
  refine Nat.le_trans (nrmD_putGo i hv d Nd.nil) ?_
  rw [Nat.pow_add]
  show 0 + _ ≤ _
  rw [Nat.zero_add]
  exact Nat.mul_le_mul h.z (Nat.le_refl _)
/-- the values put in from letter j on -/
def mPuts : Raw → Nat → List Int → Raw
  | d, _, [] => d
  | d, j, v :: vs => mPuts (mPut d j v) (j + 1) vs
def Tl : Nat → List Int → Int → Int
  | _, [] => at0 0
  | j, v :: vs => Tj j v (Tl (j + 1) vs)
theorem coef_mPuts : ∀ (vs : List Int) (d : Raw) (j : Nat), coef (mPuts d j vs) 0 = lin (Tl j vs) d
  | [], d, j => (lin_at d 0).symm
  | v :: vs, d, j => by
    show coef (mPuts (mPut d j v) (j + 1) vs) 0 = lin (Tj j v (Tl (j + 1) vs)) d
    rw [coef_mPuts vs, lin_mPut]
theorem Tj_pk {m : List Nat} (hm : m.length = 4) (bm : ∀ i, m.getD i 0 < 1000) {i : Nat} (hi : i < 4) (v : Int) (F : Int → Int) : Tj i v F (pk m) = v ^ (m.getD i 0) * F (pk (m.set i 0)) := by
  unfold Tj
  rw [powI_pk hm bm hi, pk_set hm hi, Int.toNat_natCast]
theorem lt4 {a b c d : Nat} (h : ∀ i, [a, b, c, d].getD i 0 < 1000) (e : List Nat) (he : e = [a, b, c, d] ∨ e = [0, b, c, d] ∨ e = [0, 0, c, d] ∨ e = [0, 0, 0, d]) : ∀ i, e.getD i 0 < 1000 := by
  have h0 : a < 1000 := h 0
  have h1 : b < 1000 := h 1
  have h2 : c < 1000 := h 2
  have h3 : d < 1000 := h 3
  intro i
  rcases he with rfl | rfl | rfl | rfl <;> match i with
  | 0 => first | exact h0 | exact (by decide : 0 < 1000)
  | 1 => first | exact h1 | exact (by decide : 0 < 1000)
  | 2 => first | exact h2 | exact (by decide : 0 < 1000)
  | 3 => exact h3
  | i + 4 => exact (by decide : 0 < 1000)
theorem at0_pk (m : List Nat) (h : pk m = 0) : at0 0 (pk m) = 1 := by
  unfold at0
  rw [if_pos h]
theorem Tl_worth {m : List Nat} (hm : m.length = 4) (bm : ∀ i, m.getD i 0 < 1000) (vs : List Int) (hv : vs.length ≤ 4) (hz : ∀ i, vs.length ≤ i → m.getD i 0 = 0) : Tl 0 vs (pk m) = Kh370.worth (vs ++ List.replicate (4 - vs.length) 0) m := by
  obtain ⟨a, b, c, d, rfl⟩ := len4 hm
  have z0 : (0 : Int) ^ 0 = 1 := rfl
  match vs, hv, hz with
  | [], _, hz =>
    obtain rfl : a = 0 := hz 0 (by simp)
    obtain rfl : b = 0 := hz 1 (by simp)
    obtain rfl : c = 0 := hz 2 (by simp)
    obtain rfl : d = 0 := hz 3 (by simp)
    rfl
  | [x], _, hz =>
    obtain rfl : b = 0 := hz 1 (by simp)
    obtain rfl : c = 0 := hz 2 (by simp)
    obtain rfl : d = 0 := hz 3 (by simp)
    show Tj 0 x (at0 0) (pk [a, 0, 0, 0]) = Kh370.worth [x, 0, 0, 0] [a, 0, 0, 0]
    rw [Tj_pk rfl bm (by decide), worth4]
    show x ^ a * at0 0 (pk [0, 0, 0, 0]) = _
    simp only [at0_pk _ (show pk [0, 0, 0, 0] = 0 by simp [pk]), z0, Int.mul_one]
  | [x, y], _, hz =>
    obtain rfl : c = 0 := hz 2 (by simp)
    obtain rfl : d = 0 := hz 3 (by simp)
    show Tj 0 x (Tj 1 y (at0 0)) (pk [a, b, 0, 0]) = Kh370.worth [x, y, 0, 0] [a, b, 0, 0]
    rw [Tj_pk rfl bm (by decide), worth4]
    show x ^ a * Tj 1 y (at0 0) (pk [0, b, 0, 0]) = _
    rw [Tj_pk rfl (lt4 bm _ (by simp)) (by decide)]
    show x ^ a * (y ^ b * at0 0 (pk [0, 0, 0, 0])) = _
    simp only [at0_pk _ (show pk [0, 0, 0, 0] = 0 by simp [pk]), z0, Int.mul_one]
  | [x, y, z], _, hz =>
    obtain rfl : d = 0 := hz 3 (by simp)
    show Tj 0 x (Tj 1 y (Tj 2 z (at0 0))) (pk [a, b, c, 0]) = Kh370.worth [x, y, z, 0] [a, b, c, 0]
    rw [Tj_pk rfl bm (by decide), worth4]
    show x ^ a * Tj 1 y (Tj 2 z (at0 0)) (pk [0, b, c, 0]) = _
    rw [Tj_pk rfl (lt4 bm _ (by simp)) (by decide)]
    show x ^ a * (y ^ b * Tj 2 z (at0 0) (pk [0, 0, c, 0])) = _
    rw [Tj_pk rfl (lt4 bm _ (by simp)) (by decide)]
    show x ^ a * (y ^ b * (z ^ c * at0 0 (pk [0, 0, 0, 0]))) = _
    simp only [at0_pk _ (show pk [0, 0, 0, 0] = 0 by simp [pk]), z0, Int.mul_one, Int.mul_assoc]
  | [x, y, z, u], _, hz =>
    show Tj 0 x (Tj 1 y (Tj 2 z (Tj 3 u (at0 0)))) (pk [a, b, c, d]) = Kh370.worth [x, y, z, u] [a, b, c, d]
    rw [Tj_pk rfl bm (by decide), worth4]
    show x ^ a * Tj 1 y (Tj 2 z (Tj 3 u (at0 0))) (pk [0, b, c, d]) = _
    rw [Tj_pk rfl (lt4 bm _ (by simp)) (by decide)]
    show x ^ a * (y ^ b * Tj 2 z (Tj 3 u (at0 0)) (pk [0, 0, c, d])) = _
    rw [Tj_pk rfl (lt4 bm _ (by simp)) (by decide)]
    show x ^ a * (y ^ b * (z ^ c * Tj 3 u (at0 0) (pk [0, 0, 0, d]))) = _
    rw [Tj_pk rfl (lt4 bm _ (by simp)) (by decide)]
    show x ^ a * (y ^ b * (z ^ c * (u ^ d * at0 0 (pk [0, 0, 0, 0])))) = _
    simp only [at0_pk _ (show pk [0, 0, 0, 0] = 0 by simp [pk]), Int.mul_one, Int.mul_assoc]
  | x :: y :: z :: u :: e :: r, hv, _ => exact absurd hv (by simp)
/-- **What a sum comes to.** -/
theorem Rep.value {d : Raw} {p : Poly} (h : Rep d p) (vs : List Int) (hv : vs.length ≤ 4) (hz : ∀ t ∈ p, ∀ i, vs.length ≤ i → t.2.getD i 0 = 0) : coef (mPuts d 0 vs) 0 = Kh370.value p (vs ++ List.replicate (4 - vs.length) 0) := by
  rw [coef_mPuts, lin_perm _ h.pm, value_sum]
  congr 1
  refine List.map_congr_left fun t ht => ?_
  rw [Tl_worth (h.w4 t ht) (h.lt t ht) vs hv (hz t ht)]
end Su
end
section
set_option Elab.async false
set_option linter.all false
namespace Su
/-! ### Which sayings fit -/
def sayCnt (k : Nat) : Nat := [2, 3, 4, 4, 4, 4, 4, 6, 6, 6, 3, 4, 6].getD k 0
def sayNum (k : Nat) : Nat := [0, 0, 0, 0, 0, 2, 0, 0, 0, 0, 0, 0, 0].getD k 0
def fitS (k : Nat) (l : List Int) : Bool := decide (k < 13) && (decide (l.length = sayCnt k + sayNum k) && (l.drop (sayCnt k)).all fun x => decide (1 ≤ x) && decide (x ≤ 1000))
theorem pointsOf_eq {k : Nat} (h : k < 13) : Kh372.pointsOf k = sayCnt k := (by decide : ∀ k : Nat, k < 13 → Kh372.pointsOf k = sayCnt k) k h
theorem all_nats : ∀ {l : List Int}, (∀ x ∈ l, 0 ≤ x) → ((l.map Kh374Neutral.nat).all fun x => decide (1 ≤ x) && decide (x ≤ 1000)) = l.all fun x => decide (1 ≤ x) && decide (x ≤ 1000)
  | [], _ => rfl
  | x :: l, h => by
    have h0 := h x List.mem_cons_self
    rw [List.map_cons, List.all_cons, List.all_cons, all_nats fun y hy => h y (List.mem_cons_of_mem _ hy)]
    congr 1
    have e : Kh374Neutral.nat x = x.toNat := rfl
    rw [Bool.eq_iff_iff]
    simp only [Bool.and_eq_true, decide_eq_true_eq, e]
    omega
theorem fit_say (k : Nat) {l : List Int} (h : ∀ x ∈ l, 0 ≤ x) : fitS k l = Kh372.okSaying k (Kh374Neutral.nats l) := by
  unfold fitS Kh372.okSaying Kh374Neutral.nats
  by_cases hk : k < 13
  · have e1 : decide (k < 13) = decide (k < Kh372.sizes.length) := by rw [decide_eq_true hk, decide_eq_true (show k < Kh372.sizes.length from hk)]
    have e2 : sayCnt k + sayNum k = Kh372.sizes.getD k 0 := (by decide : ∀ k : Nat, k < 13 → sayCnt k + sayNum k = Kh372.sizes.getD k 0) k hk
    rw [e1, e2, List.length_map]
    congr 1
    by_cases hl : l.length = Kh372.sizes.getD k 0
    · rw [decide_eq_true hl]
      congr 1
      by_cases h5 : k = 5
      · subst h5
        rw [decide_eq_false (by decide : ¬ (5 : Nat) ≠ 5), Bool.false_or, ← List.map_drop, all_nats fun x hx => h x (List.mem_of_mem_drop hx)]
        rfl
      · rw [decide_eq_true h5, Bool.true_or]
        have e3 : sayCnt k = Kh372.sizes.getD k 0 := (by decide : ∀ k : Nat, k < 13 → k ≠ 5 → sayCnt k = Kh372.sizes.getD k 0) k hk h5
        rw [e3, List.drop_of_length_le (by omega)]
        rfl
    · rw [decide_eq_false hl]
      rfl
  · rw [decide_eq_false hk, decide_eq_false (show ¬ k < Kh372.sizes.length from hk)]
    rfl
end Su
end
section
set_option Elab.async false
set_option linter.all false
set_option maxRecDepth 100000
set_option maxHeartbeats 2000000
namespace Ds
open PySem PySem.Spec PyProof.Rows L2 Su
open Evl (Ex)
abbrev FnP (K : PySem.W.Frag) (x qual : Str) (st : Stmt) (f : Addr) (fd : FuncData) : Prop := FunD K x qual (defArgs st) (defBody st) (defScope st) [] [] f fd
/-! ### Representations: what a value is, and goes on being while nothing tracked changes -/
structure Rp where
  is : V → Hp → Prop
  stay : ∀ {v H H'}, Ex H H' → is v H → is v H'
def All2 : List Rp → List V → Hp → Prop
  | [], vs, _ => vs = []
  | R :: Rs, vs, H => ∃ v r, vs = v :: r ∧ R.is v H ∧ All2 Rs r H
theorem All2.stay {H H' : Hp} (e : Ex H H') : ∀ {Rs : List Rp} {vs : List V}, All2 Rs vs H → All2 Rs vs H'
  | [], _, h => h
  | R :: Rs, vs, ⟨v, r, h1, h2, h3⟩ => ⟨v, r, h1, R.stay e h2, All2.stay e h3⟩
theorem All2.len {H : Hp} : ∀ {Rs : List Rp} {vs : List V}, All2 Rs vs H → vs.length = Rs.length
  | [], _, h => by
    rw [show _ = _ from h]
    rfl
  | R :: Rs, vs, ⟨v, r, h1, h2, h3⟩ => by
    rw [h1, List.length_cons, All2.len h3]
    rfl
theorem All2.get {H : Hp} : ∀ {Rs : List Rp} {vs : List V}, All2 Rs vs H → ∀ (i : Nat) (R : Rp), Rs[i]? = some R → ∃ v, vs[i]? = some v ∧ R.is v H
  | [], _, _, i, R, h => by simp at h
  | R :: Rs, vs, ⟨v, r, h1, h2, h3⟩, 0, R', h => by
    have e : R = R' := Option.some.inj h
    rw [h1, ← e]
    exact ⟨v, rfl, h2⟩
  | R :: Rs, vs, ⟨v, r, h1, h2, h3⟩, i + 1, R', h => by
    obtain ⟨u, hu, hr⟩ := All2.get h3 i R' h
    rw [h1]
    exact ⟨u, hu, hr⟩
def rV (x : V) : Rp := ⟨fun v _ => v = x, fun _ h => h⟩
abbrev rInt (i : Int) : Rp := rV (.int i)
def ed (d : Raw) : List (Key × V) := d.map fun t => (Sum.inl t.1, V.int t.2)
def rD (d : Raw) : Rp := ⟨fun v H => ∃ p, v = .ref p ∧ H p = some (.dK (ed d)), fun e ⟨p, h1, h2⟩ => ⟨p, h1, e p _ h2⟩⟩
def rTup (Rs : List Rp) : Rp := ⟨fun v H => ∃ p vs, v = .ref p ∧ H p = some (.tup vs) ∧ All2 Rs vs H, fun e ⟨p, vs, h1, h2, h3⟩ => ⟨p, vs, h1, e p _ h2, h3.stay e⟩⟩
def rLst (Rs : List Rp) : Rp := ⟨fun v H => ∃ p vs, v = .ref p ∧ H p = some (.lst vs) ∧ All2 Rs vs H, fun e ⟨p, vs, h1, h2, h3⟩ => ⟨p, vs, h1, e p _ h2, h3.stay e⟩⟩
/-! ### What a reading comes to -/
def EvP (te : TE) (σ : L2.St) (H : Hp) (R : Rp) : Prop := ∀ H1, Ex H H1 → ∀ Q : VK, (∀ v H2, Ex H1 H2 → R.is v H2 → Q v H2) → te σ H1 Q
def EvPs (ta : TA) (σ : L2.St) (H : Hp) (Rs : List Rp) : Prop := ∀ H1, Ex H H1 → ∀ Q : List V → Hp → Prop, (∀ vs H2, Ex H1 H2 → All2 Rs vs H2 → Q vs H2) → ta σ H1 Q
section
variable {K : PySem.W.Frag} {σ : L2.St} {H : Hp} {R S : Rp} {Rs : List Rp} {te tf : TE} {ta : TA}
theorem EvP.up {H' : Hp} (h : EvP te σ H R) (e : Ex H H') : EvP te σ H' R := fun H1 e1 Q q => h H1 (e.trans e1) Q q
theorem evp_var {i : Nat} {v : V} (hv : σ[i]? = some (some v)) (h : R.is v H) : EvP (tVar i) σ H R := fun H1 e Q q => ⟨v, hv, q v H1 (Ex.refl _) (R.stay e h)⟩
theorem evp_c {v : V} (h : R.is v H) : EvP (tC v) σ H R := fun H1 e Q q => q v H1 (Ex.refl _) (R.stay e h)
theorem evps_nil : EvPs tNil σ H [] := fun H1 _ Q q => q [] H1 (Ex.refl _) rfl
theorem evps_cons (h : EvP te σ H R) (hs : EvPs ta σ H Rs) : EvPs (tCons te ta) σ H (R :: Rs) := fun H1 e Q q =>
  h H1 e _ fun v H2 e2 r => hs H2 (e.trans e2) _ fun vs H3 e3 rs => q (v :: vs) H3 (e2.trans e3) ⟨v, vs, rfl, R.stay e3 r, rs⟩
/-- what a def does with what it's handed, nothing tracked being changed -/
def pf (C : List Rp → Rp → Prop) : Sp := fun vs H Q _ => ∃ Rs R, C Rs R ∧ All2 Rs vs H ∧ ∀ v H', Ex H H' → R.is v H' → Q v H'
theorem evp_call {C : List Rp → Rp → Prop} {E : XK} (h : EvPs ta σ H Rs) (c : C Rs R) : EvP (tCall (pf C) [] E ta) σ H R := fun H1 e Q q =>
  h H1 e _ fun vs H2 e2 rs => by
    show pf C (vs ++ []) H2 Q E
    rw [List.append_nil]
    exact ⟨Rs, R, c, rs, fun v H3 e3 r => q v H3 (e2.trans e3) r⟩
theorem evp_tup (h : EvPs ta σ H Rs) (hz : Rs.length ≤ 100) : EvP (tTup ta) σ H (rTup Rs) := fun H1 e Q q =>
  h H1 e _ fun vs H2 e2 rs => ⟨Nat.le_trans (by rw [rs.len]; exact hz) (by decide : 100 ≤ sizeLine), fun p np => q _ _ (e2.trans (Ex.new np)) ⟨p, vs, rfl, upd_same, rs.stay (Ex.new np)⟩⟩
theorem evp_lst (h : EvPs ta σ H Rs) (hz : Rs.length ≤ 100) : EvP (tLst ta) σ H (rLst Rs) := fun H1 e Q q =>
  h H1 e _ fun vs H2 e2 rs => ⟨Nat.le_trans (by rw [rs.len]; exact hz) (by decide : 100 ≤ sizeLine), fun p np => q _ _ (e2.trans (Ex.new np)) ⟨p, vs, rfl, upd_same, rs.stay (Ex.new np)⟩⟩
theorem evp_ixT {j : Nat} (h : EvP te σ H (rTup Rs)) (hi : EvP tf σ H (rInt (j : Int))) (hR : Rs[j]? = some R) : EvP (tOp (rIxT K) te tf) σ H R := fun H1 e Q q =>
  h H1 e _ fun v H2 e2 ⟨p, vs, ev, hp, rs⟩ => hi H2 (e.trans e2) _ fun u H3 e3 hu => by
    obtain ⟨x, hx, hr⟩ := (rs.stay e3).get j R hR
    exact ⟨p, vs, j, x, ev, hu, .inl (.inl (e3 p _ hp)), atI_nat hx, q x H3 (e2.trans e3) hr⟩
theorem evp_ixL {j : Nat} (h : EvP te σ H (rLst Rs)) (hi : EvP tf σ H (rInt (j : Int))) (hR : Rs[j]? = some R) : EvP (tOp (rIxL K) te tf) σ H R := fun H1 e Q q =>
  h H1 e _ fun v H2 e2 ⟨p, vs, ev, hp, rs⟩ => hi H2 (e.trans e2) _ fun u H3 e3 hu => by
    obtain ⟨x, hx, hr⟩ := (rs.stay e3).get j R hR
    exact ⟨p, vs, j, x, ev, hu, .inl (.inl (e3 p _ hp)), atI_nat hx, q x H3 (e2.trans e3) hr⟩
theorem s_retP {D : Ends} (h : EvP te σ H R) (k : ∀ v H1, Ex H H1 → R.is v H1 → D.rt v H1) : tRet te D σ H := h H (Ex.refl H) _ k
theorem s_asgP {D : Ends} {i : Nat} (h : EvP te σ H R) (k : ∀ v H1, Ex H H1 → R.is v H1 → D.nx (σ.set i (some v)) H1) : tAsg te (gName i) D σ H := h H (Ex.refl H) _ k
end
/-! ### An instance, by its fields -/
def FldAt : List (Str × Rp) → List (Str × V) → Hp → Prop
  | [], fs, _ => fs = []
  | (n, R) :: rs, fs, H => ∃ v r, fs = (n, v) :: r ∧ R.is v H ∧ FldAt rs r H
theorem FldAt.stay {H H' : Hp} (e : Ex H H') : ∀ {rs : List (Str × Rp)} {fs : List (Str × V)}, FldAt rs fs H → FldAt rs fs H'
  | [], _, h => h
  | (n, R) :: rs, fs, ⟨v, r, h1, h2, h3⟩ => ⟨v, r, h1, R.stay e h2, FldAt.stay e h3⟩
theorem FldAt.get {H : Hp} {n : Str} {R : Rp} : ∀ {rs : List (Str × Rp)} {fs : List (Str × V)}, FldAt rs fs H → rs.lookup n = some R → ∃ v, fs.lookup n = some v ∧ R.is v H
  | [], _, _, h => by simp at h
  | (m, S) :: rs, fs, ⟨v, r, h1, h2, h3⟩, h => by
    rw [h1]
    rw [List.lookup_cons] at h ⊢
    cases e : n == m with
    | true =>
      rw [e] at h
      have eS : S = R := Option.some.inj h
      rw [← eS]
      exact ⟨v, rfl, h2⟩
    | false =>
      rw [e] at h
      exact FldAt.get h3 h
def rIns (C : Addr) (rs : List (Str × Rp)) : Rp := ⟨fun v H => ∃ p dx fs, v = .ref p ∧ H p = some (.ins C dx fs) ∧ FldAt rs fs H, fun e ⟨p, dx, fs, h1, h2, h3⟩ => ⟨p, dx, fs, h1, e p _ h2, h3.stay e⟩⟩
theorem evp_fld {K : PySem.W.Frag} {σ : L2.St} {H : Hp} {R : Rp} {te : TE} {C : Addr} {rs : List (Str × Rp)} {n : Str} (cl : Cls K C) (na : NoAttr K C n) (h : EvP te σ H (rIns C rs)) (hl : rs.lookup n = some R) : EvP (tFld K te n) σ H R := fun H1 e Q q =>
  h H1 e _ fun v H2 e2 ⟨p, dx, fs, ev, hp, hf⟩ => by
    obtain ⟨x, hx, hr⟩ := hf.get hl
    exact ⟨p, C, dx, fs, x, ev, hp, cl, na, hx, q x H2 e2 hr⟩
/-! ### Dicts -/
theorem ed_len (d : Raw) : (ed d).length = d.length := List.length_map _
theorem valV_ed (d : Raw) (k : Int) : valV (ed d) (Sum.inl k) = (get d k).map V.int := by
  induction d with
  | nil => rfl
  | cons t r ih =>
    by_cases e : t.1 = k
    · have e1 : get (t :: r) k = some t.2 := if_pos e
      rw [e1]
      exact valV_pos (p := ((Sum.inl t.1 : Key), V.int t.2)) (congrArg Sum.inl e)
    · have e1 : get (t :: r) k = get r k := if_neg e
      rw [e1, ← ih]
      exact valV_neg (p := ((Sum.inl t.1 : Key), V.int t.2)) fun z => e (Sum.inl.inj z)
theorem putK_ed (d : Raw) (k v : Int) : putK (ed d) (Sum.inl k) (V.int v) = ed (put d k v) := by
  unfold putK put
  have h : ((ed d).any fun kv => decide (kv.1 = (Sum.inl k : Key))) = has d k := by
    unfold ed has
    rw [List.any_map]
    congr 1
    funext t
    show decide ((Sum.inl t.1 : Key) = Sum.inl k) = decide (t.1 = k)
    by_cases e : t.1 = k
    · rw [decide_eq_true e, decide_eq_true (congrArg Sum.inl e)]
    · rw [decide_eq_false e, decide_eq_false fun z => e (Sum.inl.inj z)]
  rw [h]
  by_cases e : has d k = true
  · rw [if_pos e, if_pos e]
    unfold ed
    rw [List.map_map, List.map_map]
    refine List.map_congr_left fun t _ => ?_
    show (if (Sum.inl t.1 : Key) = Sum.inl k then ((Sum.inl t.1 : Key), V.int v) else (Sum.inl t.1, V.int t.2)) = _
    by_cases f : t.1 = k
    · rw [if_pos (congrArg Sum.inl f)]
      show _ = ((fun t : Int × Int => ((Sum.inl t.1 : Key), V.int t.2)) (if t.1 = k then (t.1, v) else t))
      rw [if_pos f]
    · rw [if_neg fun z => f (Sum.inl.inj z)]
      show _ = ((fun t : Int × Int => ((Sum.inl t.1 : Key), V.int t.2)) (if t.1 = k then (t.1, v) else t))
      rw [if_neg f]
  · rw [if_neg e, if_neg e]
    unfold ed
    rw [List.map_append]
    rfl
theorem getD_ed (d : Raw) (k : Int) : (valV (ed d) (Sum.inl k)).getD (V.int 0) = V.int ((get d k).getD 0) := by
  rw [valV_ed]
  cases get d k <;> rfl
theorem ed_get {d : Raw} {i : Nat} {k : Key} {v : V} (h : (ed d)[i]? = some (k, v)) : ∃ t, d[i]? = some t ∧ k = Sum.inl t.1 ∧ v = V.int t.2 := by
  unfold ed at h
  rw [List.getElem?_map] at h
  cases e : d[i]? with
  | none =>
    rw [e] at h
    cases h
  | some t =>
    rw [e] at h
    have h2 := Option.some.inj h
    exact ⟨t, rfl, (Prod.mk.inj h2).1.symm, (Prod.mk.inj h2).2.symm⟩
/-- for k, v in d.items(), d locked -/
theorem for_items {d : Addr} {o : Obj} {kvs : List (Key × V)} {g : TG} {tb : TS} {D : Ends} {σ : L2.St} {H : Hp} (Pv : Nat → L2.St → Hp → Prop) (h0 : Pv 0 σ H) (hl : ∀ i σ H, Pv i σ H → H d = some (.frz o (.dK kvs)))
    (hs : ∀ i k v T σ H, kvs[i]? = some (k, v) → Pv i σ H → H T = none → g (.ref T) σ (upd H T (.tup [kV k, v])) fun σ2 H2 => tb { D with nx := Pv (i + 1), ct := Pv (i + 1), bk := D.nx } σ2 H2) (hd : ∀ σ H, Pv kvs.length σ H → D.nx σ H) :
    ∃ W : Nat → Nat → L2.St → Hp → Prop, (∃ m, W 0 m σ H) ∧ ∀ i m σ H, W i m σ H →
      ((Iti d o kvs).stop i H ∧ D.nx σ H) ∨ ((Iti d o kvs).go i H ∧ ∃ N : L2.St → Hp → Prop, (∀ σ' H', N σ' H' → ∃ m', m' < m ∧ W (i + 1) m' σ' H') ∧ ∀ x H', (Iti d o kvs).yld i H x H' → g x σ H' fun σ2 H2 => tb { D with nx := N, ct := N, bk := D.nx } σ2 H2) := by
  refine ⟨fun i m σ H => m = kvs.length - i ∧ i ≤ kvs.length ∧ Pv i σ H, ⟨kvs.length, by simp, Nat.zero_le _, h0⟩, ?_⟩
  rintro i m σ H ⟨rfl, hi, p⟩
  have q := hl i σ H p
  by_cases hlt : i < kvs.length
  · refine .inr ⟨⟨q, hlt⟩, Pv (i + 1), fun σ' H' p' => ⟨kvs.length - (i + 1), by omega, rfl, hlt, p'⟩, fun x H' y => ?_⟩
    obtain ⟨T, k, v, h1, h2, h3, h4⟩ := y
    subst h2 h4
    exact hs i k v T σ H h1 p h3
  · have e : i = kvs.length := by omega
    subst e
    exact .inl ⟨⟨q, Nat.le_refl _⟩, hd σ H p⟩
def rInts (l : List Int) : Rp := ⟨fun v H => ∃ p, v = .ref p ∧ H p = some (.lst (l.map V.int)), fun e ⟨p, h1, h2⟩ => ⟨p, h1, e p _ h2⟩⟩
/-- what else a point keeps -/
structure PtX where
  kind : Nat
  told : List Int
  reach : List Nat
  heavy : Nat
theorem lkg_here {A : Type} {k : Str} {v : A} {r : List (Str × A)} : List.lookup k ((k, v) :: r) = some v := by
  have e : (k == k) = true := beq_self_eq_true k
  simp only [List.lookup, e]
theorem lkg_past {A : Type} {k g : Str} {v : A} {r : List (Str × A)} (h : (k == g) = false) : List.lookup k ((g, v) :: r) = List.lookup k r := by
  simp only [List.lookup, h]
/-! ### The heap without some of it -/
open Classical in
noncomputable def nw (B : Addr → Prop) (H : Hp) : Hp := fun a => if B a then none else H a
theorem nw_ne {B : Addr → Prop} {H : Hp} {a : Addr} (h : ¬ B a) : nw B H a = H a := if_neg h
theorem nw_at {B : Addr → Prop} {H : Hp} {a : Addr} (h : B a) : nw B H a = none := if_pos h
theorem nw_some {B : Addr → Prop} {H : Hp} {a : Addr} {o : HO} (h : nw B H a = some o) : ¬ B a ∧ H a = some o := by
  by_cases e : B a
  · rw [nw_at e] at h
    cases h
  · rw [nw_ne e] at h
    exact ⟨e, h⟩
theorem nw_ex (B : Addr → Prop) (H : Hp) : Ex (nw B H) H := fun a o h => (nw_some h).2
theorem nw_mono {B : Addr → Prop} {H H' : Hp} (e : Ex H H') : Ex (nw B H) (nw B H') := fun a o h => by
  obtain ⟨h1, h2⟩ := nw_some h
  rw [nw_ne h1]
  exact e a o h2
theorem nw_upd {B : Addr → Prop} {H : Hp} {q : Addr} {o : HO} (h : B q) : nw B (L2.upd H q o) = nw B H := funext fun a => by
  by_cases e : B a
  · rw [nw_at e, nw_at e]
  · rw [nw_ne e, nw_ne e, upd_ne fun z => e (by rw [z]; exact h)]
end Ds
end
section
set_option Elab.async false
set_option linter.all false
set_option maxRecDepth 100000
set_option maxHeartbeats 2000000
namespace Ds
open PySem PySem.Spec PyProof.Rows L2 Su
open Evl (Ex)
section
variable {P : Program} {w : World} {K : PySem.W.Frag} {mg : Str → Option Value} {base : Heap}
/-- a def that stands under its name and keeps its promise -/
def Good (P : Program) (w : World) (K : PySem.W.Frag) (mg : Str → Option Value) (base : Heap) (x : Str) (k : Nat) (ps : List Str) (sp : Sp) : Prop :=
  ∃ f fd, mg x = some (.ref f) ∧ PySem.W.keepIn K (.ref f) = true ∧ Binds K fd ps [] ∧ FnOk P w K mg base CX0 k f fd ps sp
def Decl (K : PySem.W.Frag) (mg : Str → Option Value) (x : Str) (st : Stmt) : Prop := ∃ f fd, FnP K x x st f fd ∧ mg x = some (.ref f)
theorem pe_g {X : Cx} {x : Str} {k : Nat} {ps : List Str} {sp : Sp} {e : Expr} {es : List Expr} {t : TA} {p pos : Pos} (g : Good X.prog X.w X.K X.mg X.base x k ps sp) (hr : Room k X.A) (hg : Gl X x) (ha : PA X (e :: es) t)
    (hdb : (x == ("__debug__" : Str)) = false := by decide) (he : starEach (e :: es) X.env = (false, eval e X.env) :: starEach es X.env := by rfl) (hpl : (backTo pos (starEach es X.env)).any (·.1) = false := by rfl) :
    PE X (.Call (.Name x p) (e :: es) [] pos) (tCall sp [] E0 t) := by
  obtain ⟨f, fd, h1, h2, h3, h4⟩ := g
  exact pe_call h4 hr hg h1 h2 h3 .nil pass0 ha hdb he hpl
/-- where a def's body is read: its slots, its context -/
theorem Decl.good {x : Str} {st : Stmt} {N ps : List Str} {k : Nat} {sp : Sp} (d : Decl K mg x st) (S : FnScope N ps (defScope st)) (hb : ∀ (kV doc pm : Value) (an : Option Addr) (cdv ct : Value) (us : List Value), us.length = ps.length → bindArgs (PySem.W.fnOf x x (defArgs st) (defBody st) (defScope st) .none kV doc pm an cdv ct) ⟨us, []⟩ = pure (ps.zip us))
    (len : ∀ vs H Q E, sp vs H Q E → vs.length = ps.length)
    (hbody : ∀ (f : Addr) (cdv : Value) (A : Around) (outer : List Env) (s : Shared) (H : Hp) (vs : List V) (Q : VK) (E : XK), Room k (A.deeper (envOfC x (defScope st) s.heap.objs.size f cdv)) → sp vs H Q E →
      ∃ t, PSs (cxOf CX0 P w K mg base N x (defScope st) f cdv A outer s H E).nox (defBody st) t ∧ t { nx := fun _ H' => Q .non H', rt := Q } (start N vs) H) : Good P w K mg base x (k + 1) ps sp := by
  obtain ⟨f, fd, F, hm⟩ := d
  refine ⟨f, fd, hm, F.kp, F.bindsN hb, F.ok S len fun cdv A outer s H vs Q E hr h => ?_⟩
  obtain ⟨t, h1, h2⟩ := hbody f cdv A outer s H vs Q E hr h
  exact ⟨t, PSs.nox h1, h2⟩
theorem pf_len {C : List Rp → Rp → Prop} {n : Nat} (hC : ∀ Rs R, C Rs R → Rs.length = n) : ∀ vs H Q E, pf C vs H Q E → vs.length = n := fun vs H Q E ⟨Rs, R, c, ha, _⟩ => ha.len.trans (hC Rs R c)
/-! ### without_noughts -/
inductive cWo : List Rp → Rp → Prop
  | mk (d : Raw) : Nd d → d.length < sizeLine → cWo [rD d] (rD (noNought d))
theorem sc_wo : FnScope ["f", "kept", "key", "number"] ["f"] (defScope s_without_noughts) := ⟨rfl, rfl, rfl, by decide +kernel, rfl, by decide +kernel, by decide +kernel⟩
def woStep (kept : Raw) (u : Int × Int) : Raw := if u.2 ≠ 0 then put kept u.1 u.2 else kept
theorem woStep_len (kept : Raw) (u : Int × Int) : (woStep kept u).length ≤ kept.length + 1 := by
  unfold woStep put
  split
  · split
    · rw [List.length_map]
      omega
    · rw [List.length_append]
      exact Nat.le_refl _
  · omega
theorem fold_take {A B : Type} (f : B → A → B) (b : B) (l : List A) (i : Nat) (x : A) (h : l[i]? = some x) : (l.take (i + 1)).foldl f b = f ((l.take i).foldl f b) x := by
  have hi := (List.getElem?_eq_some_iff.mp h).1
  rw [List.take_add_one, h, List.foldl_append]
  rfl
theorem wo_len (d : Raw) : ∀ i, ((d.take i).foldl woStep []).length ≤ i := by
  intro i
  induction i with
  | zero => exact Nat.le_refl _
  | succ i ih =>
    cases e : d[i]? with
    | none =>
      have hl := List.getElem?_eq_none_iff.mp e
      rw [List.take_of_length_le (by omega)]
      rw [List.take_of_length_le hl] at ih
      omega
    | some x =>
      rw [fold_take _ _ _ _ _ e]
      have := woStep_len ((d.take i).foldl woStep []) x
      omega
theorem good_wo (d : Decl K mg "without_noughts" s_without_noughts) : Good P w K mg base "without_noughts" 1 ["f"] (pf cWo) := by
  refine d.good sc_wo (fun _ _ _ _ _ _ us hl => match us, hl with | [_], _ => rfl) (pf_len fun _ _ c => by cases c; rfl) fun f cdv A outer s H vs Q E hr h => ?_
  obtain ⟨Rs, R, c, ha, q⟩ := h
  cases c with
  | mk d nd hd =>
  obtain ⟨v, r, rfl, ⟨p, rfl, hp⟩, rfl⟩ := ha
  have hu := hu_of hr
  refine ⟨_, pss_cons (ps_set (i := 1) sc_wo.nd rfl (.inl rfl) pe_dnewK)
    (pss_cons (ps_lock (ps_for PassesOwn.never rfl (pi_items (pv 0)) (pg_tup rfl (pgs_cons (pg_name (i := 2) sc_wo.nd rfl (.inl rfl)) (pgs_cons (pg_name (i := 3) sc_wo.nd rfl (.inl rfl)) pgs_nil)))
      (pss_one (ps_if (pt_cmpR op_ne (pv 3) pe_int (nomark _)) (pss_one (ps_dput hu (pv 1) (pv 2) (pv 3) rfl)) pss_nil))))
    (pss_one (ps_ret (pv 1)))), ?_⟩
  intro k nk
  have npk : p ≠ k := ne_of_none hp nk
  refine ⟨p, .dK (ed d), by rw [upd_ne npk]; exact hp, trivial, fun od => ?_⟩
  refine ⟨_, rfl, p, od, ed d, rfl, upd_same, ?_⟩
  refine for_items (fun i σ H' => ∃ y2 y3, σ = [some (.ref p), some (.ref k), y2, y3] ∧ H' p = some (.frz od (.dK (ed d))) ∧ H' k = some (.dK (ed ((d.take i).foldl woStep []))) ∧ ∀ a o, H a = some o → a ≠ p → H' a = some o) ?_ (fun i σ H' ⟨_, _, _, h, _⟩ => h) ?_ ?_
  · refine ⟨none, none, rfl, upd_same, ?_, fun a o ha hne => ?_⟩
    · rw [upd_ne npk.symm, upd_same]
      rfl
    · rw [upd_ne hne, upd_ne (ne_of_none ha nk)]
      exact ha
  · rintro i key val T σ H' hi ⟨y2, y3, rfl, hp', hk', hx⟩ nT
    obtain ⟨t, ht, rfl, rfl⟩ := ed_get hi
    have nTk : k ≠ T := ne_of_none hk' nT
    have nTp : p ≠ T := ne_of_none hp' nT
    refine ⟨T, [.int t.1, .int t.2], rfl, .inl (.inl upd_same), rfl, _, _, rfl, _, _, rfl, rfl, ?_⟩
    have hk2 : (upd H' T (.tup [.int t.1, .int t.2])) k = some (.dK (ed ((d.take i).foldl woStep []))) := by rw [upd_ne nTk]; exact hk'
    have hp2 : (upd H' T (.tup [.int t.1, .int t.2])) p = some (.frz od (.dK (ed d))) := by rw [upd_ne nTp]; exact hp'
    have hx2 : ∀ a o, H a = some o → a ≠ p → (upd H' T (.tup [.int t.1, .int t.2])) a = some o := fun a o ha hne => by
      rw [upd_ne (ne_of_none (hx a o ha hne) nT)]
      exact hx a o ha hne
    refine ⟨_, rfl, rfl, _, rfl, ?_⟩
    have hst := fold_take woStep [] d i t ht
    by_cases e : t.2 = 0
    · have e1 : woStep ((d.take i).foldl woStep []) t = (d.take i).foldl woStep [] := if_neg (fun z => z e)
      rw [e1] at hst
      have e2 : (!decide (V.int t.2 = V.int 0)) = false := by rw [e]; rfl
      rw [e2]
      refine iteF ⟨_, _, rfl, hp2, ?_, hx2⟩
      rw [hst]
      exact hk2
    · have e1 : woStep ((d.take i).foldl woStep []) t = put ((d.take i).foldl woStep []) t.1 t.2 := if_pos e
      rw [e1] at hst
      have e2 : (!decide (V.int t.2 = V.int 0)) = true := by
        rw [decide_eq_false fun z => e (V.int.inj z)]
        rfl
      rw [e2]
      refine iteT ⟨_, rfl, _, rfl, _, rfl, k, _, rfl, DPut.k (k := Sum.inl t.1) hk2 ?_, ?_⟩
      · rw [ed_len]
        have := wo_len d i
        have hi2 := (List.getElem?_eq_some_iff.mp ht).1
        omega
      · refine ⟨_, _, rfl, ?_, ?_, fun a o ha hne => ?_⟩
        · rw [upd_ne npk]
          exact hp2
        · rw [upd_same, hst, putK_ed]
        · rw [upd_ne (ne_of_none ha nk)]
          exact hx2 a o ha hne
  · rintro σ H' ⟨y2, y3, rfl, hp', hk', hx⟩
    refine ⟨hp', _, rfl, ?_⟩
    refine q _ _ (fun a o ha => ?_) ⟨k, rfl, ?_⟩
    · by_cases e : a = p
      · rw [e, upd_same]
        rw [e, hp] at ha
        exact ha
      · rw [upd_ne e]
        exact hx a o ha e
    · rw [upd_ne npk.symm, hk', ed_len, List.take_length]
      rfl
/-! ### plus, less -/
theorem fold_grow {A : Type} {f : Raw → A → Raw} (hf : ∀ b x, b.length ≤ (f b x).length) : ∀ (l : List A) (b : Raw), b.length ≤ (l.foldl f b).length
  | [], _ => Nat.le_refl _
  | x :: r, b => Nat.le_trans (hf b x) (fold_grow hf r (f b x))
theorem fold_part {A : Type} {f : Raw → A → Raw} (hf : ∀ b x, b.length ≤ (f b x).length) (l : List A) (b : Raw) (i : Nat) : ((l.take i).foldl f b).length ≤ (l.foldl f b).length := by
  conv => rhs; rw [← List.take_append_drop i l, List.foldl_append]
  exact fold_grow hf _ _
theorem bump_grow (d : Raw) (k v : Int) : d.length ≤ (bump d k v).length := by
  unfold Su.bump Su.put
  split
  · rw [List.length_map]
    exact Nat.le_refl _
  · rw [List.length_append]
    exact Nat.le_add_right _ _
inductive cPlus : List Rp → Rp → Prop
  | mk (f g : Raw) : Nd f → (plusT f g).length < sizeLine → cPlus [rD f, rD g] (rD (mPlus f g))
inductive cLess : List Rp → Rp → Prop
  | mk (f g : Raw) : Nd f → (lessT f g).length < sizeLine → cLess [rD f, rD g] (rD (mLess f g))
theorem sc_plus : FnScope ["f", "g", "total", "key", "number"] ["f", "g"] (defScope s_plus) := ⟨rfl, rfl, rfl, by decide +kernel, rfl, by decide +kernel, by decide +kernel⟩
theorem sc_less : FnScope ["f", "g", "total", "key", "number"] ["f", "g"] (defScope s_less) := ⟨rfl, rfl, rfl, by decide +kernel, rfl, by decide +kernel, by decide +kernel⟩
theorem good_plus (d : Decl K mg "plus" s_plus) (gw : Good P w K mg base "without_noughts" 1 ["f"] (pf cWo)) (md : mg "dict" = none) : Good P w K mg base "plus" 2 ["f", "g"] (pf cPlus) := by
  refine d.good sc_plus (fun _ _ _ _ _ _ us hl => match us, hl with | [_, _], _ => rfl) (pf_len fun _ _ c => by cases c; rfl) fun f cdv A outer s H vs Q E hr h => ?_
  obtain ⟨Rs, R, c, ha, q⟩ := h
  cases c with
  | mk f g nf hz =>
  obtain ⟨_, _, rfl, ⟨p, rfl, hp⟩, _, _, rfl, ⟨b, rfl, hb⟩, rfl⟩ := ha
  have hu := hu_of hr
  refine ⟨_, pss_cons (ps_set (i := 2) sc_plus.nd rfl (.inl rfl) (pe_callTy call_dictD (by rfl) md (by decide +kernel) (pa_cons (pv 0) pa_nil)))
    (pss_cons (ps_lock (ps_for PassesOwn.never rfl (pi_items (pv 1)) (pg_tup rfl (pgs_cons (pg_name (i := 3) sc_plus.nd rfl (.inl rfl)) (pgs_cons (pg_name (i := 4) sc_plus.nd rfl (.inl rfl)) pgs_nil)))
      (pss_one (ps_dput hu (pv 2) (pv 3) (pe_op op_add (pe_dget2 hu (pv 2) (pv 3) pe_int ⟨rfl, rfl, rfl, rfl⟩) (pv 4)) rfl))))
    (pss_one (ps_ret (pe_g gw hr (by rfl) (pa_cons (pv 2) pa_nil))))), ?_⟩
  refine ⟨_, rfl, p, ed f, rfl, .inl hp, fun k nk => ?_⟩
  have nbk : b ≠ k := ne_of_none hb nk
  refine ⟨b, .dK (ed g), by rw [upd_ne nbk]; exact hb, trivial, fun od => ?_⟩
  refine ⟨_, rfl, b, od, ed g, rfl, upd_same, ?_⟩
  refine for_items (fun i σ H' => ∃ y2 y3, σ = [some (.ref p), some (.ref b), some (.ref k), y2, y3] ∧ H' b = some (.frz od (.dK (ed g))) ∧ H' k = some (.dK (ed ((g.take i).foldl (fun t u => bump t u.1 u.2) f))) ∧ ∀ a o, H a = some o → a ≠ b → H' a = some o) ?_ (fun i σ H' ⟨_, _, _, h, _⟩ => h) ?_ ?_
  · refine ⟨none, none, rfl, upd_same, ?_, fun a o ha hne => ?_⟩
    · rw [upd_ne nbk.symm, upd_same]
      rfl
    · rw [upd_ne hne, upd_ne (ne_of_none ha nk)]
      exact ha
  · rintro i key val T σ H' hi ⟨y2, y3, rfl, hp', hk', hx⟩ nT
    obtain ⟨t, ht, rfl, rfl⟩ := ed_get hi
    have nTk : k ≠ T := ne_of_none hk' nT
    have nTb : b ≠ T := ne_of_none hp' nT
    refine ⟨T, [.int t.1, .int t.2], rfl, .inl (.inl upd_same), rfl, _, _, rfl, _, _, rfl, rfl, ?_⟩
    have hk2 : (upd H' T (.tup [.int t.1, .int t.2])) k = some (.dK (ed ((g.take i).foldl (fun t u => bump t u.1 u.2) f))) := by rw [upd_ne nTk]; exact hk'
    have hp2 : (upd H' T (.tup [.int t.1, .int t.2])) b = some (.frz od (.dK (ed g))) := by rw [upd_ne nTb]; exact hp'
    have hx2 : ∀ a o, H a = some o → a ≠ b → (upd H' T (.tup [.int t.1, .int t.2])) a = some o := fun a o ha hne => by
      rw [upd_ne (ne_of_none (hx a o ha hne) nT)]
      exact hx a o ha hne
    have hst := fold_take (fun (t : Raw) (u : Int × Int) => bump t u.1 u.2) f g i t ht
    refine ⟨_, rfl, k, rfl, .inl ⟨_, .inl hk2⟩, _, rfl, _, DGet.k (k := Sum.inl t.1) hk2, _, rfl, _, _, getD_ed _ _, rfl, _, rfl, _, rfl, k, _, rfl, DPut.k (k := Sum.inl t.1) hk2 ?_, ?_⟩
    · rw [ed_len]
      exact Nat.lt_of_le_of_lt (fold_part (fun b x => bump_grow b _ _) g f i) hz
    · refine ⟨_, _, rfl, ?_, ?_, fun a o ha hne => ?_⟩
      · rw [upd_ne nbk]
        exact hp2
      · rw [upd_same, hst, putK_ed]
        rfl
      · rw [upd_ne (ne_of_none ha nk)]
        exact hx2 a o ha hne
  · rintro σ H' ⟨y2, y3, rfl, hp', hk', hx⟩
    have hk3 : H' k = some (.dK (ed (plusT f g))) := by
      rw [hk', ed_len, List.take_length]
      rfl
    refine ⟨hp', _, rfl, ?_⟩
    refine ⟨[rD (plusT f g)], _, cWo.mk _ (plusT_ok g f nf).1 hz, ⟨_, _, rfl, ⟨k, rfl, by rw [upd_ne nbk.symm]; exact hk3⟩, rfl⟩, fun v H2 e2 hv => q _ _ (fun a o ha => e2 a o ?_) hv⟩
    by_cases e : a = b
    · rw [e, upd_same]
      rw [e, hb] at ha
      exact ha
    · rw [upd_ne e]
      exact hx a o ha e
theorem good_less (d : Decl K mg "less" s_less) (gw : Good P w K mg base "without_noughts" 1 ["f"] (pf cWo)) (md : mg "dict" = none) : Good P w K mg base "less" 2 ["f", "g"] (pf cLess) := by
  refine d.good sc_less (fun _ _ _ _ _ _ us hl => match us, hl with | [_, _], _ => rfl) (pf_len fun _ _ c => by cases c; rfl) fun f cdv A outer s H vs Q E hr h => ?_
  obtain ⟨Rs, R, c, ha, q⟩ := h
  cases c with
  | mk f g nf hz =>
  obtain ⟨_, _, rfl, ⟨p, rfl, hp⟩, _, _, rfl, ⟨b, rfl, hb⟩, rfl⟩ := ha
  have hu := hu_of hr
  refine ⟨_, pss_cons (ps_set (i := 2) sc_less.nd rfl (.inl rfl) (pe_callTy call_dictD (by rfl) md (by decide +kernel) (pa_cons (pv 0) pa_nil)))
    (pss_cons (ps_lock (ps_for PassesOwn.never rfl (pi_items (pv 1)) (pg_tup rfl (pgs_cons (pg_name (i := 3) sc_less.nd rfl (.inl rfl)) (pgs_cons (pg_name (i := 4) sc_less.nd rfl (.inl rfl)) pgs_nil)))
      (pss_one (ps_dput hu (pv 2) (pv 3) (pe_op op_sub (pe_dget2 hu (pv 2) (pv 3) pe_int ⟨rfl, rfl, rfl, rfl⟩) (pv 4)) rfl))))
    (pss_one (ps_ret (pe_g gw hr (by rfl) (pa_cons (pv 2) pa_nil))))), ?_⟩
  refine ⟨_, rfl, p, ed f, rfl, .inl hp, fun k nk => ?_⟩
  have nbk : b ≠ k := ne_of_none hb nk
  refine ⟨b, .dK (ed g), by rw [upd_ne nbk]; exact hb, trivial, fun od => ?_⟩
  refine ⟨_, rfl, b, od, ed g, rfl, upd_same, ?_⟩
  refine for_items (fun i σ H' => ∃ y2 y3, σ = [some (.ref p), some (.ref b), some (.ref k), y2, y3] ∧ H' b = some (.frz od (.dK (ed g))) ∧ H' k = some (.dK (ed ((g.take i).foldl (fun t u => bump t u.1 (-u.2)) f))) ∧ ∀ a o, H a = some o → a ≠ b → H' a = some o) ?_ (fun i σ H' ⟨_, _, _, h, _⟩ => h) ?_ ?_
  · refine ⟨none, none, rfl, upd_same, ?_, fun a o ha hne => ?_⟩
    · rw [upd_ne nbk.symm, upd_same]
      rfl
    · rw [upd_ne hne, upd_ne (ne_of_none ha nk)]
      exact ha
  · rintro i key val T σ H' hi ⟨y2, y3, rfl, hp', hk', hx⟩ nT
    obtain ⟨t, ht, rfl, rfl⟩ := ed_get hi
    have nTk : k ≠ T := ne_of_none hk' nT
    have nTb : b ≠ T := ne_of_none hp' nT
    refine ⟨T, [.int t.1, .int t.2], rfl, .inl (.inl upd_same), rfl, _, _, rfl, _, _, rfl, rfl, ?_⟩
    have hk2 : (upd H' T (.tup [.int t.1, .int t.2])) k = some (.dK (ed ((g.take i).foldl (fun t u => bump t u.1 (-u.2)) f))) := by rw [upd_ne nTk]; exact hk'
    have hp2 : (upd H' T (.tup [.int t.1, .int t.2])) b = some (.frz od (.dK (ed g))) := by rw [upd_ne nTb]; exact hp'
    have hx2 : ∀ a o, H a = some o → a ≠ b → (upd H' T (.tup [.int t.1, .int t.2])) a = some o := fun a o ha hne => by
      rw [upd_ne (ne_of_none (hx a o ha hne) nT)]
      exact hx a o ha hne
    have hst := fold_take (fun (t : Raw) (u : Int × Int) => bump t u.1 (-u.2)) f g i t ht
    refine ⟨_, rfl, k, rfl, .inl ⟨_, .inl hk2⟩, _, rfl, _, DGet.k (k := Sum.inl t.1) hk2, _, rfl, _, _, getD_ed _ _, rfl, _, rfl, _, rfl, k, _, rfl, DPut.k (k := Sum.inl t.1) hk2 ?_, ?_⟩
    · rw [ed_len]
      exact Nat.lt_of_le_of_lt (fold_part (fun b x => bump_grow b _ _) g f i) hz
    · refine ⟨_, _, rfl, ?_, ?_, fun a o ha hne => ?_⟩
      · rw [upd_ne nbk]
        exact hp2
      · rw [upd_same, hst, putK_ed]
        rfl
      · rw [upd_ne (ne_of_none ha nk)]
        exact hx2 a o ha hne
  · rintro σ H' ⟨y2, y3, rfl, hp', hk', hx⟩
    have hk3 : H' k = some (.dK (ed (lessT f g))) := by
      rw [hk', ed_len, List.take_length]
      rfl
    refine ⟨hp', _, rfl, ?_⟩
    refine ⟨[rD (lessT f g)], _, cWo.mk _ (lessT_ok g f nf).1 hz, ⟨_, _, rfl, ⟨k, rfl, by rw [upd_ne nbk.symm]; exact hk3⟩, rfl⟩, fun v H2 e2 hv => q _ _ (fun a o ha => e2 a o ?_) hv⟩
    by_cases e : a = b
    · rw [e, upd_same]
      rw [e, hb] at ha
      exact ha
    · rw [upd_ne e]
      exact hx a o ha e
end
end Ds
end
section
set_option Elab.async false
set_option linter.all false
set_option maxRecDepth 100000
set_option maxHeartbeats 2000000
namespace Ds
open PySem PySem.Spec PyProof.Rows L2 Su
open Evl (Ex)
section
variable {P : Program} {w : World} {K : PySem.W.Frag} {mg : Str → Option Value} {base : Heap}
/-! ### times -/
def big : Nat := 400000
def Sized (d : Raw) : Prop := ∀ t ∈ d, t.2.natAbs < 2 ^ big
inductive cTimes : List Rp → Rp → Prop
  | mk (f g : Raw) : Sized f → Sized g → (timesT f g).length < sizeLine → cTimes [rD f, rD g] (rD (mTimes f g))
theorem sc_times : FnScope ["f", "g", "total", "key", "number", "other", "factor"] ["f", "g"] (defScope s_times) := ⟨rfl, rfl, rfl, by decide +kernel, rfl, by decide +kernel, by decide +kernel⟩
def rPlus : R2 := rI0 fun i j => .int (i + j)
def rMulW : R2 := rI CMulW fun i j => .int (i * j)
def tInner (K : PySem.W.Frag) : TS := tFor (iItems (tVar 1)) (gTup K 2 (gCons (gName 5) (gCons (gName 6) gNil)))
  (sDPut (tVar 2) (tOp rPlus (tVar 3) (tVar 5)) (tOp rPlus (tDGet2 (tVar 2) (tOp rPlus (tVar 3) (tVar 5)) (tC (.int 0))) (tOp rMulW (tVar 4) (tVar 6))))
def rowStep (x : Int × Int) (t : Raw) (u : Int × Int) : Raw := Su.bump t (x.1 + u.1) (x.2 * u.2)
theorem rowT_fold (x : Int × Int) (t g : Raw) : rowT x t g = g.foldl (rowStep x) t := rfl
theorem rowStep_grow (x : Int × Int) (b : Raw) (u : Int × Int) : b.length ≤ (rowStep x b u).length := bump_grow b _ _
theorem rowT_grow (g : Raw) (b : Raw) (x : Int × Int) : b.length ≤ (rowT x b g).length := fold_grow (rowStep_grow x) g b
theorem times_inner {D : Ends} {H : Hp} {p b k : Addr} {od : Obj} {g t0 : Raw} {x : Int × Int} {y5 y6 : Option V} (hb : H b = some (.frz od (.dK (ed g)))) (hk : H k = some (.dK (ed t0))) (hx : x.2.natAbs < 2 ^ big) (hg : Sized g) (hz : (rowT x t0 g).length < sizeLine)
    (hd : ∀ (z5 z6 : Option V) (H' : Hp), H' b = some (.frz od (.dK (ed g))) → H' k = some (.dK (ed (rowT x t0 g))) → (∀ a o, H a = some o → a ≠ k → H' a = some o) → D.nx [some (.ref p), some (.ref b), some (.ref k), some (.int x.1), some (.int x.2), z5, z6] H') :
    tInner K D [some (.ref p), some (.ref b), some (.ref k), some (.int x.1), some (.int x.2), y5, y6] H := by
  have nbk : b ≠ k := fun z => by
    rw [z, hk] at hb
    cases hb
  refine ⟨_, rfl, b, od, ed g, rfl, hb, ?_⟩
  refine for_items (fun i σ H' => ∃ z5 z6, σ = [some (.ref p), some (.ref b), some (.ref k), some (.int x.1), some (.int x.2), z5, z6] ∧ H' b = some (.frz od (.dK (ed g))) ∧ H' k = some (.dK (ed ((g.take i).foldl (rowStep x) t0))) ∧ ∀ a o, H a = some o → a ≠ k → H' a = some o) ?_ (fun i σ H' ⟨_, _, _, h, _⟩ => h) ?_ ?_
  · exact ⟨y5, y6, rfl, hb, hk, fun a o ha _ => ha⟩
  · rintro i key val T σ H' hi ⟨z5, z6, rfl, hb', hk', hx'⟩ nT
    obtain ⟨t, ht, rfl, rfl⟩ := ed_get hi
    have nTk : k ≠ T := ne_of_none hk' nT
    have nTb : b ≠ T := ne_of_none hb' nT
    refine ⟨T, [.int t.1, .int t.2], rfl, .inl (.inl upd_same), rfl, _, _, rfl, _, _, rfl, rfl, ?_⟩
    have hk2 : (upd H' T (.tup [.int t.1, .int t.2])) k = some (.dK (ed ((g.take i).foldl (rowStep x) t0))) := by rw [upd_ne nTk]; exact hk'
    have hb2 : (upd H' T (.tup [.int t.1, .int t.2])) b = some (.frz od (.dK (ed g))) := by rw [upd_ne nTb]; exact hb'
    have hx2 : ∀ a o, H a = some o → a ≠ k → (upd H' T (.tup [.int t.1, .int t.2])) a = some o := fun a o ha hne => by
      rw [upd_ne (ne_of_none (hx' a o ha hne) nT)]
      exact hx' a o ha hne
    have hst := fold_take (rowStep x) t0 g i t ht
    have hw : CMulW x.2 t.2 := wide_mul hx (hg t (List.mem_of_getElem? ht)) (by decide) (by decide) (by decide)
    refine ⟨_, rfl, k, rfl, .inl ⟨_, .inl hk2⟩, _, rfl, _, rfl, _, _, rfl, rfl, _, DGet.k (k := Sum.inl (x.1 + t.1)) hk2, _, rfl, _, rfl, _, _, rfl, rfl, hw, _, _, getD_ed _ _, rfl, _, rfl, _, rfl, _, rfl, _, _, rfl, rfl, k, _, rfl, DPut.k (k := Sum.inl (x.1 + t.1)) hk2 ?_, ?_⟩
    · rw [ed_len]
      exact Nat.lt_of_le_of_lt (fold_part (rowStep_grow x) g t0 i) hz
    · refine ⟨_, _, rfl, ?_, ?_, fun a o ha hne => ?_⟩
      · rw [upd_ne nbk]
        exact hb2
      · rw [upd_same, hst, putK_ed]
        rfl
      · rw [upd_ne hne]
        exact hx2 a o ha hne
  · rintro σ H' ⟨z5, z6, rfl, hb', hk', hx'⟩
    refine hd z5 z6 H' hb' ?_ hx'
    rw [hk', ed_len, List.take_length]
    rfl
theorem times_part (f g : Raw) (i : Nat) (t : Int × Int) (ht : f[i]? = some t) : (rowT t ((f.take i).foldl (fun t x => rowT x t g) []) g).length ≤ (timesT f g).length := by
  have e := fold_take (fun (t : Raw) (x : Int × Int) => rowT x t g) [] f i t ht
  have h := fold_part (f := fun (t : Raw) (x : Int × Int) => rowT x t g) (fun b x => rowT_grow g b x) f [] (i + 1)
  rw [e] at h
  exact h
theorem good_times (d : Decl K mg "times" s_times) (gw : Good P w K mg base "without_noughts" 1 ["f"] (pf cWo)) : Good P w K mg base "times" 2 ["f", "g"] (pf cTimes) := by
  refine d.good sc_times (fun _ _ _ _ _ _ us hl => match us, hl with | [_, _], _ => rfl) (pf_len fun _ _ c => by cases c; rfl) fun f cdv A outer s H vs Q E hr h => ?_
  obtain ⟨Rs, R, c, ha, q⟩ := h
  cases c with
  | mk f g sf sg hz =>
  obtain ⟨_, _, rfl, ⟨p, rfl, hp⟩, _, _, rfl, ⟨b, rfl, hb⟩, rfl⟩ := ha
  have hu := hu_of hr
  -- the end, from what the outer loop has left
  have fin : ∀ (k : Addr) (od : Obj) (H' : Hp), p ≠ k → H' p = some (.frz od (.dK (ed f))) → H' k = some (.dK (ed ((f.take (ed f).length).foldl (fun t x => rowT x t g) []))) → (∀ a o, H a = some o → a ≠ p → H' a = some o) → pf cWo [.ref k] (upd H' p (.dK (ed f))) Q E0 := by
    intro k od H' npk hp' hk' hx
    have hk3 : H' k = some (.dK (ed (timesT f g))) := by
      rw [hk', ed_len, List.take_length]
      rfl
    refine ⟨[rD (timesT f g)], _, cWo.mk _ (timesT_ok f g).1 hz, ⟨_, _, rfl, ⟨k, rfl, by rw [upd_ne npk.symm]; exact hk3⟩, rfl⟩, fun v H2 e2 hv => q _ _ (fun a o ha => e2 a o ?_) hv⟩
    by_cases e : a = p
    · rw [e, upd_same]
      rw [e, hp] at ha
      exact ha
    · rw [upd_ne e]
      exact hx a o ha e
  by_cases epb : p = b
  · subst epb
    have efg : ed f = ed g := by
      rw [hp] at hb
      exact HO.dK.inj (Option.some.inj hb)
    refine ⟨_, pss_cons (ps_set (i := 2) sc_times.nd rfl (.inl rfl) pe_dnewK)
      (pss_cons (ps_lock (ps_for PassesOwn.never rfl (pi_items (pv 0)) (pg_tup rfl (pgs_cons (pg_name (i := 3) sc_times.nd rfl (.inl rfl)) (pgs_cons (pg_name (i := 4) sc_times.nd rfl (.inl rfl)) pgs_nil)))
        (pss_one (ps_for (g := gTup K 2 (gCons (gName 5) (gCons (gName 6) gNil))) PassesOwn.never rfl (pi_items (pv 1)) (pg_tup rfl (pgs_cons (pg_name (i := 5) sc_times.nd rfl (.inl rfl)) (pgs_cons (pg_name (i := 6) sc_times.nd rfl (.inl rfl)) pgs_nil)))
          (pss_one (ps_dput hu (pv 2) (pe_op op_add (pv 3) (pv 5)) (pe_op op_add (pe_dget2 hu (pv 2) (pe_op op_add (pv 3) (pv 5)) pe_int ⟨rfl, rfl, rfl, rfl⟩) (pe_op op_mulW (pv 4) (pv 6))) rfl))))))
      (pss_one (ps_ret (pe_g gw hr (by rfl) (pa_cons (pv 2) pa_nil))))), ?_⟩
    intro k nk
    have npk : p ≠ k := ne_of_none hp nk
    refine ⟨p, .dK (ed f), by rw [upd_ne npk]; exact hp, trivial, fun od => ?_⟩
    refine ⟨_, rfl, p, od, ed f, rfl, upd_same, ?_⟩
    refine for_items (fun i σ H' => ∃ y3 y4 y5 y6, σ = [some (.ref p), some (.ref p), some (.ref k), y3, y4, y5, y6] ∧ H' p = some (.frz od (.dK (ed f))) ∧ H' k = some (.dK (ed ((f.take i).foldl (fun t x => rowT x t g) []))) ∧ ∀ a o, H a = some o → a ≠ p → H' a = some o) ?_ (fun i σ H' ⟨_, _, _, _, _, h, _⟩ => h) ?_ ?_
    · refine ⟨none, none, none, none, rfl, upd_same, ?_, fun a o ha hne => ?_⟩
      · rw [upd_ne npk.symm, upd_same]
        rfl
      · rw [upd_ne hne, upd_ne (ne_of_none ha nk)]
        exact ha
    · rintro i key val T σ H' hi ⟨y3, y4, y5, y6, rfl, hp', hk', hx⟩ nT
      obtain ⟨t, ht, rfl, rfl⟩ := ed_get hi
      have nTk : k ≠ T := ne_of_none hk' nT
      have nTp : p ≠ T := ne_of_none hp' nT
      refine ⟨T, [.int t.1, .int t.2], rfl, .inl (.inl upd_same), rfl, _, _, rfl, _, _, rfl, rfl, ?_⟩
      have hst := fold_take (fun (t : Raw) (x : Int × Int) => rowT x t g) [] f i t ht
      refine times_inner (od := od) (g := g) (t0 := (f.take i).foldl (fun t x => rowT x t g) []) (x := t) ?_ ?_ (sf t (List.mem_of_getElem? ht)) sg (Nat.lt_of_le_of_lt (times_part f g i t ht) hz) fun z5 z6 H2 h1 h2 h3 => ?_
      · rw [upd_ne nTp, hp', efg]
      · rw [upd_ne nTk]
        exact hk'
      · refine ⟨_, _, _, _, rfl, ?_, ?_, fun a o ha hne => h3 a o ?_ (ne_of_none ha nk)⟩
        · rw [h1, efg]
        · rw [h2, hst]
        · rw [upd_ne (ne_of_none (hx a o ha hne) nT)]
          exact hx a o ha hne
    · rintro σ H' ⟨y3, y4, y5, y6, rfl, hp', hk', hx⟩
      exact ⟨hp', _, rfl, fin k od H' npk hp' hk' hx⟩
  · refine ⟨_, pss_cons (ps_set (i := 2) sc_times.nd rfl (.inl rfl) pe_dnewK)
      (pss_cons (ps_lock (ps_for PassesOwn.never rfl (pi_items (pv 0)) (pg_tup rfl (pgs_cons (pg_name (i := 3) sc_times.nd rfl (.inl rfl)) (pgs_cons (pg_name (i := 4) sc_times.nd rfl (.inl rfl)) pgs_nil)))
        (pss_one (ps_lock (ps_for (g := gTup K 2 (gCons (gName 5) (gCons (gName 6) gNil))) PassesOwn.never rfl (pi_items (pv 1)) (pg_tup rfl (pgs_cons (pg_name (i := 5) sc_times.nd rfl (.inl rfl)) (pgs_cons (pg_name (i := 6) sc_times.nd rfl (.inl rfl)) pgs_nil)))
          (pss_one (ps_dput hu (pv 2) (pe_op op_add (pv 3) (pv 5)) (pe_op op_add (pe_dget2 hu (pv 2) (pe_op op_add (pv 3) (pv 5)) pe_int ⟨rfl, rfl, rfl, rfl⟩) (pe_op op_mulW (pv 4) (pv 6))) rfl)))))))
      (pss_one (ps_ret (pe_g gw hr (by rfl) (pa_cons (pv 2) pa_nil))))), ?_⟩
    intro k nk
    have npk : p ≠ k := ne_of_none hp nk
    have nbk : b ≠ k := ne_of_none hb nk
    refine ⟨p, .dK (ed f), by rw [upd_ne npk]; exact hp, trivial, fun od => ?_⟩
    refine ⟨_, rfl, p, od, ed f, rfl, upd_same, ?_⟩
    refine for_items (fun i σ H' => ∃ y3 y4 y5 y6, σ = [some (.ref p), some (.ref b), some (.ref k), y3, y4, y5, y6] ∧ H' p = some (.frz od (.dK (ed f))) ∧ H' k = some (.dK (ed ((f.take i).foldl (fun t x => rowT x t g) []))) ∧ ∀ a o, H a = some o → a ≠ p → H' a = some o) ?_ (fun i σ H' ⟨_, _, _, _, _, h, _⟩ => h) ?_ ?_
    · refine ⟨none, none, none, none, rfl, upd_same, ?_, fun a o ha hne => ?_⟩
      · rw [upd_ne npk.symm, upd_same]
        rfl
      · rw [upd_ne hne, upd_ne (ne_of_none ha nk)]
        exact ha
    · rintro i key val T σ H' hi ⟨y3, y4, y5, y6, rfl, hp', hk', hx⟩ nT
      obtain ⟨t, ht, rfl, rfl⟩ := ed_get hi
      have hb' := hx b _ hb (fun z => epb z.symm)
      have nTk : k ≠ T := ne_of_none hk' nT
      have nTp : p ≠ T := ne_of_none hp' nT
      have nTb : b ≠ T := ne_of_none hb' nT
      refine ⟨T, [.int t.1, .int t.2], rfl, .inl (.inl upd_same), rfl, _, _, rfl, _, _, rfl, rfl, ?_⟩
      have hst := fold_take (fun (t : Raw) (x : Int × Int) => rowT x t g) [] f i t ht
      refine ⟨b, .dK (ed g), by rw [upd_ne nTb]; exact hb', trivial, fun ob => ?_⟩
      refine times_inner (od := ob) (g := g) (t0 := (f.take i).foldl (fun t x => rowT x t g) []) (x := t) upd_same ?_ (sf t (List.mem_of_getElem? ht)) sg (Nat.lt_of_le_of_lt (times_part f g i t ht) hz) fun z5 z6 H2 h1 h2 h3 => ?_
      · rw [upd_ne nbk.symm, upd_ne nTk]
        exact hk'
      · refine ⟨h1, _, _, _, _, rfl, ?_, ?_, fun a o ha hne => ?_⟩
        · rw [upd_ne epb]
          refine h3 p _ ?_ npk
          rw [upd_ne epb, upd_ne nTp]
          exact hp'
        · rw [upd_ne nbk.symm, h2, hst]
        · by_cases eab : a = b
          · rw [eab, upd_same]
            rw [eab, hb] at ha
            exact ha
          · rw [upd_ne eab]
            refine h3 a o ?_ (ne_of_none ha nk)
            rw [upd_ne eab, upd_ne (ne_of_none (hx a o ha hne) nT)]
            exact hx a o ha hne
    · rintro σ H' ⟨y3, y4, y5, y6, rfl, hp', hk', hx⟩
      exact ⟨hp', _, rfl, fin k od H' npk hp' hk' hx⟩
end
end Ds
end
section
set_option Elab.async false
set_option linter.all false
set_option maxRecDepth 100000
set_option maxHeartbeats 2000000
namespace Ds
open PySem PySem.Spec PyProof.Rows L2 Su
open Evl (Ex)
open Kh374 (Tri)
/-! ### Sums within bounds: the contracts of the defs that reckon with them -/
def Sm (b : Bd) : Prop := prod4 b ≤ 200
theorem sm_of {b E : Bd} (h : Sm E) (hb : ∀ i, b i ≤ E i) : Sm b := Nat.le_trans (prod4_mono hb) h
structure Gp (b : Bd) (n : Nat) (t : Tri Raw) : Prop where
  x : GD b n t.x
  y : GD b n t.y
  w : GD b n t.w
structure Gq (b : Bd) (n : Nat) (f : Raw × Raw) : Prop where
  l : GD b n f.1
  r : GD b n f.2
theorem Gp.xy {b : Bd} {n : Nat} {t : Tri Raw} (h : Gp b n t) : Gq b n (Su.xy t) := ⟨h.x, h.y⟩
theorem Gp.mono {b c : Bd} {n m : Nat} {t : Tri Raw} (h : Gp b n t) (hb : ∀ i, b i ≤ c i) (hn : n ≤ m) : Gp c m t := ⟨h.x.mono hb hn, h.y.mono hb hn, h.w.mono hb hn⟩
def rPt (C : Addr) (t : Tri Raw) (ex : PtX) : Rp := rIns C [("kind", rInt ex.kind), ("told", rInts ex.told), ("x", rD t.x), ("y", rD t.y), ("w", rD t.w), ("reach", rInts (nI ex.reach)), ("heavy", rInt ex.heavy)]
def rT2 (f : Raw × Raw) : Rp := rTup [rD f.1, rD f.2]
def rT3 (t : Tri Raw) : Rp := rTup [rD t.x, rD t.y, rD t.w]
theorem gd_sized {b : Bd} {n : Nat} {d : Raw} (h : GD b n d) (hn : n ≤ 300000) : Sized d := fun t ht =>
  Nat.lt_of_le_of_lt (Nat.le_trans (nrmD_mem ht) (Nat.le_trans h.z (pow2_le hn))) (Nat.pow_lt_pow_right (by decide) (by decide))
theorem small_line {n : Nat} (h : n ≤ 200) : n < sizeLine := Nat.lt_of_le_of_lt h (by decide)
inductive cTimesG : List Rp → Rp → Prop
  | mk {b c : Bd} {n m : Nat} {f g : Raw} : GD b n f → GD c m g → Sm (badd b c) → n + m ≤ 300000 → cTimesG [rD f, rD g] (rD (dOps.times f g))
inductive cPlusG : List Rp → Rp → Prop
  | mk {b c : Bd} {n m : Nat} {f g : Raw} : GD b n f → GD c m g → Sm (bmax b c) → cPlusG [rD f, rD g] (rD (dOps.add f g))
inductive cLessG : List Rp → Rp → Prop
  | mk {b c : Bd} {n m : Nat} {f g : Raw} : GD b n f → GD c m g → Sm (bmax b c) → cLessG [rD f, rD g] (rD (dOps.less f g))
theorem pf_imp {C C' : List Rp → Rp → Prop} (h : ∀ Rs R, C' Rs R → C Rs R) : ∀ vs H Q E, pf C' vs H Q E → pf C vs H Q E := fun _ _ _ _ ⟨Rs, R, c, r⟩ => ⟨Rs, R, h Rs R c, r⟩
section
variable {P : Program} {w : World} {K : PySem.W.Frag} {mg : Str → Option Value} {base : Heap}
theorem Good.imp {x : Str} {k : Nat} {ps : List Str} {sp sp' : Sp} (g : Good P w K mg base x k ps sp) (h : ∀ vs H Q E, sp' vs H Q E → sp vs H Q E) : Good P w K mg base x k ps sp' := by
  obtain ⟨f, fd, h1, h2, h3, h4⟩ := g
  exact ⟨f, fd, h1, h2, h3, h4.imp h⟩
theorem good_timesG (g : Good P w K mg base "times" 2 ["f", "g"] (pf cTimes)) : Good P w K mg base "times" 2 ["f", "g"] (pf cTimesG) := g.imp (pf_imp fun Rs R c => by
  cases c with
  | mk h1 h2 h3 h4 => exact .mk _ _ (gd_sized h1 (by omega)) (gd_sized h2 (by omega)) (small_line (Nat.le_trans (Bx.len (Bx.timesT h1.bx h2.bx) (timesT_ok _ _).1) h3)))
theorem good_plusG (g : Good P w K mg base "plus" 2 ["f", "g"] (pf cPlus)) : Good P w K mg base "plus" 2 ["f", "g"] (pf cPlusG) := g.imp (pf_imp fun Rs R c => by
  cases c with
  | mk h1 h2 h3 => exact .mk _ _ h1.dn.nd (small_line (Nat.le_trans (Bx.len (Bx.plusT (h1.bx.mono bmax_l) (h2.bx.mono bmax_r)) (plusT_ok _ _ h1.dn.nd).1) h3)))
theorem good_lessG (g : Good P w K mg base "less" 2 ["f", "g"] (pf cLess)) : Good P w K mg base "less" 2 ["f", "g"] (pf cLessG) := g.imp (pf_imp fun Rs R c => by
  cases c with
  | mk h1 h2 h3 => exact .mk _ _ h1.dn.nd (small_line (Nat.le_trans (Bx.len (Bx.lessT (h1.bx.mono bmax_l) (h2.bx.mono bmax_r)) (lessT_ok _ _ h1.dn.nd).1) h3)))
end
/-! ### Readings in short -/
theorem s_seq {t u : TS} {D : Ends} {σ : L2.St} {H : Hp} (h : t { D with nx := u D } σ H) : tSeq t u D σ H := h
theorem s_st {t : TS} {D : Ends} {σ σ2 : L2.St} {H : Hp} (e : σ = σ2) (h : t D σ2 H) : t D σ H := by
  rw [e]
  exact h
/-- x = e, then the rest; the slots as they stand behind it -/
theorem s_set {u : TS} {D : Ends} {i : Nat} {te : TE} {σ : L2.St} {H : Hp} {R : Rp} {σ2 : V → L2.St} (hs : ∀ v, σ.set i (some v) = σ2 v) (h : EvP te σ H R) (k : ∀ v H1, Ex H H1 → R.is v H1 → u D (σ2 v) H1) : tSeq (tAsg te (gName i)) u D σ H := h H (Ex.refl H) _ fun v H1 e r => by
  show u D (σ.set i (some v)) H1
  rw [hs]
  exact k v H1 e r
theorem evp_neg {σ : L2.St} {H : Hp} {te : TE} {i : Int} (h : EvP te σ H (rInt i)) : EvP (tUn (rU fun i => .int (-i)) te) σ H (rInt (-i)) := fun H1 e Q q => h H1 e _ fun v H2 e2 hv => ⟨i, hv, q _ H2 e2 rfl⟩
section
variable {K : PySem.W.Frag} {σ : L2.St} {H : Hp} {te : TE} {C : Addr} {t : Tri Raw} {ex : PtX}
theorem evp_x (cl : Cls K C) (na : NoAttr K C "x") (h : EvP te σ H (rPt C t ex)) : EvP (tFld K te "x") σ H (rD t.x) := evp_fld cl na h ((lkg_past (by decide +kernel)).trans ((lkg_past (by decide +kernel)).trans lkg_here))
theorem evp_y (cl : Cls K C) (na : NoAttr K C "y") (h : EvP te σ H (rPt C t ex)) : EvP (tFld K te "y") σ H (rD t.y) := evp_fld cl na h ((lkg_past (by decide +kernel)).trans ((lkg_past (by decide +kernel)).trans ((lkg_past (by decide +kernel)).trans lkg_here)))
theorem evp_w (cl : Cls K C) (na : NoAttr K C "w") (h : EvP te σ H (rPt C t ex)) : EvP (tFld K te "w") σ H (rD t.w) := evp_fld cl na h ((lkg_past (by decide +kernel)).trans ((lkg_past (by decide +kernel)).trans ((lkg_past (by decide +kernel)).trans ((lkg_past (by decide +kernel)).trans lkg_here))))
end
section
variable {σ : L2.St} {H : Hp} {te tf : TE}
theorem evp_mul {i j : Int} (h1 : EvP te σ H (rInt i)) (h2 : EvP tf σ H (rInt j)) (hi : -(2 ^ 64) < i ∧ i < 2 ^ 64) : EvP (tOp (rI CMul fun i j => .int (i * j)) te tf) σ H (rInt (i * j)) := fun H1 e Q q =>
  h1 H1 e _ fun x H2 e2 hx => h2 H2 (e.trans e2) _ fun y H3 e3 hy => ⟨i, j, hx, hy, .inl hi, q _ H3 (e2.trans e3) rfl⟩
theorem evp_mulB {i j : Int} (h1 : EvP te σ H (rInt i)) (h2 : EvP tf σ H (rInt j)) (hi : i.natAbs ≤ 1000) : EvP (tOp (rI CMul fun i j => .int (i * j)) te tf) σ H (rInt (i * j)) := evp_mul h1 h2 ⟨by omega, by omega⟩
end
theorem sq_le {i : Int} (h : i.natAbs ≤ 1000) : (i * i).natAbs ≤ 2 ^ 20 := by
  rw [Int.natAbs_mul]
  exact Nat.le_trans (Nat.mul_le_mul h h) (by decide)
/-- the class of points -/
structure PtC (K : PySem.W.Frag) (C : Addr) : Prop where
  cl : Cls K C
  nX : NoAttr K C "x"
  nY : NoAttr K C "y"
  nW : NoAttr K C "w"
/-! ### Bounds of what the shared defs give -/
theorem gd_times {b c : Bd} {n m : Nat} {f g : Raw} (hf : GD b n f) (hg : GD c m g) : GD (badd b c) (n + m) (dOps.times f g) := GD.times hf hg
theorem gd_plus {b c : Bd} {n m : Nat} {f g : Raw} (hf : GD b n f) (hg : GD c m g) : GD (bmax b c) (max n m + 1) (dOps.add f g) := GD.plus hf hg
theorem gd_less {b c : Bd} {n m : Nat} {f g : Raw} (hf : GD b n f) (hg : GD c m g) : GD (bmax b c) (max n m + 1) (dOps.less f g) := GD.less hf hg
theorem gd_const {c : Int} {n : Nat} (h : c.natAbs ≤ 2 ^ n) : GD b0 n (dOps.number c) := GD.const h
theorem gd_added {b1 b2 b3 b4 : Bd} {n1 n2 n3 n4 : Nat} {f g h k : Raw} (h1 : GD b1 n1 f) (h2 : GD b2 n2 g) (h3 : GD b3 n3 h) (h4 : GD b4 n4 k) : GD (bmax (badd b1 b2) (badd b3 b4)) (max (n1 + n2) (n3 + n4) + 1) (mAdded dOps f g h k) := gd_plus (gd_times h1 h2) (gd_times h3 h4)
theorem gd_cross {b1 b2 b3 b4 : Bd} {n1 n2 n3 n4 : Nat} {f g h k : Raw} (h1 : GD b1 n1 f) (h2 : GD b2 n2 g) (h3 : GD b3 n3 h) (h4 : GD b4 n4 k) : GD (bmax (badd b1 b2) (badd b3 b4)) (max (n1 + n2) (n3 + n4) + 1) (mCross dOps f g h k) := gd_less (gd_times h1 h2) (gd_times h3 h4)
theorem gd_way {b c : Bd} {n m : Nat} {a d : Tri Raw} (ha : Gp b n a) (hb : Gp c m d) : Gq (badd b c) (n + m + 1) (mWay dOps a d) :=
  ⟨(gd_cross hb.x ha.w ha.x hb.w).mono (fun i => by simp only [badd, bmax]; omega) (by omega), (gd_cross hb.y ha.w ha.y hb.w).mono (fun i => by simp only [badd, bmax]; omega) (by omega)⟩
theorem gd_line {b c : Bd} {n m : Nat} {a d : Tri Raw} (ha : Gp b n a) (hb : Gp c m d) : Gp (badd b c) (n + m + 1) (mLine dOps a d) :=
  ⟨(gd_cross ha.y hb.w hb.y ha.w).mono (fun i => by simp only [badd, bmax]; omega) (by omega), (gd_cross hb.x ha.w ha.x hb.w).mono (fun i => by simp only [badd, bmax]; omega) (by omega), (gd_cross ha.x hb.y hb.x ha.y).mono (fun i => by simp only [badd, bmax]; omega) (by omega)⟩
theorem gd_beside {b c : Bd} {n m : Nat} {l d : Tri Raw} (hl : Gp b n l) (hc : Gp c m d) : GD (badd b c) (n + m + 2) (mBeside dOps l d) :=
  (gd_plus (gd_added hl.x hc.x hl.y hc.y) (gd_times hl.w hc.w)).mono (fun i => by simp only [badd, bmax]; omega) (by omega)
theorem gd_area {b c e : Bd} {n m k : Nat} {x y z : Tri Raw} (hx : Gp b n x) (hy : Gp c m y) (hz : Gp e k z) : GD (badd b (badd c e)) (n + m + k + 3) (mArea dOps x y z) :=
  (gd_beside (gd_line hy hz) hx).mono (fun i => by simp only [badd, bmax]; omega) (by omega)
theorem gd_square {b : Bd} {n : Nat} {a : Tri Raw} (ha : Gp b n a) : GD (badd b b) (n + n + 1) (mSquare dOps a) := (gd_added ha.x ha.x ha.y ha.y).mono (fun i => by simp only [badd, bmax]; omega) (by omega)
theorem gd_matched {b c : Bd} {n m : Nat} {f g : Raw × Raw} (hf : Gq b n f) (hg : Gq c m g) : GD (badd b c) (n + m + 1) (mMatched dOps f g) := (gd_added hf.l hg.l hf.r hg.r).mono (fun i => by simp only [badd, bmax]; omega) (by omega)
theorem gd_meeting {b c : Bd} {n m : Nat} {f g : Tri Raw} (hf : Gp b n f) (hg : Gp c m g) : Gp (badd b c) (n + m + 1) (mMeeting dOps f g) :=
  ⟨(gd_cross hf.y hg.w hg.y hf.w).mono (fun i => by simp only [badd, bmax]; omega) (by omega), (gd_cross hf.w hg.x hg.w hf.x).mono (fun i => by simp only [badd, bmax]; omega) (by omega), (gd_cross hf.x hg.y hg.x hf.y).mono (fun i => by simp only [badd, bmax]; omega) (by omega)⟩
/-! ### The contracts -/
inductive cMeeting : List Rp → Rp → Prop
  | mk {b c : Bd} {n m : Nat} {f g : Tri Raw} : Gp b n f → Gp c m g → Sm (badd b c) → n + m ≤ 200000 → cMeeting [rT3 f, rT3 g] (rT3 (mMeeting dOps f g))
inductive cConst : List Rp → Rp → Prop
  | mk (c : Int) : cConst [rInt c] (rD (dOps.number c))
inductive cAdded : List Rp → Rp → Prop
  | mk {b1 b2 b3 b4 : Bd} {n1 n2 n3 n4 : Nat} {f g h k : Raw} : GD b1 n1 f → GD b2 n2 g → GD b3 n3 h → GD b4 n4 k → Sm (bmax (badd b1 b2) (badd b3 b4)) → max (n1 + n2) (n3 + n4) ≤ 300000 → cAdded [rD f, rD g, rD h, rD k] (rD (mAdded dOps f g h k))
inductive cCross : List Rp → Rp → Prop
  | mk {b1 b2 b3 b4 : Bd} {n1 n2 n3 n4 : Nat} {f g h k : Raw} : GD b1 n1 f → GD b2 n2 g → GD b3 n3 h → GD b4 n4 k → Sm (bmax (badd b1 b2) (badd b3 b4)) → max (n1 + n2) (n3 + n4) ≤ 300000 → cCross [rD f, rD g, rD h, rD k] (rD (mCross dOps f g h k))
inductive cWay (C : Addr) : List Rp → Rp → Prop
  | mk {b c : Bd} {n m : Nat} {a d : Tri Raw} {e1 e2 : PtX} : Gp b n a → Gp c m d → Sm (badd b c) → n + m ≤ 200000 → cWay C [rPt C a e1, rPt C d e2] (rT2 (mWay dOps a d))
inductive cLine (C : Addr) : List Rp → Rp → Prop
  | mk {b c : Bd} {n m : Nat} {a d : Tri Raw} {e1 e2 : PtX} : Gp b n a → Gp c m d → Sm (badd b c) → n + m ≤ 200000 → cLine C [rPt C a e1, rPt C d e2] (rT3 (mLine dOps a d))
inductive cBeside (C : Addr) : List Rp → Rp → Prop
  | mk {b c : Bd} {n m : Nat} {l d : Tri Raw} {e2 : PtX} : Gp b n l → Gp c m d → Sm (badd b c) → n + m ≤ 200000 → cBeside C [rT3 l, rPt C d e2] (rD (mBeside dOps l d))
inductive cArea (C : Addr) : List Rp → Rp → Prop
  | mk {b c e : Bd} {n m k : Nat} {x y z : Tri Raw} {e1 e2 e3 : PtX} : Gp b n x → Gp c m y → Gp e k z → Sm (badd b (badd c e)) → n + m + k ≤ 190000 → cArea C [rPt C x e1, rPt C y e2, rPt C z e3] (rD (mArea dOps x y z))
inductive cSquare (C : Addr) : List Rp → Rp → Prop
  | mk {b : Bd} {n : Nat} {a : Tri Raw} {e1 : PtX} : Gp b n a → Sm (badd b b) → n + n ≤ 200000 → cSquare C [rPt C a e1] (rD (mSquare dOps a))
inductive cMatched : List Rp → Rp → Prop
  | mk {b c : Bd} {n m : Nat} {f g : Raw × Raw} {R1 R2 : Rp} {r1 r2 : List Rp} : Gq b n f → Gq c m g → Sm (badd b c) → n + m ≤ 200000 → R1 = rTup (rD f.1 :: rD f.2 :: r1) → R2 = rTup (rD g.1 :: rD g.2 :: r2) → cMatched [R1, R2] (rD (mMatched dOps f g))
inductive cMoved (C : Addr) : List Rp → Rp → Prop
  | mk {b c e k : Bd} {n m i j : Nat} {a : Tri Raw} {s x y : Raw} {e1 : PtX} : Gp b n a → GD c m s → GD e i x → GD k j y → Sm (bmax (badd b c) (bmax e k)) → n + m ≤ 200000 → cMoved C [rPt C a e1, rD s, rD x, rD y] (rT3 (mMoved dOps a s x y))
inductive cFixed : List Rp → Rp → Prop
  | mk {f g : Raw} : cFixed [rD f, rD g] (rTup [rD f, rD g, rD (dOps.number 1)])
inductive cPart (C : Addr) : List Rp → Rp → Prop
  | mk {b c e k : Bd} {n m i j : Nat} {a d : Tri Raw} {x y : Raw} {e1 e2 : PtX} : Gp b n a → Gp c m d → GD e i x → GD k j y → Sm (badd (badd b c) (bmax e k)) → n + m + i + j ≤ 150000 → cPart C [rPt C a e1, rPt C d e2, rD x, rD y] (rT3 (mPart dOps a d x y))
inductive cOn (C : Addr) : List Rp → Rp → Prop
  | mk {b c e : Bd} {n m i : Nat} {a d : Tri Raw} {x : Raw} {e1 e2 : PtX} : Gp b n a → Gp c m d → GD e i x → Sm (badd (badd b c) e) → n + m + i ≤ 100000 → cOn C [rPt C a e1, rPt C d e2, rD x] (rT3 (mOn dOps a d x))
inductive cAlong (C : Addr) : List Rp → Rp → Prop
  | mk {b c e : Bd} {n m k : Nat} {x y z : Tri Raw} {e1 e2 e3 : PtX} : Gp b n x → Gp c m y → Gp e k z → Sm (badd b (badd c e)) → n + m + k ≤ 100000 → cAlong C [rPt C x e1, rPt C y e2, rPt C z e3] (rT3 (mAlong dOps x y z))
inductive cMeet (C : Addr) : List Rp → Rp → Prop
  | mk {b c e f : Bd} {n m k l : Nat} {x y z u : Tri Raw} {e1 e2 e3 e4 : PtX} : Gp b n x → Gp c m y → Gp e k z → Gp f l u → Sm (badd (badd b c) (badd e f)) → n + m + k + l ≤ 100000 → cMeet C [rPt C x e1, rPt C y e2, rPt C z e3, rPt C u e4] (rT3 (mMeet dOps x y z u))
/-- of c, a, b -/
inductive cDropped (C : Addr) : List Rp → Rp → Prop
  | mk {b c e f : Bd} {n m k l : Nat} {x y z : Tri Raw} {u : Raw} {e1 e2 e3 : PtX} : Gp b n x → Gp c m y → Gp e k z → GD f l u → Sm (badd f (badd b (badd (badd c c) (badd e e)))) → n + m + k + l ≤ 40000 → cDropped C [rPt C x e1, rPt C y e2, rPt C z e3, rD u] (rT3 (mDropped dOps x y z u))
inductive cFoot (C : Addr) : List Rp → Rp → Prop
  | mk {b c e : Bd} {n m k : Nat} {x y z : Tri Raw} {e1 e2 e3 : PtX} : Gp b n x → Gp c m y → Gp e k z → Sm (badd b (badd (badd c c) (badd e e))) → n + m + k ≤ 30000 → cFoot C [rPt C x e1, rPt C y e2, rPt C z e3] (rT3 (mFoot dOps x y z))
inductive cMirror (C : Addr) : List Rp → Rp → Prop
  | mk {b c e : Bd} {n m k : Nat} {x y z : Tri Raw} {e1 e2 e3 : PtX} : Gp b n x → Gp c m y → Gp e k z → Sm (badd b (badd (badd c c) (badd e e))) → n + m + k ≤ 30000 → cMirror C [rPt C x e1, rPt C y e2, rPt C z e3] (rT3 (mMirror dOps x y z))
inductive cTurn (C : Addr) : List Rp → Rp → Prop
  | mk {b c : Bd} {n m : Nat} {a d : Tri Raw} {e1 e2 : PtX} : Gp b n a → Gp c m d → Sm (badd b c) → n + m ≤ 100000 → cTurn C [rPt C a e1, rPt C d e2] (rT3 (mTurn dOps a d))
inductive cCentre (C : Addr) : List Rp → Rp → Prop
  | mk {b c e : Bd} {n m k : Nat} {x y z : Tri Raw} {e1 e2 e3 : PtX} : Gp b n x → Gp c m y → Gp e k z → Sm (badd (badd b b) (badd (badd c c) (badd e e))) → n + m + k ≤ 30000 → cCentre C [rPt C x e1, rPt C y e2, rPt C z e3] (rT3 (mCentre dOps x y z))
inductive cSecond (C : Addr) : List Rp → Rp → Prop
  | mk {b c e : Bd} {n m k : Nat} {x y z : Tri Raw} {e1 e2 e3 : PtX} : Gp b n x → Gp c m y → Gp e k z → Sm (badd (badd b (badd b b)) (badd (badd c c) e)) → n + m + k ≤ 30000 → cSecond C [rPt C x e1, rPt C y e2, rPt C z e3] (rT3 (mSecond dOps x y z))
inductive cRound (C : Addr) : List Rp → Rp → Prop
  | mk {b c e : Bd} {n m i : Nat} {a d : Tri Raw} {x : Raw} {e1 e2 : PtX} : Gp b n a → Gp c m d → GD e i x → Sm (badd (badd b c) (badd e e)) → n + m + i ≤ 30000 → cRound C [rPt C a e1, rPt C d e2, rD x] (rT3 (mRound dOps a d x))
inductive cInverse (C : Addr) : List Rp → Rp → Prop
  | mk {b c e : Bd} {n m k : Nat} {x y z : Tri Raw} {e1 e2 e3 : PtX} : Gp b n x → Gp c m y → Gp e k z → Sm (badd (badd b (badd b b)) (badd (badd c c) (badd e e))) → n + m + k ≤ 30000 → cInverse C [rPt C x e1, rPt C y e2, rPt C z e3] (rT3 (mInverse dOps x y z))
end Ds
end
section
set_option Elab.async false
set_option linter.all false
set_option maxRecDepth 100000
set_option maxHeartbeats 2000000
namespace Ds
open PySem PySem.Spec PyProof.Rows L2 Su
open Evl (Ex)
open Kh374 (Tri)
section
variable {P : Program} {w : World} {K : PySem.W.Frag} {mg : Str → Option Value} {base : Heap} {C : Addr}
theorem sc_added_products : FnScope ["f", "g", "h", "k"] ["f", "g", "h", "k"] (defScope s_added_products) := ⟨rfl, rfl, rfl, by decide +kernel, rfl, by decide +kernel, by decide +kernel⟩
theorem good_added_products (d : Decl K mg "added_products" s_added_products) (g_plus : Good P w K mg base "plus" 2 ["f", "g"] (pf cPlusG)) (g_times : Good P w K mg base "times" 2 ["f", "g"] (pf cTimesG)) : Good P w K mg base "added_products" 3 ["f", "g", "h", "k"] (pf cAdded) := by
  refine d.good sc_added_products (fun _ _ _ _ _ _ us hl => match us, hl with | [_, _, _, _], _ => rfl) (pf_len fun _ _ c => by cases c; rfl) fun f cdv A outer s H vs Q E hr h => ?_
  obtain ⟨Rs, R, c, ha, q⟩ := h
  cases c with
  | mk g_f g_g g_h g_k hS hn =>
  obtain ⟨v0, _, rfl, h0, v1, _, rfl, h1, v2, _, rfl, h2, v3, _, rfl, h3, rfl⟩ := ha
  have ex : Ex H H := Ex.refl H
  refine ⟨_, pss_one (ps_ret (pe_g g_plus (hr.mono (by decide)) (by rfl) (pa_cons (pe_g g_times (hr.mono (by decide)) (by rfl) (pa_cons (pv 0) (pa_cons (pv 1) pa_nil))) (pa_cons (pe_g g_times (hr.mono (by decide)) (by rfl) (pa_cons (pv 2) (pa_cons (pv 3) pa_nil))) pa_nil)))), ?_⟩
  refine s_st (σ2 := [some v0, some v1, some v2, some v3]) rfl ?_
  exact s_retP (evp_call (E := E0) (evps_cons (evp_call (E := E0) (evps_cons (evp_var rfl h0) (evps_cons (evp_var rfl h1) evps_nil)) (cTimesG.mk g_f g_g (sm_of hS fun i => by simp only [badd, bmax, b0]; omega) (by omega))) (evps_cons (evp_call (E := E0) (evps_cons (evp_var rfl h2) (evps_cons (evp_var rfl h3) evps_nil)) (cTimesG.mk g_h g_k (sm_of hS fun i => by simp only [badd, bmax, b0]; omega) (by omega))) evps_nil)) (cPlusG.mk (gd_times g_f g_g) (gd_times g_h g_k) (sm_of hS fun i => by simp only [badd, bmax, b0]; omega))) fun v H' e hv => q v H' (ex.trans e) hv
theorem sc_crossed_products : FnScope ["f", "g", "h", "k"] ["f", "g", "h", "k"] (defScope s_crossed_products) := ⟨rfl, rfl, rfl, by decide +kernel, rfl, by decide +kernel, by decide +kernel⟩
theorem good_crossed_products (d : Decl K mg "crossed_products" s_crossed_products) (g_less : Good P w K mg base "less" 2 ["f", "g"] (pf cLessG)) (g_times : Good P w K mg base "times" 2 ["f", "g"] (pf cTimesG)) : Good P w K mg base "crossed_products" 3 ["f", "g", "h", "k"] (pf cCross) := by
  refine d.good sc_crossed_products (fun _ _ _ _ _ _ us hl => match us, hl with | [_, _, _, _], _ => rfl) (pf_len fun _ _ c => by cases c; rfl) fun f cdv A outer s H vs Q E hr h => ?_
  obtain ⟨Rs, R, c, ha, q⟩ := h
  cases c with
  | mk g_f g_g g_h g_k hS hn =>
  obtain ⟨v0, _, rfl, h0, v1, _, rfl, h1, v2, _, rfl, h2, v3, _, rfl, h3, rfl⟩ := ha
  have ex : Ex H H := Ex.refl H
  refine ⟨_, pss_one (ps_ret (pe_g g_less (hr.mono (by decide)) (by rfl) (pa_cons (pe_g g_times (hr.mono (by decide)) (by rfl) (pa_cons (pv 0) (pa_cons (pv 1) pa_nil))) (pa_cons (pe_g g_times (hr.mono (by decide)) (by rfl) (pa_cons (pv 2) (pa_cons (pv 3) pa_nil))) pa_nil)))), ?_⟩
  refine s_st (σ2 := [some v0, some v1, some v2, some v3]) rfl ?_
  exact s_retP (evp_call (E := E0) (evps_cons (evp_call (E := E0) (evps_cons (evp_var rfl h0) (evps_cons (evp_var rfl h1) evps_nil)) (cTimesG.mk g_f g_g (sm_of hS fun i => by simp only [badd, bmax, b0]; omega) (by omega))) (evps_cons (evp_call (E := E0) (evps_cons (evp_var rfl h2) (evps_cons (evp_var rfl h3) evps_nil)) (cTimesG.mk g_h g_k (sm_of hS fun i => by simp only [badd, bmax, b0]; omega) (by omega))) evps_nil)) (cLessG.mk (gd_times g_f g_g) (gd_times g_h g_k) (sm_of hS fun i => by simp only [badd, bmax, b0]; omega))) fun v H' e hv => q v H' (ex.trans e) hv
theorem sc_way : FnScope ["a", "b"] ["a", "b"] (defScope s_way) := ⟨rfl, rfl, rfl, by decide +kernel, rfl, by decide +kernel, by decide +kernel⟩
theorem good_way (d : Decl K mg "way" s_way) (T : PtC K C) (g_crossed_products : Good P w K mg base "crossed_products" 3 ["f", "g", "h", "k"] (pf cCross)) : Good P w K mg base "way" 4 ["a", "b"] (pf (cWay C)) := by
  refine d.good sc_way (fun _ _ _ _ _ _ us hl => match us, hl with | [_, _], _ => rfl) (pf_len fun _ _ c => by cases c; rfl) fun f cdv A outer s H vs Q E hr h => ?_
  obtain ⟨Rs, R, c, ha, q⟩ := h
  cases c with
  | mk g_a g_b hS hn =>
  obtain ⟨v0, _, rfl, h0, v1, _, rfl, h1, rfl⟩ := ha
  have ex : Ex H H := Ex.refl H
  refine ⟨_, pss_one (ps_ret (pe_tup (pa_cons (pe_g g_crossed_products (hr.mono (by decide)) (by rfl) (pa_cons (pe_fld (pv 1) rfl) (pa_cons (pe_fld (pv 0) rfl) (pa_cons (pe_fld (pv 0) rfl) (pa_cons (pe_fld (pv 1) rfl) pa_nil))))) (pa_cons (pe_g g_crossed_products (hr.mono (by decide)) (by rfl) (pa_cons (pe_fld (pv 1) rfl) (pa_cons (pe_fld (pv 0) rfl) (pa_cons (pe_fld (pv 0) rfl) (pa_cons (pe_fld (pv 1) rfl) pa_nil))))) pa_nil)))), ?_⟩
  refine s_st (σ2 := [some v0, some v1]) rfl ?_
  exact s_retP (evp_tup (evps_cons (evp_call (E := E0) (evps_cons (evp_x T.cl T.nX (evp_var rfl h1)) (evps_cons (evp_w T.cl T.nW (evp_var rfl h0)) (evps_cons (evp_x T.cl T.nX (evp_var rfl h0)) (evps_cons (evp_w T.cl T.nW (evp_var rfl h1)) evps_nil)))) (cCross.mk g_b.x g_a.w g_a.x g_b.w (sm_of hS fun i => by simp only [badd, bmax, b0]; omega) (by omega))) (evps_cons (evp_call (E := E0) (evps_cons (evp_y T.cl T.nY (evp_var rfl h1)) (evps_cons (evp_w T.cl T.nW (evp_var rfl h0)) (evps_cons (evp_y T.cl T.nY (evp_var rfl h0)) (evps_cons (evp_w T.cl T.nW (evp_var rfl h1)) evps_nil)))) (cCross.mk g_b.y g_a.w g_a.y g_b.w (sm_of hS fun i => by simp only [badd, bmax, b0]; omega) (by omega))) evps_nil)) (by show 2 ≤ 100; decide)) fun v H' e hv => q v H' (ex.trans e) hv
theorem sc_line : FnScope ["a", "b"] ["a", "b"] (defScope s_line) := ⟨rfl, rfl, rfl, by decide +kernel, rfl, by decide +kernel, by decide +kernel⟩
theorem good_line (d : Decl K mg "line" s_line) (T : PtC K C) (g_crossed_products : Good P w K mg base "crossed_products" 3 ["f", "g", "h", "k"] (pf cCross)) : Good P w K mg base "line" 4 ["a", "b"] (pf (cLine C)) := by
  refine d.good sc_line (fun _ _ _ _ _ _ us hl => match us, hl with | [_, _], _ => rfl) (pf_len fun _ _ c => by cases c; rfl) fun f cdv A outer s H vs Q E hr h => ?_
  obtain ⟨Rs, R, c, ha, q⟩ := h
  cases c with
  | mk g_a g_b hS hn =>
  obtain ⟨v0, _, rfl, h0, v1, _, rfl, h1, rfl⟩ := ha
  have ex : Ex H H := Ex.refl H
  refine ⟨_, pss_one (ps_ret (pe_tup (pa_cons (pe_g g_crossed_products (hr.mono (by decide)) (by rfl) (pa_cons (pe_fld (pv 0) rfl) (pa_cons (pe_fld (pv 1) rfl) (pa_cons (pe_fld (pv 1) rfl) (pa_cons (pe_fld (pv 0) rfl) pa_nil))))) (pa_cons (pe_g g_crossed_products (hr.mono (by decide)) (by rfl) (pa_cons (pe_fld (pv 1) rfl) (pa_cons (pe_fld (pv 0) rfl) (pa_cons (pe_fld (pv 0) rfl) (pa_cons (pe_fld (pv 1) rfl) pa_nil))))) (pa_cons (pe_g g_crossed_products (hr.mono (by decide)) (by rfl) (pa_cons (pe_fld (pv 0) rfl) (pa_cons (pe_fld (pv 1) rfl) (pa_cons (pe_fld (pv 1) rfl) (pa_cons (pe_fld (pv 0) rfl) pa_nil))))) pa_nil))))), ?_⟩
  refine s_st (σ2 := [some v0, some v1]) rfl ?_
  exact s_retP (evp_tup (evps_cons (evp_call (E := E0) (evps_cons (evp_y T.cl T.nY (evp_var rfl h0)) (evps_cons (evp_w T.cl T.nW (evp_var rfl h1)) (evps_cons (evp_y T.cl T.nY (evp_var rfl h1)) (evps_cons (evp_w T.cl T.nW (evp_var rfl h0)) evps_nil)))) (cCross.mk g_a.y g_b.w g_b.y g_a.w (sm_of hS fun i => by simp only [badd, bmax, b0]; omega) (by omega))) (evps_cons (evp_call (E := E0) (evps_cons (evp_x T.cl T.nX (evp_var rfl h1)) (evps_cons (evp_w T.cl T.nW (evp_var rfl h0)) (evps_cons (evp_x T.cl T.nX (evp_var rfl h0)) (evps_cons (evp_w T.cl T.nW (evp_var rfl h1)) evps_nil)))) (cCross.mk g_b.x g_a.w g_a.x g_b.w (sm_of hS fun i => by simp only [badd, bmax, b0]; omega) (by omega))) (evps_cons (evp_call (E := E0) (evps_cons (evp_x T.cl T.nX (evp_var rfl h0)) (evps_cons (evp_y T.cl T.nY (evp_var rfl h1)) (evps_cons (evp_x T.cl T.nX (evp_var rfl h1)) (evps_cons (evp_y T.cl T.nY (evp_var rfl h0)) evps_nil)))) (cCross.mk g_a.x g_b.y g_b.x g_a.y (sm_of hS fun i => by simp only [badd, bmax, b0]; omega) (by omega))) evps_nil))) (by show 3 ≤ 100; decide)) fun v H' e hv => q v H' (ex.trans e) hv
theorem sc_beside : FnScope ["pqr", "c"] ["pqr", "c"] (defScope s_beside) := ⟨rfl, rfl, rfl, by decide +kernel, rfl, by decide +kernel, by decide +kernel⟩
theorem good_beside (d : Decl K mg "beside" s_beside) (T : PtC K C) (g_plus : Good P w K mg base "plus" 2 ["f", "g"] (pf cPlusG)) (g_added_products : Good P w K mg base "added_products" 3 ["f", "g", "h", "k"] (pf cAdded)) (g_times : Good P w K mg base "times" 2 ["f", "g"] (pf cTimesG)) : Good P w K mg base "beside" 4 ["pqr", "c"] (pf (cBeside C)) := by
  refine d.good sc_beside (fun _ _ _ _ _ _ us hl => match us, hl with | [_, _], _ => rfl) (pf_len fun _ _ c => by cases c; rfl) fun f cdv A outer s H vs Q E hr h => ?_
  obtain ⟨Rs, R, c, ha, q⟩ := h
  cases c with
  | mk g_pqr g_c hS hn =>
  obtain ⟨v0, _, rfl, h0, v1, _, rfl, h1, rfl⟩ := ha
  have ex : Ex H H := Ex.refl H
  refine ⟨_, pss_one (ps_ret (pe_g g_plus (hr.mono (by decide)) (by rfl) (pa_cons (pe_g g_added_products (hr.mono (by decide)) (by rfl) (pa_cons (pe_ix ix_tup (pv 0) pe_int (fun _ _ => rfl)) (pa_cons (pe_fld (pv 1) rfl) (pa_cons (pe_ix ix_tup (pv 0) pe_int (fun _ _ => rfl)) (pa_cons (pe_fld (pv 1) rfl) pa_nil))))) (pa_cons (pe_g g_times (hr.mono (by decide)) (by rfl) (pa_cons (pe_ix ix_tup (pv 0) pe_int (fun _ _ => rfl)) (pa_cons (pe_fld (pv 1) rfl) pa_nil))) pa_nil)))), ?_⟩
  refine s_st (σ2 := [some v0, some v1]) rfl ?_
  exact s_retP (evp_call (E := E0) (evps_cons (evp_call (E := E0) (evps_cons (evp_ixT (j := 0) (evp_var rfl h0) (evp_c rfl) rfl) (evps_cons (evp_x T.cl T.nX (evp_var rfl h1)) (evps_cons (evp_ixT (j := 1) (evp_var rfl h0) (evp_c rfl) rfl) (evps_cons (evp_y T.cl T.nY (evp_var rfl h1)) evps_nil)))) (cAdded.mk g_pqr.x g_c.x g_pqr.y g_c.y (sm_of hS fun i => by simp only [badd, bmax, b0]; omega) (by omega))) (evps_cons (evp_call (E := E0) (evps_cons (evp_ixT (j := 2) (evp_var rfl h0) (evp_c rfl) rfl) (evps_cons (evp_w T.cl T.nW (evp_var rfl h1)) evps_nil)) (cTimesG.mk g_pqr.w g_c.w (sm_of hS fun i => by simp only [badd, bmax, b0]; omega) (by omega))) evps_nil)) (cPlusG.mk (gd_added g_pqr.x g_c.x g_pqr.y g_c.y) (gd_times g_pqr.w g_c.w) (sm_of hS fun i => by simp only [badd, bmax, b0]; omega))) fun v H' e hv => q v H' (ex.trans e) hv
theorem sc_area : FnScope ["a", "b", "c"] ["a", "b", "c"] (defScope s_area) := ⟨rfl, rfl, rfl, by decide +kernel, rfl, by decide +kernel, by decide +kernel⟩
theorem good_area (d : Decl K mg "area" s_area) (T : PtC K C) (g_beside : Good P w K mg base "beside" 4 ["pqr", "c"] (pf (cBeside C))) (g_line : Good P w K mg base "line" 4 ["a", "b"] (pf (cLine C))) : Good P w K mg base "area" 5 ["a", "b", "c"] (pf (cArea C)) := by
  refine d.good sc_area (fun _ _ _ _ _ _ us hl => match us, hl with | [_, _, _], _ => rfl) (pf_len fun _ _ c => by cases c; rfl) fun f cdv A outer s H vs Q E hr h => ?_
  obtain ⟨Rs, R, c, ha, q⟩ := h
  cases c with
  | mk g_a g_b g_c hS hn =>
  obtain ⟨v0, _, rfl, h0, v1, _, rfl, h1, v2, _, rfl, h2, rfl⟩ := ha
  have ex : Ex H H := Ex.refl H
  refine ⟨_, pss_one (ps_ret (pe_g g_beside (hr.mono (by decide)) (by rfl) (pa_cons (pe_g g_line (hr.mono (by decide)) (by rfl) (pa_cons (pv 1) (pa_cons (pv 2) pa_nil))) (pa_cons (pv 0) pa_nil)))), ?_⟩
  refine s_st (σ2 := [some v0, some v1, some v2]) rfl ?_
  exact s_retP (evp_call (E := E0) (evps_cons (evp_call (E := E0) (evps_cons (evp_var rfl h1) (evps_cons (evp_var rfl h2) evps_nil)) (cLine.mk g_b g_c (sm_of hS fun i => by simp only [badd, bmax, b0]; omega) (by omega))) (evps_cons (evp_var rfl h0) evps_nil)) (cBeside.mk (gd_line g_b g_c) g_a (sm_of hS fun i => by simp only [badd, bmax, b0]; omega) (by omega))) fun v H' e hv => q v H' (ex.trans e) hv
theorem sc_square : FnScope ["a"] ["a"] (defScope s_square) := ⟨rfl, rfl, rfl, by decide +kernel, rfl, by decide +kernel, by decide +kernel⟩
theorem good_square (d : Decl K mg "square" s_square) (T : PtC K C) (g_added_products : Good P w K mg base "added_products" 3 ["f", "g", "h", "k"] (pf cAdded)) : Good P w K mg base "square" 4 ["a"] (pf (cSquare C)) := by
  refine d.good sc_square (fun _ _ _ _ _ _ us hl => match us, hl with | [_], _ => rfl) (pf_len fun _ _ c => by cases c; rfl) fun f cdv A outer s H vs Q E hr h => ?_
  obtain ⟨Rs, R, c, ha, q⟩ := h
  cases c with
  | mk g_a hS hn =>
  obtain ⟨v0, _, rfl, h0, rfl⟩ := ha
  have ex : Ex H H := Ex.refl H
  refine ⟨_, pss_one (ps_ret (pe_g g_added_products (hr.mono (by decide)) (by rfl) (pa_cons (pe_fld (pv 0) rfl) (pa_cons (pe_fld (pv 0) rfl) (pa_cons (pe_fld (pv 0) rfl) (pa_cons (pe_fld (pv 0) rfl) pa_nil)))))), ?_⟩
  refine s_st (σ2 := [some v0]) rfl ?_
  exact s_retP (evp_call (E := E0) (evps_cons (evp_x T.cl T.nX (evp_var rfl h0)) (evps_cons (evp_x T.cl T.nX (evp_var rfl h0)) (evps_cons (evp_y T.cl T.nY (evp_var rfl h0)) (evps_cons (evp_y T.cl T.nY (evp_var rfl h0)) evps_nil)))) (cAdded.mk g_a.x g_a.x g_a.y g_a.y (sm_of hS fun i => by simp only [badd, bmax, b0]; omega) (by omega))) fun v H' e hv => q v H' (ex.trans e) hv
theorem sc_matched : FnScope ["first", "other"] ["first", "other"] (defScope s_matched) := ⟨rfl, rfl, rfl, by decide +kernel, rfl, by decide +kernel, by decide +kernel⟩
theorem good_matched (d : Decl K mg "matched" s_matched) (g_added_products : Good P w K mg base "added_products" 3 ["f", "g", "h", "k"] (pf cAdded)) : Good P w K mg base "matched" 4 ["first", "other"] (pf cMatched) := by
  refine d.good sc_matched (fun _ _ _ _ _ _ us hl => match us, hl with | [_, _], _ => rfl) (pf_len fun _ _ c => by cases c; rfl) fun f cdv A outer s H vs Q E hr h => ?_
  obtain ⟨Rs, R, c, ha, q⟩ := h
  cases c with
  | mk g_first g_other hS hn eR1 eR2 =>
  obtain ⟨v0, _, rfl, h0, v1, _, rfl, h1, rfl⟩ := ha
  subst eR1 eR2
  have ex : Ex H H := Ex.refl H
  refine ⟨_, pss_one (ps_ret (pe_g g_added_products (hr.mono (by decide)) (by rfl) (pa_cons (pe_ix ix_tup (pv 0) pe_int (fun _ _ => rfl)) (pa_cons (pe_ix ix_tup (pv 1) pe_int (fun _ _ => rfl)) (pa_cons (pe_ix ix_tup (pv 0) pe_int (fun _ _ => rfl)) (pa_cons (pe_ix ix_tup (pv 1) pe_int (fun _ _ => rfl)) pa_nil)))))), ?_⟩
  refine s_st (σ2 := [some v0, some v1]) rfl ?_
  exact s_retP (evp_call (E := E0) (evps_cons (evp_ixT (j := 0) (evp_var rfl h0) (evp_c rfl) rfl) (evps_cons (evp_ixT (j := 0) (evp_var rfl h1) (evp_c rfl) rfl) (evps_cons (evp_ixT (j := 1) (evp_var rfl h0) (evp_c rfl) rfl) (evps_cons (evp_ixT (j := 1) (evp_var rfl h1) (evp_c rfl) rfl) evps_nil)))) (cAdded.mk g_first.l g_other.l g_first.r g_other.r (sm_of hS fun i => by simp only [badd, bmax, b0]; omega) (by omega))) fun v H' e hv => q v H' (ex.trans e) hv
theorem sc_moved : FnScope ["a", "scale", "across", "up"] ["a", "scale", "across", "up"] (defScope s_moved) := ⟨rfl, rfl, rfl, by decide +kernel, rfl, by decide +kernel, by decide +kernel⟩
theorem good_moved (d : Decl K mg "moved" s_moved) (T : PtC K C) (g_plus : Good P w K mg base "plus" 2 ["f", "g"] (pf cPlusG)) (g_times : Good P w K mg base "times" 2 ["f", "g"] (pf cTimesG)) : Good P w K mg base "moved" 3 ["a", "scale", "across", "up"] (pf (cMoved C)) := by
  refine d.good sc_moved (fun _ _ _ _ _ _ us hl => match us, hl with | [_, _, _, _], _ => rfl) (pf_len fun _ _ c => by cases c; rfl) fun f cdv A outer s H vs Q E hr h => ?_
  obtain ⟨Rs, R, c, ha, q⟩ := h
  cases c with
  | mk g_a g_scale g_across g_up hS hn =>
  obtain ⟨v0, _, rfl, h0, v1, _, rfl, h1, v2, _, rfl, h2, v3, _, rfl, h3, rfl⟩ := ha
  have ex : Ex H H := Ex.refl H
  refine ⟨_, pss_one (ps_ret (pe_tup (pa_cons (pe_g g_plus (hr.mono (by decide)) (by rfl) (pa_cons (pe_g g_times (hr.mono (by decide)) (by rfl) (pa_cons (pe_fld (pv 0) rfl) (pa_cons (pv 1) pa_nil))) (pa_cons (pv 2) pa_nil))) (pa_cons (pe_g g_plus (hr.mono (by decide)) (by rfl) (pa_cons (pe_g g_times (hr.mono (by decide)) (by rfl) (pa_cons (pe_fld (pv 0) rfl) (pa_cons (pv 1) pa_nil))) (pa_cons (pv 3) pa_nil))) (pa_cons (pe_g g_times (hr.mono (by decide)) (by rfl) (pa_cons (pe_fld (pv 0) rfl) (pa_cons (pv 1) pa_nil))) pa_nil))))), ?_⟩
  refine s_st (σ2 := [some v0, some v1, some v2, some v3]) rfl ?_
  exact s_retP (evp_tup (evps_cons (evp_call (E := E0) (evps_cons (evp_call (E := E0) (evps_cons (evp_x T.cl T.nX (evp_var rfl h0)) (evps_cons (evp_var rfl h1) evps_nil)) (cTimesG.mk g_a.x g_scale (sm_of hS fun i => by simp only [badd, bmax, b0]; omega) (by omega))) (evps_cons (evp_var rfl h2) evps_nil)) (cPlusG.mk (gd_times g_a.x g_scale) g_across (sm_of hS fun i => by simp only [badd, bmax, b0]; omega))) (evps_cons (evp_call (E := E0) (evps_cons (evp_call (E := E0) (evps_cons (evp_y T.cl T.nY (evp_var rfl h0)) (evps_cons (evp_var rfl h1) evps_nil)) (cTimesG.mk g_a.y g_scale (sm_of hS fun i => by simp only [badd, bmax, b0]; omega) (by omega))) (evps_cons (evp_var rfl h3) evps_nil)) (cPlusG.mk (gd_times g_a.y g_scale) g_up (sm_of hS fun i => by simp only [badd, bmax, b0]; omega))) (evps_cons (evp_call (E := E0) (evps_cons (evp_w T.cl T.nW (evp_var rfl h0)) (evps_cons (evp_var rfl h1) evps_nil)) (cTimesG.mk g_a.w g_scale (sm_of hS fun i => by simp only [badd, bmax, b0]; omega) (by omega))) evps_nil))) (by show 3 ≤ 100; decide)) fun v H' e hv => q v H' (ex.trans e) hv
theorem sc_part : FnScope ["a", "b", "m", "n", "ab"] ["a", "b", "m", "n"] (defScope s_part) := ⟨rfl, rfl, rfl, by decide +kernel, rfl, by decide +kernel, by decide +kernel⟩
theorem good_part (d : Decl K mg "part" s_part) (T : PtC K C) (g_way : Good P w K mg base "way" 4 ["a", "b"] (pf (cWay C))) (g_moved : Good P w K mg base "moved" 3 ["a", "scale", "across", "up"] (pf (cMoved C))) (g_times : Good P w K mg base "times" 2 ["f", "g"] (pf cTimesG)) : Good P w K mg base "part" 5 ["a", "b", "m", "n"] (pf (cPart C)) := by
  refine d.good sc_part (fun _ _ _ _ _ _ us hl => match us, hl with | [_, _, _, _], _ => rfl) (pf_len fun _ _ c => by cases c; rfl) fun f cdv A outer s H vs Q E hr h => ?_
  obtain ⟨Rs, R, c, ha, q⟩ := h
  cases c with
  | mk g_a g_b g_m g_n hS hn =>
  obtain ⟨v0, _, rfl, h0, v1, _, rfl, h1, v2, _, rfl, h2, v3, _, rfl, h3, rfl⟩ := ha
  have ex : Ex H H := Ex.refl H
  refine ⟨_, pss_cons (ps_set (i := 4) sc_part.nd rfl (.inl rfl) (pe_g g_way (hr.mono (by decide)) (by rfl) (pa_cons (pv 0) (pa_cons (pv 1) pa_nil)))) (pss_one (ps_ret (pe_g g_moved (hr.mono (by decide)) (by rfl) (pa_cons (pv 0) (pa_cons (pe_g g_times (hr.mono (by decide)) (by rfl) (pa_cons (pv 3) (pa_cons (pe_fld (pv 1) rfl) pa_nil))) (pa_cons (pe_g g_times (hr.mono (by decide)) (by rfl) (pa_cons (pv 2) (pa_cons (pe_ix ix_tup (pv 4) pe_int (fun _ _ => rfl)) pa_nil))) (pa_cons (pe_g g_times (hr.mono (by decide)) (by rfl) (pa_cons (pv 2) (pa_cons (pe_ix ix_tup (pv 4) pe_int (fun _ _ => rfl)) pa_nil))) pa_nil))))))), ?_⟩
  refine s_st (σ2 := [some v0, some v1, some v2, some v3, none]) rfl ?_
  refine s_set (σ2 := fun v => [some v0, some v1, some v2, some v3, some v]) (fun _ => rfl) (evp_call (E := E0) (evps_cons (evp_var rfl h0) (evps_cons (evp_var rfl h1) evps_nil)) (cWay.mk g_a g_b (sm_of hS fun i => by simp only [badd, bmax, b0]; omega) (by omega))) fun v4 H1 e1 h4 => ?_
  replace h0 := Rp.stay _ e1 h0
  replace h1 := Rp.stay _ e1 h1
  replace h2 := Rp.stay _ e1 h2
  replace h3 := Rp.stay _ e1 h3
  replace ex := ex.trans e1
  have g_ab := (gd_way g_a g_b)
  exact s_retP (evp_call (E := E0) (evps_cons (evp_var rfl h0) (evps_cons (evp_call (E := E0) (evps_cons (evp_var rfl h3) (evps_cons (evp_w T.cl T.nW (evp_var rfl h1)) evps_nil)) (cTimesG.mk g_n g_b.w (sm_of hS fun i => by simp only [badd, bmax, b0]; omega) (by omega))) (evps_cons (evp_call (E := E0) (evps_cons (evp_var rfl h2) (evps_cons (evp_ixT (j := 0) (evp_var rfl h4) (evp_c rfl) rfl) evps_nil)) (cTimesG.mk g_m g_ab.l (sm_of hS fun i => by simp only [badd, bmax, b0]; omega) (by omega))) (evps_cons (evp_call (E := E0) (evps_cons (evp_var rfl h2) (evps_cons (evp_ixT (j := 1) (evp_var rfl h4) (evp_c rfl) rfl) evps_nil)) (cTimesG.mk g_m g_ab.r (sm_of hS fun i => by simp only [badd, bmax, b0]; omega) (by omega))) evps_nil)))) (cMoved.mk g_a (gd_times g_n g_b.w) (gd_times g_m g_ab.l) (gd_times g_m g_ab.r) (sm_of hS fun i => by simp only [badd, bmax, b0]; omega) (by omega))) fun v H' e hv => q v H' (ex.trans e) hv
theorem sc_on : FnScope ["a", "b", "s"] ["a", "b", "s"] (defScope s_on) := ⟨rfl, rfl, rfl, by decide +kernel, rfl, by decide +kernel, by decide +kernel⟩
theorem good_on (d : Decl K mg "on" s_on) (T : PtC K C) (g_part : Good P w K mg base "part" 5 ["a", "b", "m", "n"] (pf (cPart C))) (g_constant : Good P w K mg base "constant" 1 ["number"] (pf cConst)) : Good P w K mg base "on" 6 ["a", "b", "s"] (pf (cOn C)) := by
  refine d.good sc_on (fun _ _ _ _ _ _ us hl => match us, hl with | [_, _, _], _ => rfl) (pf_len fun _ _ c => by cases c; rfl) fun f cdv A outer s H vs Q E hr h => ?_
  obtain ⟨Rs, R, c, ha, q⟩ := h
  cases c with
  | mk g_a g_b g_s hS hn =>
  obtain ⟨v0, _, rfl, h0, v1, _, rfl, h1, v2, _, rfl, h2, rfl⟩ := ha
  have ex : Ex H H := Ex.refl H
  refine ⟨_, pss_one (ps_ret (pe_g g_part (hr.mono (by decide)) (by rfl) (pa_cons (pv 0) (pa_cons (pv 1) (pa_cons (pv 2) (pa_cons (pe_g g_constant (hr.mono (by decide)) (by rfl) (pa_cons pe_int pa_nil)) pa_nil)))))), ?_⟩
  refine s_st (σ2 := [some v0, some v1, some v2]) rfl ?_
  exact s_retP (evp_call (E := E0) (evps_cons (evp_var rfl h0) (evps_cons (evp_var rfl h1) (evps_cons (evp_var rfl h2) (evps_cons (evp_call (E := E0) (evps_cons (evp_c rfl) evps_nil) (cConst.mk (1))) evps_nil)))) (cPart.mk g_a g_b g_s (gd_const (c := (1)) (n := 0) (by decide)) (sm_of hS fun i => by simp only [badd, bmax, b0]; omega) (by omega))) fun v H' e hv => q v H' (ex.trans e) hv
theorem sc_along : FnScope ["a", "b", "c", "ab"] ["a", "b", "c"] (defScope s_along) := ⟨rfl, rfl, rfl, by decide +kernel, rfl, by decide +kernel, by decide +kernel⟩
theorem good_along (d : Decl K mg "along" s_along) (T : PtC K C) (g_way : Good P w K mg base "way" 4 ["a", "b"] (pf (cWay C))) (g_moved : Good P w K mg base "moved" 3 ["a", "scale", "across", "up"] (pf (cMoved C))) (g_times : Good P w K mg base "times" 2 ["f", "g"] (pf cTimesG)) : Good P w K mg base "along" 5 ["a", "b", "c"] (pf (cAlong C)) := by
  refine d.good sc_along (fun _ _ _ _ _ _ us hl => match us, hl with | [_, _, _], _ => rfl) (pf_len fun _ _ c => by cases c; rfl) fun f cdv A outer s H vs Q E hr h => ?_
  obtain ⟨Rs, R, c, ha, q⟩ := h
  cases c with
  | mk g_a g_b g_c hS hn =>
  obtain ⟨v0, _, rfl, h0, v1, _, rfl, h1, v2, _, rfl, h2, rfl⟩ := ha
  have ex : Ex H H := Ex.refl H
  refine ⟨_, pss_cons (ps_set (i := 3) sc_along.nd rfl (.inl rfl) (pe_g g_way (hr.mono (by decide)) (by rfl) (pa_cons (pv 0) (pa_cons (pv 1) pa_nil)))) (pss_one (ps_ret (pe_g g_moved (hr.mono (by decide)) (by rfl) (pa_cons (pv 2) (pa_cons (pe_g g_times (hr.mono (by decide)) (by rfl) (pa_cons (pe_fld (pv 0) rfl) (pa_cons (pe_fld (pv 1) rfl) pa_nil))) (pa_cons (pe_g g_times (hr.mono (by decide)) (by rfl) (pa_cons (pe_fld (pv 2) rfl) (pa_cons (pe_ix ix_tup (pv 3) pe_int (fun _ _ => rfl)) pa_nil))) (pa_cons (pe_g g_times (hr.mono (by decide)) (by rfl) (pa_cons (pe_fld (pv 2) rfl) (pa_cons (pe_ix ix_tup (pv 3) pe_int (fun _ _ => rfl)) pa_nil))) pa_nil))))))), ?_⟩
  refine s_st (σ2 := [some v0, some v1, some v2, none]) rfl ?_
  refine s_set (σ2 := fun v => [some v0, some v1, some v2, some v]) (fun _ => rfl) (evp_call (E := E0) (evps_cons (evp_var rfl h0) (evps_cons (evp_var rfl h1) evps_nil)) (cWay.mk g_a g_b (sm_of hS fun i => by simp only [badd, bmax, b0]; omega) (by omega))) fun v3 H1 e1 h3 => ?_
  replace h0 := Rp.stay _ e1 h0
  replace h1 := Rp.stay _ e1 h1
  replace h2 := Rp.stay _ e1 h2
  replace ex := ex.trans e1
  have g_ab := (gd_way g_a g_b)
  exact s_retP (evp_call (E := E0) (evps_cons (evp_var rfl h2) (evps_cons (evp_call (E := E0) (evps_cons (evp_w T.cl T.nW (evp_var rfl h0)) (evps_cons (evp_w T.cl T.nW (evp_var rfl h1)) evps_nil)) (cTimesG.mk g_a.w g_b.w (sm_of hS fun i => by simp only [badd, bmax, b0]; omega) (by omega))) (evps_cons (evp_call (E := E0) (evps_cons (evp_w T.cl T.nW (evp_var rfl h2)) (evps_cons (evp_ixT (j := 0) (evp_var rfl h3) (evp_c rfl) rfl) evps_nil)) (cTimesG.mk g_c.w g_ab.l (sm_of hS fun i => by simp only [badd, bmax, b0]; omega) (by omega))) (evps_cons (evp_call (E := E0) (evps_cons (evp_w T.cl T.nW (evp_var rfl h2)) (evps_cons (evp_ixT (j := 1) (evp_var rfl h3) (evp_c rfl) rfl) evps_nil)) (cTimesG.mk g_c.w g_ab.r (sm_of hS fun i => by simp only [badd, bmax, b0]; omega) (by omega))) evps_nil)))) (cMoved.mk g_c (gd_times g_a.w g_b.w) (gd_times g_c.w g_ab.l) (gd_times g_c.w g_ab.r) (sm_of hS fun i => by simp only [badd, bmax, b0]; omega) (by omega))) fun v H' e hv => q v H' (ex.trans e) hv
theorem sc_meeting : FnScope ["pqr", "other"] ["pqr", "other"] (defScope s_meeting) := ⟨rfl, rfl, rfl, by decide +kernel, rfl, by decide +kernel, by decide +kernel⟩
theorem good_meeting (d : Decl K mg "meeting" s_meeting) (g_crossed_products : Good P w K mg base "crossed_products" 3 ["f", "g", "h", "k"] (pf cCross)) : Good P w K mg base "meeting" 4 ["pqr", "other"] (pf cMeeting) := by
  refine d.good sc_meeting (fun _ _ _ _ _ _ us hl => match us, hl with | [_, _], _ => rfl) (pf_len fun _ _ c => by cases c; rfl) fun f cdv A outer s H vs Q E hr h => ?_
  obtain ⟨Rs, R, c, ha, q⟩ := h
  cases c with
  | mk g_pqr g_other hS hn =>
  obtain ⟨v0, _, rfl, h0, v1, _, rfl, h1, rfl⟩ := ha
  have ex : Ex H H := Ex.refl H
  refine ⟨_, pss_one (ps_ret (pe_tup (pa_cons (pe_g g_crossed_products (hr.mono (by decide)) (by rfl) (pa_cons (pe_ix ix_tup (pv 0) pe_int (fun _ _ => rfl)) (pa_cons (pe_ix ix_tup (pv 1) pe_int (fun _ _ => rfl)) (pa_cons (pe_ix ix_tup (pv 1) pe_int (fun _ _ => rfl)) (pa_cons (pe_ix ix_tup (pv 0) pe_int (fun _ _ => rfl)) pa_nil))))) (pa_cons (pe_g g_crossed_products (hr.mono (by decide)) (by rfl) (pa_cons (pe_ix ix_tup (pv 0) pe_int (fun _ _ => rfl)) (pa_cons (pe_ix ix_tup (pv 1) pe_int (fun _ _ => rfl)) (pa_cons (pe_ix ix_tup (pv 1) pe_int (fun _ _ => rfl)) (pa_cons (pe_ix ix_tup (pv 0) pe_int (fun _ _ => rfl)) pa_nil))))) (pa_cons (pe_g g_crossed_products (hr.mono (by decide)) (by rfl) (pa_cons (pe_ix ix_tup (pv 0) pe_int (fun _ _ => rfl)) (pa_cons (pe_ix ix_tup (pv 1) pe_int (fun _ _ => rfl)) (pa_cons (pe_ix ix_tup (pv 1) pe_int (fun _ _ => rfl)) (pa_cons (pe_ix ix_tup (pv 0) pe_int (fun _ _ => rfl)) pa_nil))))) pa_nil))))), ?_⟩
  refine s_st (σ2 := [some v0, some v1]) rfl ?_
  exact s_retP (evp_tup (evps_cons (evp_call (E := E0) (evps_cons (evp_ixT (j := 1) (evp_var rfl h0) (evp_c rfl) rfl) (evps_cons (evp_ixT (j := 2) (evp_var rfl h1) (evp_c rfl) rfl) (evps_cons (evp_ixT (j := 1) (evp_var rfl h1) (evp_c rfl) rfl) (evps_cons (evp_ixT (j := 2) (evp_var rfl h0) (evp_c rfl) rfl) evps_nil)))) (cCross.mk g_pqr.y g_other.w g_other.y g_pqr.w (sm_of hS fun i => by simp only [badd, bmax, b0]; omega) (by omega))) (evps_cons (evp_call (E := E0) (evps_cons (evp_ixT (j := 2) (evp_var rfl h0) (evp_c rfl) rfl) (evps_cons (evp_ixT (j := 0) (evp_var rfl h1) (evp_c rfl) rfl) (evps_cons (evp_ixT (j := 2) (evp_var rfl h1) (evp_c rfl) rfl) (evps_cons (evp_ixT (j := 0) (evp_var rfl h0) (evp_c rfl) rfl) evps_nil)))) (cCross.mk g_pqr.w g_other.x g_other.w g_pqr.x (sm_of hS fun i => by simp only [badd, bmax, b0]; omega) (by omega))) (evps_cons (evp_call (E := E0) (evps_cons (evp_ixT (j := 0) (evp_var rfl h0) (evp_c rfl) rfl) (evps_cons (evp_ixT (j := 1) (evp_var rfl h1) (evp_c rfl) rfl) (evps_cons (evp_ixT (j := 0) (evp_var rfl h1) (evp_c rfl) rfl) (evps_cons (evp_ixT (j := 1) (evp_var rfl h0) (evp_c rfl) rfl) evps_nil)))) (cCross.mk g_pqr.x g_other.y g_other.x g_pqr.y (sm_of hS fun i => by simp only [badd, bmax, b0]; omega) (by omega))) evps_nil))) (by show 3 ≤ 100; decide)) fun v H' e hv => q v H' (ex.trans e) hv
theorem sc_meet : FnScope ["a", "b", "c", "d"] ["a", "b", "c", "d"] (defScope s_meet) := ⟨rfl, rfl, rfl, by decide +kernel, rfl, by decide +kernel, by decide +kernel⟩
theorem good_meet (d : Decl K mg "meet" s_meet) (T : PtC K C) (g_meeting : Good P w K mg base "meeting" 4 ["pqr", "other"] (pf cMeeting)) (g_line : Good P w K mg base "line" 4 ["a", "b"] (pf (cLine C))) : Good P w K mg base "meet" 5 ["a", "b", "c", "d"] (pf (cMeet C)) := by
  refine d.good sc_meet (fun _ _ _ _ _ _ us hl => match us, hl with | [_, _, _, _], _ => rfl) (pf_len fun _ _ c => by cases c; rfl) fun f cdv A outer s H vs Q E hr h => ?_
  obtain ⟨Rs, R, c, ha, q⟩ := h
  cases c with
  | mk g_a g_b g_c g_d hS hn =>
  obtain ⟨v0, _, rfl, h0, v1, _, rfl, h1, v2, _, rfl, h2, v3, _, rfl, h3, rfl⟩ := ha
  have ex : Ex H H := Ex.refl H
  refine ⟨_, pss_one (ps_ret (pe_g g_meeting (hr.mono (by decide)) (by rfl) (pa_cons (pe_g g_line (hr.mono (by decide)) (by rfl) (pa_cons (pv 0) (pa_cons (pv 1) pa_nil))) (pa_cons (pe_g g_line (hr.mono (by decide)) (by rfl) (pa_cons (pv 2) (pa_cons (pv 3) pa_nil))) pa_nil)))), ?_⟩
  refine s_st (σ2 := [some v0, some v1, some v2, some v3]) rfl ?_
  exact s_retP (evp_call (E := E0) (evps_cons (evp_call (E := E0) (evps_cons (evp_var rfl h0) (evps_cons (evp_var rfl h1) evps_nil)) (cLine.mk g_a g_b (sm_of hS fun i => by simp only [badd, bmax, b0]; omega) (by omega))) (evps_cons (evp_call (E := E0) (evps_cons (evp_var rfl h2) (evps_cons (evp_var rfl h3) evps_nil)) (cLine.mk g_c g_d (sm_of hS fun i => by simp only [badd, bmax, b0]; omega) (by omega))) evps_nil)) (cMeeting.mk (gd_line g_a g_b) (gd_line g_c g_d) (sm_of hS fun i => by simp only [badd, bmax, b0]; omega) (by omega))) fun v H' e hv => q v H' (ex.trans e) hv
theorem sc_dropped : FnScope ["c", "a", "b", "share", "pqr", "t"] ["c", "a", "b", "share"] (defScope s_dropped) := ⟨rfl, rfl, rfl, by decide +kernel, rfl, by decide +kernel, by decide +kernel⟩
theorem good_dropped (d : Decl K mg "dropped" s_dropped) (T : PtC K C) (g_line : Good P w K mg base "line" 4 ["a", "b"] (pf (cLine C))) (g_times : Good P w K mg base "times" 2 ["f", "g"] (pf cTimesG)) (g_beside : Good P w K mg base "beside" 4 ["pqr", "c"] (pf (cBeside C))) (g_moved : Good P w K mg base "moved" 3 ["a", "scale", "across", "up"] (pf (cMoved C))) (g_matched : Good P w K mg base "matched" 4 ["first", "other"] (pf cMatched)) : Good P w K mg base "dropped" 5 ["c", "a", "b", "share"] (pf (cDropped C)) := by
  refine d.good sc_dropped (fun _ _ _ _ _ _ us hl => match us, hl with | [_, _, _, _], _ => rfl) (pf_len fun _ _ c => by cases c; rfl) fun f cdv A outer s H vs Q E hr h => ?_
  obtain ⟨Rs, R, c, ha, q⟩ := h
  cases c with
  | mk g_c g_a g_b g_share hS hn =>
  obtain ⟨v0, _, rfl, h0, v1, _, rfl, h1, v2, _, rfl, h2, v3, _, rfl, h3, rfl⟩ := ha
  have ex : Ex H H := Ex.refl H
  refine ⟨_, pss_cons (ps_set (i := 4) sc_dropped.nd rfl (.inl rfl) (pe_g g_line (hr.mono (by decide)) (by rfl) (pa_cons (pv 1) (pa_cons (pv 2) pa_nil)))) (pss_cons (ps_set (i := 5) sc_dropped.nd rfl (.inl rfl) (pe_g g_times (hr.mono (by decide)) (by rfl) (pa_cons (pv 3) (pa_cons (pe_g g_beside (hr.mono (by decide)) (by rfl) (pa_cons (pv 4) (pa_cons (pv 0) pa_nil))) pa_nil)))) (pss_one (ps_ret (pe_g g_moved (hr.mono (by decide)) (by rfl) (pa_cons (pv 0) (pa_cons (pe_g g_matched (hr.mono (by decide)) (by rfl) (pa_cons (pv 4) (pa_cons (pv 4) pa_nil))) (pa_cons (pe_g g_times (hr.mono (by decide)) (by rfl) (pa_cons (pe_ix ix_tup (pv 4) pe_int (fun _ _ => rfl)) (pa_cons (pv 5) pa_nil))) (pa_cons (pe_g g_times (hr.mono (by decide)) (by rfl) (pa_cons (pe_ix ix_tup (pv 4) pe_int (fun _ _ => rfl)) (pa_cons (pv 5) pa_nil))) pa_nil)))))))), ?_⟩
  refine s_st (σ2 := [some v0, some v1, some v2, some v3, none, none]) rfl ?_
  refine s_set (σ2 := fun v => [some v0, some v1, some v2, some v3, some v, none]) (fun _ => rfl) (evp_call (E := E0) (evps_cons (evp_var rfl h1) (evps_cons (evp_var rfl h2) evps_nil)) (cLine.mk g_a g_b (sm_of hS fun i => by simp only [badd, bmax, b0]; omega) (by omega))) fun v4 H1 e1 h4 => ?_
  replace h0 := Rp.stay _ e1 h0
  replace h1 := Rp.stay _ e1 h1
  replace h2 := Rp.stay _ e1 h2
  replace h3 := Rp.stay _ e1 h3
  replace ex := ex.trans e1
  have g_pqr := (gd_line g_a g_b)
  refine s_set (σ2 := fun v => [some v0, some v1, some v2, some v3, some v4, some v]) (fun _ => rfl) (evp_call (E := E0) (evps_cons (evp_var rfl h3) (evps_cons (evp_call (E := E0) (evps_cons (evp_var rfl h4) (evps_cons (evp_var rfl h0) evps_nil)) (cBeside.mk g_pqr g_c (sm_of hS fun i => by simp only [badd, bmax, b0]; omega) (by omega))) evps_nil)) (cTimesG.mk g_share (gd_beside g_pqr g_c) (sm_of hS fun i => by simp only [badd, bmax, b0]; omega) (by omega))) fun v5 H2 e2 h5 => ?_
  replace h0 := Rp.stay _ e2 h0
  replace h1 := Rp.stay _ e2 h1
  replace h2 := Rp.stay _ e2 h2
  replace h3 := Rp.stay _ e2 h3
  replace h4 := Rp.stay _ e2 h4
  replace ex := ex.trans e2
  have g_t := (gd_times g_share (gd_beside g_pqr g_c))
  exact s_retP (evp_call (E := E0) (evps_cons (evp_var rfl h0) (evps_cons (evp_call (E := E0) (evps_cons (evp_var rfl h4) (evps_cons (evp_var rfl h4) evps_nil)) (cMatched.mk g_pqr.xy g_pqr.xy (sm_of hS fun i => by simp only [badd, bmax, b0]; omega) (by omega) rfl rfl)) (evps_cons (evp_call (E := E0) (evps_cons (evp_ixT (j := 0) (evp_var rfl h4) (evp_c rfl) rfl) (evps_cons (evp_var rfl h5) evps_nil)) (cTimesG.mk g_pqr.x g_t (sm_of hS fun i => by simp only [badd, bmax, b0]; omega) (by omega))) (evps_cons (evp_call (E := E0) (evps_cons (evp_ixT (j := 1) (evp_var rfl h4) (evp_c rfl) rfl) (evps_cons (evp_var rfl h5) evps_nil)) (cTimesG.mk g_pqr.y g_t (sm_of hS fun i => by simp only [badd, bmax, b0]; omega) (by omega))) evps_nil)))) (cMoved.mk g_c (gd_matched g_pqr.xy g_pqr.xy) (gd_times g_pqr.x g_t) (gd_times g_pqr.y g_t) (sm_of hS fun i => by simp only [badd, bmax, b0]; omega) (by omega))) fun v H' e hv => q v H' (ex.trans e) hv
theorem sc_foot : FnScope ["c", "a", "b"] ["c", "a", "b"] (defScope s_foot) := ⟨rfl, rfl, rfl, by decide +kernel, rfl, by decide +kernel, by decide +kernel⟩
theorem good_foot (d : Decl K mg "foot" s_foot) (T : PtC K C) (g_dropped : Good P w K mg base "dropped" 5 ["c", "a", "b", "share"] (pf (cDropped C))) (g_constant : Good P w K mg base "constant" 1 ["number"] (pf cConst)) : Good P w K mg base "foot" 6 ["c", "a", "b"] (pf (cFoot C)) := by
  refine d.good sc_foot (fun _ _ _ _ _ _ us hl => match us, hl with | [_, _, _], _ => rfl) (pf_len fun _ _ c => by cases c; rfl) fun f cdv A outer s H vs Q E hr h => ?_
  obtain ⟨Rs, R, c, ha, q⟩ := h
  cases c with
  | mk g_c g_a g_b hS hn =>
  obtain ⟨v0, _, rfl, h0, v1, _, rfl, h1, v2, _, rfl, h2, rfl⟩ := ha
  have ex : Ex H H := Ex.refl H
  refine ⟨_, pss_one (ps_ret (pe_g g_dropped (hr.mono (by decide)) (by rfl) (pa_cons (pv 0) (pa_cons (pv 1) (pa_cons (pv 2) (pa_cons (pe_g g_constant (hr.mono (by decide)) (by rfl) (pa_cons (pe_un un_neg pe_int) pa_nil)) pa_nil)))))), ?_⟩
  refine s_st (σ2 := [some v0, some v1, some v2]) rfl ?_
  exact s_retP (evp_call (E := E0) (evps_cons (evp_var rfl h0) (evps_cons (evp_var rfl h1) (evps_cons (evp_var rfl h2) (evps_cons (evp_call (E := E0) (evps_cons (evp_neg (evp_c rfl)) evps_nil) (cConst.mk (-1))) evps_nil)))) (cDropped.mk g_c g_a g_b (gd_const (c := (-1)) (n := 0) (by decide)) (sm_of hS fun i => by simp only [badd, bmax, b0]; omega) (by omega))) fun v H' e hv => q v H' (ex.trans e) hv
theorem sc_mirror : FnScope ["c", "a", "b"] ["c", "a", "b"] (defScope s_mirror) := ⟨rfl, rfl, rfl, by decide +kernel, rfl, by decide +kernel, by decide +kernel⟩
theorem good_mirror (d : Decl K mg "mirror" s_mirror) (T : PtC K C) (g_dropped : Good P w K mg base "dropped" 5 ["c", "a", "b", "share"] (pf (cDropped C))) (g_constant : Good P w K mg base "constant" 1 ["number"] (pf cConst)) : Good P w K mg base "mirror" 6 ["c", "a", "b"] (pf (cMirror C)) := by
  refine d.good sc_mirror (fun _ _ _ _ _ _ us hl => match us, hl with | [_, _, _], _ => rfl) (pf_len fun _ _ c => by cases c; rfl) fun f cdv A outer s H vs Q E hr h => ?_
  obtain ⟨Rs, R, c, ha, q⟩ := h
  cases c with
  | mk g_c g_a g_b hS hn =>
  obtain ⟨v0, _, rfl, h0, v1, _, rfl, h1, v2, _, rfl, h2, rfl⟩ := ha
  have ex : Ex H H := Ex.refl H
  refine ⟨_, pss_one (ps_ret (pe_g g_dropped (hr.mono (by decide)) (by rfl) (pa_cons (pv 0) (pa_cons (pv 1) (pa_cons (pv 2) (pa_cons (pe_g g_constant (hr.mono (by decide)) (by rfl) (pa_cons (pe_un un_neg pe_int) pa_nil)) pa_nil)))))), ?_⟩
  refine s_st (σ2 := [some v0, some v1, some v2]) rfl ?_
  exact s_retP (evp_call (E := E0) (evps_cons (evp_var rfl h0) (evps_cons (evp_var rfl h1) (evps_cons (evp_var rfl h2) (evps_cons (evp_call (E := E0) (evps_cons (evp_neg (evp_c rfl)) evps_nil) (cConst.mk (-2))) evps_nil)))) (cDropped.mk g_c g_a g_b (gd_const (c := (-2)) (n := 1) (by decide)) (sm_of hS fun i => by simp only [badd, bmax, b0]; omega) (by omega))) fun v H' e hv => q v H' (ex.trans e) hv
theorem sc_turn : FnScope ["a", "b", "ab"] ["a", "b"] (defScope s_turn) := ⟨rfl, rfl, rfl, by decide +kernel, rfl, by decide +kernel, by decide +kernel⟩
theorem good_turn (d : Decl K mg "turn" s_turn) (T : PtC K C) (g_way : Good P w K mg base "way" 4 ["a", "b"] (pf (cWay C))) (g_moved : Good P w K mg base "moved" 3 ["a", "scale", "across", "up"] (pf (cMoved C))) (g_times : Good P w K mg base "times" 2 ["f", "g"] (pf cTimesG)) (g_constant : Good P w K mg base "constant" 1 ["number"] (pf cConst)) : Good P w K mg base "turn" 5 ["a", "b"] (pf (cTurn C)) := by
  refine d.good sc_turn (fun _ _ _ _ _ _ us hl => match us, hl with | [_, _], _ => rfl) (pf_len fun _ _ c => by cases c; rfl) fun f cdv A outer s H vs Q E hr h => ?_
  obtain ⟨Rs, R, c, ha, q⟩ := h
  cases c with
  | mk g_a g_b hS hn =>
  obtain ⟨v0, _, rfl, h0, v1, _, rfl, h1, rfl⟩ := ha
  have ex : Ex H H := Ex.refl H
  refine ⟨_, pss_cons (ps_set (i := 2) sc_turn.nd rfl (.inl rfl) (pe_g g_way (hr.mono (by decide)) (by rfl) (pa_cons (pv 0) (pa_cons (pv 1) pa_nil)))) (pss_one (ps_ret (pe_g g_moved (hr.mono (by decide)) (by rfl) (pa_cons (pv 0) (pa_cons (pe_fld (pv 1) rfl) (pa_cons (pe_g g_times (hr.mono (by decide)) (by rfl) (pa_cons (pe_g g_constant (hr.mono (by decide)) (by rfl) (pa_cons (pe_un un_neg pe_int) pa_nil)) (pa_cons (pe_ix ix_tup (pv 2) pe_int (fun _ _ => rfl)) pa_nil))) (pa_cons (pe_ix ix_tup (pv 2) pe_int (fun _ _ => rfl)) pa_nil))))))), ?_⟩
  refine s_st (σ2 := [some v0, some v1, none]) rfl ?_
  refine s_set (σ2 := fun v => [some v0, some v1, some v]) (fun _ => rfl) (evp_call (E := E0) (evps_cons (evp_var rfl h0) (evps_cons (evp_var rfl h1) evps_nil)) (cWay.mk g_a g_b (sm_of hS fun i => by simp only [badd, bmax, b0]; omega) (by omega))) fun v2 H1 e1 h2 => ?_
  replace h0 := Rp.stay _ e1 h0
  replace h1 := Rp.stay _ e1 h1
  replace ex := ex.trans e1
  have g_ab := (gd_way g_a g_b)
  exact s_retP (evp_call (E := E0) (evps_cons (evp_var rfl h0) (evps_cons (evp_w T.cl T.nW (evp_var rfl h1)) (evps_cons (evp_call (E := E0) (evps_cons (evp_call (E := E0) (evps_cons (evp_neg (evp_c rfl)) evps_nil) (cConst.mk (-1))) (evps_cons (evp_ixT (j := 1) (evp_var rfl h2) (evp_c rfl) rfl) evps_nil)) (cTimesG.mk (gd_const (c := (-1)) (n := 0) (by decide)) g_ab.r (sm_of hS fun i => by simp only [badd, bmax, b0]; omega) (by omega))) (evps_cons (evp_ixT (j := 0) (evp_var rfl h2) (evp_c rfl) rfl) evps_nil)))) (cMoved.mk g_a g_b.w (gd_times (gd_const (c := (-1)) (n := 0) (by decide)) g_ab.r) g_ab.l (sm_of hS fun i => by simp only [badd, bmax, b0]; omega) (by omega))) fun v H' e hv => q v H' (ex.trans e) hv
theorem sc_centre : FnScope ["a", "b", "c", "u", "v", "t", "bc", "ca", "ab", "weights"] ["a", "b", "c"] (defScope s_centre) := ⟨rfl, rfl, rfl, by decide +kernel, rfl, by decide +kernel, by decide +kernel⟩
theorem good_centre (d : Decl K mg "centre" s_centre) (T : PtC K C) (g_times : Good P w K mg base "times" 2 ["f", "g"] (pf cTimesG)) (g_square : Good P w K mg base "square" 4 ["a"] (pf (cSquare C))) (g_line : Good P w K mg base "line" 4 ["a", "b"] (pf (cLine C))) (g_constant : Good P w K mg base "constant" 1 ["number"] (pf cConst)) (g_plus : Good P w K mg base "plus" 2 ["f", "g"] (pf cPlusG)) (g_added_products : Good P w K mg base "added_products" 3 ["f", "g", "h", "k"] (pf cAdded)) (g_area : Good P w K mg base "area" 5 ["a", "b", "c"] (pf (cArea C))) : Good P w K mg base "centre" 6 ["a", "b", "c"] (pf (cCentre C)) := by
  refine d.good sc_centre (fun _ _ _ _ _ _ us hl => match us, hl with | [_, _, _], _ => rfl) (pf_len fun _ _ c => by cases c; rfl) fun f cdv A outer s H vs Q E hr h => ?_
  obtain ⟨Rs, R, c, ha, q⟩ := h
  cases c with
  | mk g_a g_b g_c hS hn =>
  obtain ⟨v0, _, rfl, h0, v1, _, rfl, h1, v2, _, rfl, h2, rfl⟩ := ha
  have ex : Ex H H := Ex.refl H
  refine ⟨_, pss_cons (ps_set (i := 3) sc_centre.nd rfl (.inl rfl) (pe_g g_times (hr.mono (by decide)) (by rfl) (pa_cons (pe_g g_square (hr.mono (by decide)) (by rfl) (pa_cons (pv 0) pa_nil)) (pa_cons (pe_g g_times (hr.mono (by decide)) (by rfl) (pa_cons (pe_fld (pv 1) rfl) (pa_cons (pe_fld (pv 2) rfl) pa_nil))) pa_nil)))) (pss_cons (ps_set (i := 4) sc_centre.nd rfl (.inl rfl) (pe_g g_times (hr.mono (by decide)) (by rfl) (pa_cons (pe_g g_square (hr.mono (by decide)) (by rfl) (pa_cons (pv 1) pa_nil)) (pa_cons (pe_g g_times (hr.mono (by decide)) (by rfl) (pa_cons (pe_fld (pv 2) rfl) (pa_cons (pe_fld (pv 0) rfl) pa_nil))) pa_nil)))) (pss_cons (ps_set (i := 5) sc_centre.nd rfl (.inl rfl) (pe_g g_times (hr.mono (by decide)) (by rfl) (pa_cons (pe_g g_square (hr.mono (by decide)) (by rfl) (pa_cons (pv 2) pa_nil)) (pa_cons (pe_g g_times (hr.mono (by decide)) (by rfl) (pa_cons (pe_fld (pv 0) rfl) (pa_cons (pe_fld (pv 1) rfl) pa_nil))) pa_nil)))) (pss_cons (ps_set (i := 6) sc_centre.nd rfl (.inl rfl) (pe_g g_line (hr.mono (by decide)) (by rfl) (pa_cons (pv 1) (pa_cons (pv 2) pa_nil)))) (pss_cons (ps_set (i := 7) sc_centre.nd rfl (.inl rfl) (pe_g g_line (hr.mono (by decide)) (by rfl) (pa_cons (pv 2) (pa_cons (pv 0) pa_nil)))) (pss_cons (ps_set (i := 8) sc_centre.nd rfl (.inl rfl) (pe_g g_line (hr.mono (by decide)) (by rfl) (pa_cons (pv 0) (pa_cons (pv 1) pa_nil)))) (pss_cons (ps_set (i := 9) sc_centre.nd rfl (.inl rfl) (pe_g g_times (hr.mono (by decide)) (by rfl) (pa_cons (pe_g g_times (hr.mono (by decide)) (by rfl) (pa_cons (pe_fld (pv 0) rfl) (pa_cons (pe_fld (pv 1) rfl) pa_nil))) (pa_cons (pe_g g_times (hr.mono (by decide)) (by rfl) (pa_cons (pe_fld (pv 2) rfl) (pa_cons (pe_g g_constant (hr.mono (by decide)) (by rfl) (pa_cons pe_int pa_nil)) pa_nil))) pa_nil)))) (pss_one (ps_ret (pe_tup (pa_cons (pe_g g_plus (hr.mono (by decide)) (by rfl) (pa_cons (pe_g g_added_products (hr.mono (by decide)) (by rfl) (pa_cons (pv 3) (pa_cons (pe_ix ix_tup (pv 6) pe_int (fun _ _ => rfl)) (pa_cons (pv 4) (pa_cons (pe_ix ix_tup (pv 7) pe_int (fun _ _ => rfl)) pa_nil))))) (pa_cons (pe_g g_times (hr.mono (by decide)) (by rfl) (pa_cons (pv 5) (pa_cons (pe_ix ix_tup (pv 8) pe_int (fun _ _ => rfl)) pa_nil))) pa_nil))) (pa_cons (pe_g g_plus (hr.mono (by decide)) (by rfl) (pa_cons (pe_g g_added_products (hr.mono (by decide)) (by rfl) (pa_cons (pv 3) (pa_cons (pe_ix ix_tup (pv 6) pe_int (fun _ _ => rfl)) (pa_cons (pv 4) (pa_cons (pe_ix ix_tup (pv 7) pe_int (fun _ _ => rfl)) pa_nil))))) (pa_cons (pe_g g_times (hr.mono (by decide)) (by rfl) (pa_cons (pv 5) (pa_cons (pe_ix ix_tup (pv 8) pe_int (fun _ _ => rfl)) pa_nil))) pa_nil))) (pa_cons (pe_g g_times (hr.mono (by decide)) (by rfl) (pa_cons (pe_g g_area (hr.mono (by decide)) (by rfl) (pa_cons (pv 0) (pa_cons (pv 1) (pa_cons (pv 2) pa_nil)))) (pa_cons (pv 9) pa_nil))) pa_nil)))))))))))), ?_⟩
  refine s_st (σ2 := [some v0, some v1, some v2, none, none, none, none, none, none, none]) rfl ?_
  refine s_set (σ2 := fun v => [some v0, some v1, some v2, some v, none, none, none, none, none, none]) (fun _ => rfl) (evp_call (E := E0) (evps_cons (evp_call (E := E0) (evps_cons (evp_var rfl h0) evps_nil) (cSquare.mk g_a (sm_of hS fun i => by simp only [badd, bmax, b0]; omega) (by omega))) (evps_cons (evp_call (E := E0) (evps_cons (evp_w T.cl T.nW (evp_var rfl h1)) (evps_cons (evp_w T.cl T.nW (evp_var rfl h2)) evps_nil)) (cTimesG.mk g_b.w g_c.w (sm_of hS fun i => by simp only [badd, bmax, b0]; omega) (by omega))) evps_nil)) (cTimesG.mk (gd_square g_a) (gd_times g_b.w g_c.w) (sm_of hS fun i => by simp only [badd, bmax, b0]; omega) (by omega))) fun v3 H1 e1 h3 => ?_
  replace h0 := Rp.stay _ e1 h0
  replace h1 := Rp.stay _ e1 h1
  replace h2 := Rp.stay _ e1 h2
  replace ex := ex.trans e1
  have g_u := (gd_times (gd_square g_a) (gd_times g_b.w g_c.w))
  refine s_set (σ2 := fun v => [some v0, some v1, some v2, some v3, some v, none, none, none, none, none]) (fun _ => rfl) (evp_call (E := E0) (evps_cons (evp_call (E := E0) (evps_cons (evp_var rfl h1) evps_nil) (cSquare.mk g_b (sm_of hS fun i => by simp only [badd, bmax, b0]; omega) (by omega))) (evps_cons (evp_call (E := E0) (evps_cons (evp_w T.cl T.nW (evp_var rfl h2)) (evps_cons (evp_w T.cl T.nW (evp_var rfl h0)) evps_nil)) (cTimesG.mk g_c.w g_a.w (sm_of hS fun i => by simp only [badd, bmax, b0]; omega) (by omega))) evps_nil)) (cTimesG.mk (gd_square g_b) (gd_times g_c.w g_a.w) (sm_of hS fun i => by simp only [badd, bmax, b0]; omega) (by omega))) fun v4 H2 e2 h4 => ?_
  replace h0 := Rp.stay _ e2 h0
  replace h1 := Rp.stay _ e2 h1
  replace h2 := Rp.stay _ e2 h2
  replace h3 := Rp.stay _ e2 h3
  replace ex := ex.trans e2
  have g_v := (gd_times (gd_square g_b) (gd_times g_c.w g_a.w))
  refine s_set (σ2 := fun v => [some v0, some v1, some v2, some v3, some v4, some v, none, none, none, none]) (fun _ => rfl) (evp_call (E := E0) (evps_cons (evp_call (E := E0) (evps_cons (evp_var rfl h2) evps_nil) (cSquare.mk g_c (sm_of hS fun i => by simp only [badd, bmax, b0]; omega) (by omega))) (evps_cons (evp_call (E := E0) (evps_cons (evp_w T.cl T.nW (evp_var rfl h0)) (evps_cons (evp_w T.cl T.nW (evp_var rfl h1)) evps_nil)) (cTimesG.mk g_a.w g_b.w (sm_of hS fun i => by simp only [badd, bmax, b0]; omega) (by omega))) evps_nil)) (cTimesG.mk (gd_square g_c) (gd_times g_a.w g_b.w) (sm_of hS fun i => by simp only [badd, bmax, b0]; omega) (by omega))) fun v5 H3 e3 h5 => ?_
  replace h0 := Rp.stay _ e3 h0
  replace h1 := Rp.stay _ e3 h1
  replace h2 := Rp.stay _ e3 h2
  replace h3 := Rp.stay _ e3 h3
  replace h4 := Rp.stay _ e3 h4
  replace ex := ex.trans e3
  have g_t := (gd_times (gd_square g_c) (gd_times g_a.w g_b.w))
  refine s_set (σ2 := fun v => [some v0, some v1, some v2, some v3, some v4, some v5, some v, none, none, none]) (fun _ => rfl) (evp_call (E := E0) (evps_cons (evp_var rfl h1) (evps_cons (evp_var rfl h2) evps_nil)) (cLine.mk g_b g_c (sm_of hS fun i => by simp only [badd, bmax, b0]; omega) (by omega))) fun v6 H4 e4 h6 => ?_
  replace h0 := Rp.stay _ e4 h0
  replace h1 := Rp.stay _ e4 h1
  replace h2 := Rp.stay _ e4 h2
  replace h3 := Rp.stay _ e4 h3
  replace h4 := Rp.stay _ e4 h4
  replace h5 := Rp.stay _ e4 h5
  replace ex := ex.trans e4
  have g_bc := (gd_line g_b g_c)
  refine s_set (σ2 := fun v => [some v0, some v1, some v2, some v3, some v4, some v5, some v6, some v, none, none]) (fun _ => rfl) (evp_call (E := E0) (evps_cons (evp_var rfl h2) (evps_cons (evp_var rfl h0) evps_nil)) (cLine.mk g_c g_a (sm_of hS fun i => by simp only [badd, bmax, b0]; omega) (by omega))) fun v7 H5 e5 h7 => ?_
  replace h0 := Rp.stay _ e5 h0
  replace h1 := Rp.stay _ e5 h1
  replace h2 := Rp.stay _ e5 h2
  replace h3 := Rp.stay _ e5 h3
  replace h4 := Rp.stay _ e5 h4
  replace h5 := Rp.stay _ e5 h5
  replace h6 := Rp.stay _ e5 h6
  replace ex := ex.trans e5
  have g_ca := (gd_line g_c g_a)
  refine s_set (σ2 := fun v => [some v0, some v1, some v2, some v3, some v4, some v5, some v6, some v7, some v, none]) (fun _ => rfl) (evp_call (E := E0) (evps_cons (evp_var rfl h0) (evps_cons (evp_var rfl h1) evps_nil)) (cLine.mk g_a g_b (sm_of hS fun i => by simp only [badd, bmax, b0]; omega) (by omega))) fun v8 H6 e6 h8 => ?_
  replace h0 := Rp.stay _ e6 h0
  replace h1 := Rp.stay _ e6 h1
  replace h2 := Rp.stay _ e6 h2
  replace h3 := Rp.stay _ e6 h3
  replace h4 := Rp.stay _ e6 h4
  replace h5 := Rp.stay _ e6 h5
  replace h6 := Rp.stay _ e6 h6
  replace h7 := Rp.stay _ e6 h7
  replace ex := ex.trans e6
  have g_ab := (gd_line g_a g_b)
  refine s_set (σ2 := fun v => [some v0, some v1, some v2, some v3, some v4, some v5, some v6, some v7, some v8, some v]) (fun _ => rfl) (evp_call (E := E0) (evps_cons (evp_call (E := E0) (evps_cons (evp_w T.cl T.nW (evp_var rfl h0)) (evps_cons (evp_w T.cl T.nW (evp_var rfl h1)) evps_nil)) (cTimesG.mk g_a.w g_b.w (sm_of hS fun i => by simp only [badd, bmax, b0]; omega) (by omega))) (evps_cons (evp_call (E := E0) (evps_cons (evp_w T.cl T.nW (evp_var rfl h2)) (evps_cons (evp_call (E := E0) (evps_cons (evp_c rfl) evps_nil) (cConst.mk (2))) evps_nil)) (cTimesG.mk g_c.w (gd_const (c := (2)) (n := 1) (by decide)) (sm_of hS fun i => by simp only [badd, bmax, b0]; omega) (by omega))) evps_nil)) (cTimesG.mk (gd_times g_a.w g_b.w) (gd_times g_c.w (gd_const (c := (2)) (n := 1) (by decide))) (sm_of hS fun i => by simp only [badd, bmax, b0]; omega) (by omega))) fun v9 H7 e7 h9 => ?_
  replace h0 := Rp.stay _ e7 h0
  replace h1 := Rp.stay _ e7 h1
  replace h2 := Rp.stay _ e7 h2
  replace h3 := Rp.stay _ e7 h3
  replace h4 := Rp.stay _ e7 h4
  replace h5 := Rp.stay _ e7 h5
  replace h6 := Rp.stay _ e7 h6
  replace h7 := Rp.stay _ e7 h7
  replace h8 := Rp.stay _ e7 h8
  replace ex := ex.trans e7
  have g_weights := (gd_times (gd_times g_a.w g_b.w) (gd_times g_c.w (gd_const (c := (2)) (n := 1) (by decide))))
  exact s_retP (evp_tup (evps_cons (evp_call (E := E0) (evps_cons (evp_call (E := E0) (evps_cons (evp_var rfl h3) (evps_cons (evp_ixT (j := 0) (evp_var rfl h6) (evp_c rfl) rfl) (evps_cons (evp_var rfl h4) (evps_cons (evp_ixT (j := 0) (evp_var rfl h7) (evp_c rfl) rfl) evps_nil)))) (cAdded.mk g_u g_bc.x g_v g_ca.x (sm_of hS fun i => by simp only [badd, bmax, b0]; omega) (by omega))) (evps_cons (evp_call (E := E0) (evps_cons (evp_var rfl h5) (evps_cons (evp_ixT (j := 0) (evp_var rfl h8) (evp_c rfl) rfl) evps_nil)) (cTimesG.mk g_t g_ab.x (sm_of hS fun i => by simp only [badd, bmax, b0]; omega) (by omega))) evps_nil)) (cPlusG.mk (gd_added g_u g_bc.x g_v g_ca.x) (gd_times g_t g_ab.x) (sm_of hS fun i => by simp only [badd, bmax, b0]; omega))) (evps_cons (evp_call (E := E0) (evps_cons (evp_call (E := E0) (evps_cons (evp_var rfl h3) (evps_cons (evp_ixT (j := 1) (evp_var rfl h6) (evp_c rfl) rfl) (evps_cons (evp_var rfl h4) (evps_cons (evp_ixT (j := 1) (evp_var rfl h7) (evp_c rfl) rfl) evps_nil)))) (cAdded.mk g_u g_bc.y g_v g_ca.y (sm_of hS fun i => by simp only [badd, bmax, b0]; omega) (by omega))) (evps_cons (evp_call (E := E0) (evps_cons (evp_var rfl h5) (evps_cons (evp_ixT (j := 1) (evp_var rfl h8) (evp_c rfl) rfl) evps_nil)) (cTimesG.mk g_t g_ab.y (sm_of hS fun i => by simp only [badd, bmax, b0]; omega) (by omega))) evps_nil)) (cPlusG.mk (gd_added g_u g_bc.y g_v g_ca.y) (gd_times g_t g_ab.y) (sm_of hS fun i => by simp only [badd, bmax, b0]; omega))) (evps_cons (evp_call (E := E0) (evps_cons (evp_call (E := E0) (evps_cons (evp_var rfl h0) (evps_cons (evp_var rfl h1) (evps_cons (evp_var rfl h2) evps_nil))) (cArea.mk g_a g_b g_c (sm_of hS fun i => by simp only [badd, bmax, b0]; omega) (by omega))) (evps_cons (evp_var rfl h9) evps_nil)) (cTimesG.mk (gd_area g_a g_b g_c) g_weights (sm_of hS fun i => by simp only [badd, bmax, b0]; omega) (by omega))) evps_nil))) (by show 3 ≤ 100; decide)) fun v H' e hv => q v H' (ex.trans e) hv
theorem sc_second : FnScope ["a", "b", "o", "ab", "k"] ["a", "b", "o"] (defScope s_second) := ⟨rfl, rfl, rfl, by decide +kernel, rfl, by decide +kernel, by decide +kernel⟩
theorem good_second (d : Decl K mg "second" s_second) (T : PtC K C) (g_way : Good P w K mg base "way" 4 ["a", "b"] (pf (cWay C))) (g_times : Good P w K mg base "times" 2 ["f", "g"] (pf cTimesG)) (g_constant : Good P w K mg base "constant" 1 ["number"] (pf cConst)) (g_matched : Good P w K mg base "matched" 4 ["first", "other"] (pf cMatched)) (g_moved : Good P w K mg base "moved" 3 ["a", "scale", "across", "up"] (pf (cMoved C))) : Good P w K mg base "second" 5 ["a", "b", "o"] (pf (cSecond C)) := by
  refine d.good sc_second (fun _ _ _ _ _ _ us hl => match us, hl with | [_, _, _], _ => rfl) (pf_len fun _ _ c => by cases c; rfl) fun f cdv A outer s H vs Q E hr h => ?_
  obtain ⟨Rs, R, c, ha, q⟩ := h
  cases c with
  | mk g_a g_b g_o hS hn =>
  obtain ⟨v0, _, rfl, h0, v1, _, rfl, h1, v2, _, rfl, h2, rfl⟩ := ha
  have ex : Ex H H := Ex.refl H
  refine ⟨_, pss_cons (ps_set (i := 3) sc_second.nd rfl (.inl rfl) (pe_g g_way (hr.mono (by decide)) (by rfl) (pa_cons (pv 0) (pa_cons (pv 1) pa_nil)))) (pss_cons (ps_set (i := 4) sc_second.nd rfl (.inl rfl) (pe_g g_times (hr.mono (by decide)) (by rfl) (pa_cons (pe_g g_constant (hr.mono (by decide)) (by rfl) (pa_cons pe_int pa_nil)) (pa_cons (pe_g g_matched (hr.mono (by decide)) (by rfl) (pa_cons (pe_g g_way (hr.mono (by decide)) (by rfl) (pa_cons (pv 0) (pa_cons (pv 2) pa_nil))) (pa_cons (pv 3) pa_nil))) pa_nil)))) (pss_one (ps_ret (pe_g g_moved (hr.mono (by decide)) (by rfl) (pa_cons (pv 0) (pa_cons (pe_g g_times (hr.mono (by decide)) (by rfl) (pa_cons (pe_fld (pv 2) rfl) (pa_cons (pe_g g_matched (hr.mono (by decide)) (by rfl) (pa_cons (pv 3) (pa_cons (pv 3) pa_nil))) pa_nil))) (pa_cons (pe_g g_times (hr.mono (by decide)) (by rfl) (pa_cons (pv 4) (pa_cons (pe_ix ix_tup (pv 3) pe_int (fun _ _ => rfl)) pa_nil))) (pa_cons (pe_g g_times (hr.mono (by decide)) (by rfl) (pa_cons (pv 4) (pa_cons (pe_ix ix_tup (pv 3) pe_int (fun _ _ => rfl)) pa_nil))) pa_nil)))))))), ?_⟩
  refine s_st (σ2 := [some v0, some v1, some v2, none, none]) rfl ?_
  refine s_set (σ2 := fun v => [some v0, some v1, some v2, some v, none]) (fun _ => rfl) (evp_call (E := E0) (evps_cons (evp_var rfl h0) (evps_cons (evp_var rfl h1) evps_nil)) (cWay.mk g_a g_b (sm_of hS fun i => by simp only [badd, bmax, b0]; omega) (by omega))) fun v3 H1 e1 h3 => ?_
  replace h0 := Rp.stay _ e1 h0
  replace h1 := Rp.stay _ e1 h1
  replace h2 := Rp.stay _ e1 h2
  replace ex := ex.trans e1
  have g_ab := (gd_way g_a g_b)
  refine s_set (σ2 := fun v => [some v0, some v1, some v2, some v3, some v]) (fun _ => rfl) (evp_call (E := E0) (evps_cons (evp_call (E := E0) (evps_cons (evp_c rfl) evps_nil) (cConst.mk (2))) (evps_cons (evp_call (E := E0) (evps_cons (evp_call (E := E0) (evps_cons (evp_var rfl h0) (evps_cons (evp_var rfl h2) evps_nil)) (cWay.mk g_a g_o (sm_of hS fun i => by simp only [badd, bmax, b0]; omega) (by omega))) (evps_cons (evp_var rfl h3) evps_nil)) (cMatched.mk (gd_way g_a g_o) g_ab (sm_of hS fun i => by simp only [badd, bmax, b0]; omega) (by omega) rfl rfl)) evps_nil)) (cTimesG.mk (gd_const (c := (2)) (n := 1) (by decide)) (gd_matched (gd_way g_a g_o) g_ab) (sm_of hS fun i => by simp only [badd, bmax, b0]; omega) (by omega))) fun v4 H2 e2 h4 => ?_
  replace h0 := Rp.stay _ e2 h0
  replace h1 := Rp.stay _ e2 h1
  replace h2 := Rp.stay _ e2 h2
  replace h3 := Rp.stay _ e2 h3
  replace ex := ex.trans e2
  have g_k := (gd_times (gd_const (c := (2)) (n := 1) (by decide)) (gd_matched (gd_way g_a g_o) g_ab))
  exact s_retP (evp_call (E := E0) (evps_cons (evp_var rfl h0) (evps_cons (evp_call (E := E0) (evps_cons (evp_w T.cl T.nW (evp_var rfl h2)) (evps_cons (evp_call (E := E0) (evps_cons (evp_var rfl h3) (evps_cons (evp_var rfl h3) evps_nil)) (cMatched.mk g_ab g_ab (sm_of hS fun i => by simp only [badd, bmax, b0]; omega) (by omega) rfl rfl)) evps_nil)) (cTimesG.mk g_o.w (gd_matched g_ab g_ab) (sm_of hS fun i => by simp only [badd, bmax, b0]; omega) (by omega))) (evps_cons (evp_call (E := E0) (evps_cons (evp_var rfl h4) (evps_cons (evp_ixT (j := 0) (evp_var rfl h3) (evp_c rfl) rfl) evps_nil)) (cTimesG.mk g_k g_ab.l (sm_of hS fun i => by simp only [badd, bmax, b0]; omega) (by omega))) (evps_cons (evp_call (E := E0) (evps_cons (evp_var rfl h4) (evps_cons (evp_ixT (j := 1) (evp_var rfl h3) (evp_c rfl) rfl) evps_nil)) (cTimesG.mk g_k g_ab.r (sm_of hS fun i => by simp only [badd, bmax, b0]; omega) (by omega))) evps_nil)))) (cMoved.mk g_a (gd_times g_o.w (gd_matched g_ab g_ab)) (gd_times g_k g_ab.l) (gd_times g_k g_ab.r) (sm_of hS fun i => by simp only [badd, bmax, b0]; omega) (by omega))) fun v H' e hv => q v H' (ex.trans e) hv
theorem sc_round_about : FnScope ["o", "a", "s", "ao", "n", "across", "up"] ["o", "a", "s"] (defScope s_round_about) := ⟨rfl, rfl, rfl, by decide +kernel, rfl, by decide +kernel, by decide +kernel⟩
theorem good_round_about (d : Decl K mg "round_about" s_round_about) (T : PtC K C) (g_way : Good P w K mg base "way" 4 ["a", "b"] (pf (cWay C))) (g_plus : Good P w K mg base "plus" 2 ["f", "g"] (pf cPlusG)) (g_constant : Good P w K mg base "constant" 1 ["number"] (pf cConst)) (g_times : Good P w K mg base "times" 2 ["f", "g"] (pf cTimesG)) (g_less : Good P w K mg base "less" 2 ["f", "g"] (pf cLessG)) (g_moved : Good P w K mg base "moved" 3 ["a", "scale", "across", "up"] (pf (cMoved C))) : Good P w K mg base "round_about" 5 ["o", "a", "s"] (pf (cRound C)) := by
  refine d.good sc_round_about (fun _ _ _ _ _ _ us hl => match us, hl with | [_, _, _], _ => rfl) (pf_len fun _ _ c => by cases c; rfl) fun f cdv A outer s H vs Q E hr h => ?_
  obtain ⟨Rs, R, c, ha, q⟩ := h
  cases c with
  | mk g_o g_a g_s hS hn =>
  obtain ⟨v0, _, rfl, h0, v1, _, rfl, h1, v2, _, rfl, h2, rfl⟩ := ha
  have ex : Ex H H := Ex.refl H
  refine ⟨_, pss_cons (ps_set (i := 3) sc_round_about.nd rfl (.inl rfl) (pe_g g_way (hr.mono (by decide)) (by rfl) (pa_cons (pv 1) (pa_cons (pv 0) pa_nil)))) (pss_cons (ps_set (i := 4) sc_round_about.nd rfl (.inl rfl) (pe_g g_plus (hr.mono (by decide)) (by rfl) (pa_cons (pe_g g_constant (hr.mono (by decide)) (by rfl) (pa_cons pe_int pa_nil)) (pa_cons (pe_g g_times (hr.mono (by decide)) (by rfl) (pa_cons (pv 2) (pa_cons (pv 2) pa_nil))) pa_nil)))) (pss_cons (ps_set (i := 5) sc_round_about.nd rfl (.inl rfl) (pe_g g_less (hr.mono (by decide)) (by rfl) (pa_cons (pe_ix ix_tup (pv 3) pe_int (fun _ _ => rfl)) (pa_cons (pe_g g_times (hr.mono (by decide)) (by rfl) (pa_cons (pv 2) (pa_cons (pe_ix ix_tup (pv 3) pe_int (fun _ _ => rfl)) pa_nil))) pa_nil)))) (pss_cons (ps_set (i := 6) sc_round_about.nd rfl (.inl rfl) (pe_g g_plus (hr.mono (by decide)) (by rfl) (pa_cons (pe_ix ix_tup (pv 3) pe_int (fun _ _ => rfl)) (pa_cons (pe_g g_times (hr.mono (by decide)) (by rfl) (pa_cons (pv 2) (pa_cons (pe_ix ix_tup (pv 3) pe_int (fun _ _ => rfl)) pa_nil))) pa_nil)))) (pss_one (ps_ret (pe_g g_moved (hr.mono (by decide)) (by rfl) (pa_cons (pv 1) (pa_cons (pe_g g_times (hr.mono (by decide)) (by rfl) (pa_cons (pe_fld (pv 0) rfl) (pa_cons (pv 4) pa_nil))) (pa_cons (pe_g g_times (hr.mono (by decide)) (by rfl) (pa_cons (pe_g g_constant (hr.mono (by decide)) (by rfl) (pa_cons pe_int pa_nil)) (pa_cons (pv 5) pa_nil))) (pa_cons (pe_g g_times (hr.mono (by decide)) (by rfl) (pa_cons (pe_g g_constant (hr.mono (by decide)) (by rfl) (pa_cons pe_int pa_nil)) (pa_cons (pv 6) pa_nil))) pa_nil)))))))))), ?_⟩
  refine s_st (σ2 := [some v0, some v1, some v2, none, none, none, none]) rfl ?_
  refine s_set (σ2 := fun v => [some v0, some v1, some v2, some v, none, none, none]) (fun _ => rfl) (evp_call (E := E0) (evps_cons (evp_var rfl h1) (evps_cons (evp_var rfl h0) evps_nil)) (cWay.mk g_a g_o (sm_of hS fun i => by simp only [badd, bmax, b0]; omega) (by omega))) fun v3 H1 e1 h3 => ?_
  replace h0 := Rp.stay _ e1 h0
  replace h1 := Rp.stay _ e1 h1
  replace h2 := Rp.stay _ e1 h2
  replace ex := ex.trans e1
  have g_ao := (gd_way g_a g_o)
  refine s_set (σ2 := fun v => [some v0, some v1, some v2, some v3, some v, none, none]) (fun _ => rfl) (evp_call (E := E0) (evps_cons (evp_call (E := E0) (evps_cons (evp_c rfl) evps_nil) (cConst.mk (1))) (evps_cons (evp_call (E := E0) (evps_cons (evp_var rfl h2) (evps_cons (evp_var rfl h2) evps_nil)) (cTimesG.mk g_s g_s (sm_of hS fun i => by simp only [badd, bmax, b0]; omega) (by omega))) evps_nil)) (cPlusG.mk (gd_const (c := (1)) (n := 0) (by decide)) (gd_times g_s g_s) (sm_of hS fun i => by simp only [badd, bmax, b0]; omega))) fun v4 H2 e2 h4 => ?_
  replace h0 := Rp.stay _ e2 h0
  replace h1 := Rp.stay _ e2 h1
  replace h2 := Rp.stay _ e2 h2
  replace h3 := Rp.stay _ e2 h3
  replace ex := ex.trans e2
  have g_n := (gd_plus (gd_const (c := (1)) (n := 0) (by decide)) (gd_times g_s g_s))
  refine s_set (σ2 := fun v => [some v0, some v1, some v2, some v3, some v4, some v, none]) (fun _ => rfl) (evp_call (E := E0) (evps_cons (evp_ixT (j := 0) (evp_var rfl h3) (evp_c rfl) rfl) (evps_cons (evp_call (E := E0) (evps_cons (evp_var rfl h2) (evps_cons (evp_ixT (j := 1) (evp_var rfl h3) (evp_c rfl) rfl) evps_nil)) (cTimesG.mk g_s g_ao.r (sm_of hS fun i => by simp only [badd, bmax, b0]; omega) (by omega))) evps_nil)) (cLessG.mk g_ao.l (gd_times g_s g_ao.r) (sm_of hS fun i => by simp only [badd, bmax, b0]; omega))) fun v5 H3 e3 h5 => ?_
  replace h0 := Rp.stay _ e3 h0
  replace h1 := Rp.stay _ e3 h1
  replace h2 := Rp.stay _ e3 h2
  replace h3 := Rp.stay _ e3 h3
  replace h4 := Rp.stay _ e3 h4
  replace ex := ex.trans e3
  have g_across := (gd_less g_ao.l (gd_times g_s g_ao.r))
  refine s_set (σ2 := fun v => [some v0, some v1, some v2, some v3, some v4, some v5, some v]) (fun _ => rfl) (evp_call (E := E0) (evps_cons (evp_ixT (j := 1) (evp_var rfl h3) (evp_c rfl) rfl) (evps_cons (evp_call (E := E0) (evps_cons (evp_var rfl h2) (evps_cons (evp_ixT (j := 0) (evp_var rfl h3) (evp_c rfl) rfl) evps_nil)) (cTimesG.mk g_s g_ao.l (sm_of hS fun i => by simp only [badd, bmax, b0]; omega) (by omega))) evps_nil)) (cPlusG.mk g_ao.r (gd_times g_s g_ao.l) (sm_of hS fun i => by simp only [badd, bmax, b0]; omega))) fun v6 H4 e4 h6 => ?_
  replace h0 := Rp.stay _ e4 h0
  replace h1 := Rp.stay _ e4 h1
  replace h2 := Rp.stay _ e4 h2
  replace h3 := Rp.stay _ e4 h3
  replace h4 := Rp.stay _ e4 h4
  replace h5 := Rp.stay _ e4 h5
  replace ex := ex.trans e4
  have g_up := (gd_plus g_ao.r (gd_times g_s g_ao.l))
  exact s_retP (evp_call (E := E0) (evps_cons (evp_var rfl h1) (evps_cons (evp_call (E := E0) (evps_cons (evp_w T.cl T.nW (evp_var rfl h0)) (evps_cons (evp_var rfl h4) evps_nil)) (cTimesG.mk g_o.w g_n (sm_of hS fun i => by simp only [badd, bmax, b0]; omega) (by omega))) (evps_cons (evp_call (E := E0) (evps_cons (evp_call (E := E0) (evps_cons (evp_c rfl) evps_nil) (cConst.mk (2))) (evps_cons (evp_var rfl h5) evps_nil)) (cTimesG.mk (gd_const (c := (2)) (n := 1) (by decide)) g_across (sm_of hS fun i => by simp only [badd, bmax, b0]; omega) (by omega))) (evps_cons (evp_call (E := E0) (evps_cons (evp_call (E := E0) (evps_cons (evp_c rfl) evps_nil) (cConst.mk (2))) (evps_cons (evp_var rfl h6) evps_nil)) (cTimesG.mk (gd_const (c := (2)) (n := 1) (by decide)) g_up (sm_of hS fun i => by simp only [badd, bmax, b0]; omega) (by omega))) evps_nil)))) (cMoved.mk g_a (gd_times g_o.w g_n) (gd_times (gd_const (c := (2)) (n := 1) (by decide)) g_across) (gd_times (gd_const (c := (2)) (n := 1) (by decide)) g_up) (sm_of hS fun i => by simp only [badd, bmax, b0]; omega) (by omega))) fun v H' e hv => q v H' (ex.trans e) hv
theorem sc_inverse : FnScope ["o", "a", "p", "op", "oa", "f", "h"] ["o", "a", "p"] (defScope s_inverse) := ⟨rfl, rfl, rfl, by decide +kernel, rfl, by decide +kernel, by decide +kernel⟩
theorem good_inverse (d : Decl K mg "inverse" s_inverse) (T : PtC K C) (g_way : Good P w K mg base "way" 4 ["a", "b"] (pf (cWay C))) (g_times : Good P w K mg base "times" 2 ["f", "g"] (pf cTimesG)) (g_matched : Good P w K mg base "matched" 4 ["first", "other"] (pf cMatched)) (g_moved : Good P w K mg base "moved" 3 ["a", "scale", "across", "up"] (pf (cMoved C))) : Good P w K mg base "inverse" 5 ["o", "a", "p"] (pf (cInverse C)) := by
  refine d.good sc_inverse (fun _ _ _ _ _ _ us hl => match us, hl with | [_, _, _], _ => rfl) (pf_len fun _ _ c => by cases c; rfl) fun f cdv A outer s H vs Q E hr h => ?_
  obtain ⟨Rs, R, c, ha, q⟩ := h
  cases c with
  | mk g_o g_a g_p hS hn =>
  obtain ⟨v0, _, rfl, h0, v1, _, rfl, h1, v2, _, rfl, h2, rfl⟩ := ha
  have ex : Ex H H := Ex.refl H
  refine ⟨_, pss_cons (ps_set (i := 3) sc_inverse.nd rfl (.inl rfl) (pe_g g_way (hr.mono (by decide)) (by rfl) (pa_cons (pv 0) (pa_cons (pv 2) pa_nil)))) (pss_cons (ps_set (i := 4) sc_inverse.nd rfl (.inl rfl) (pe_g g_way (hr.mono (by decide)) (by rfl) (pa_cons (pv 0) (pa_cons (pv 1) pa_nil)))) (pss_cons (ps_set (i := 5) sc_inverse.nd rfl (.inl rfl) (pe_g g_times (hr.mono (by decide)) (by rfl) (pa_cons (pe_g g_matched (hr.mono (by decide)) (by rfl) (pa_cons (pv 3) (pa_cons (pv 3) pa_nil))) (pa_cons (pe_g g_times (hr.mono (by decide)) (by rfl) (pa_cons (pe_fld (pv 1) rfl) (pa_cons (pe_fld (pv 1) rfl) pa_nil))) pa_nil)))) (pss_cons (ps_set (i := 6) sc_inverse.nd rfl (.inl rfl) (pe_g g_times (hr.mono (by decide)) (by rfl) (pa_cons (pe_g g_matched (hr.mono (by decide)) (by rfl) (pa_cons (pv 4) (pa_cons (pv 4) pa_nil))) (pa_cons (pe_fld (pv 2) rfl) pa_nil)))) (pss_one (ps_ret (pe_g g_moved (hr.mono (by decide)) (by rfl) (pa_cons (pv 0) (pa_cons (pv 5) (pa_cons (pe_g g_times (hr.mono (by decide)) (by rfl) (pa_cons (pv 6) (pa_cons (pe_ix ix_tup (pv 3) pe_int (fun _ _ => rfl)) pa_nil))) (pa_cons (pe_g g_times (hr.mono (by decide)) (by rfl) (pa_cons (pv 6) (pa_cons (pe_ix ix_tup (pv 3) pe_int (fun _ _ => rfl)) pa_nil))) pa_nil)))))))))), ?_⟩
  refine s_st (σ2 := [some v0, some v1, some v2, none, none, none, none]) rfl ?_
  refine s_set (σ2 := fun v => [some v0, some v1, some v2, some v, none, none, none]) (fun _ => rfl) (evp_call (E := E0) (evps_cons (evp_var rfl h0) (evps_cons (evp_var rfl h2) evps_nil)) (cWay.mk g_o g_p (sm_of hS fun i => by simp only [badd, bmax, b0]; omega) (by omega))) fun v3 H1 e1 h3 => ?_
  replace h0 := Rp.stay _ e1 h0
  replace h1 := Rp.stay _ e1 h1
  replace h2 := Rp.stay _ e1 h2
  replace ex := ex.trans e1
  have g_op := (gd_way g_o g_p)
  refine s_set (σ2 := fun v => [some v0, some v1, some v2, some v3, some v, none, none]) (fun _ => rfl) (evp_call (E := E0) (evps_cons (evp_var rfl h0) (evps_cons (evp_var rfl h1) evps_nil)) (cWay.mk g_o g_a (sm_of hS fun i => by simp only [badd, bmax, b0]; omega) (by omega))) fun v4 H2 e2 h4 => ?_
  replace h0 := Rp.stay _ e2 h0
  replace h1 := Rp.stay _ e2 h1
  replace h2 := Rp.stay _ e2 h2
  replace h3 := Rp.stay _ e2 h3
  replace ex := ex.trans e2
  have g_oa := (gd_way g_o g_a)
  refine s_set (σ2 := fun v => [some v0, some v1, some v2, some v3, some v4, some v, none]) (fun _ => rfl) (evp_call (E := E0) (evps_cons (evp_call (E := E0) (evps_cons (evp_var rfl h3) (evps_cons (evp_var rfl h3) evps_nil)) (cMatched.mk g_op g_op (sm_of hS fun i => by simp only [badd, bmax, b0]; omega) (by omega) rfl rfl)) (evps_cons (evp_call (E := E0) (evps_cons (evp_w T.cl T.nW (evp_var rfl h1)) (evps_cons (evp_w T.cl T.nW (evp_var rfl h1)) evps_nil)) (cTimesG.mk g_a.w g_a.w (sm_of hS fun i => by simp only [badd, bmax, b0]; omega) (by omega))) evps_nil)) (cTimesG.mk (gd_matched g_op g_op) (gd_times g_a.w g_a.w) (sm_of hS fun i => by simp only [badd, bmax, b0]; omega) (by omega))) fun v5 H3 e3 h5 => ?_
  replace h0 := Rp.stay _ e3 h0
  replace h1 := Rp.stay _ e3 h1
  replace h2 := Rp.stay _ e3 h2
  replace h3 := Rp.stay _ e3 h3
  replace h4 := Rp.stay _ e3 h4
  replace ex := ex.trans e3
  have g_f := (gd_times (gd_matched g_op g_op) (gd_times g_a.w g_a.w))
  refine s_set (σ2 := fun v => [some v0, some v1, some v2, some v3, some v4, some v5, some v]) (fun _ => rfl) (evp_call (E := E0) (evps_cons (evp_call (E := E0) (evps_cons (evp_var rfl h4) (evps_cons (evp_var rfl h4) evps_nil)) (cMatched.mk g_oa g_oa (sm_of hS fun i => by simp only [badd, bmax, b0]; omega) (by omega) rfl rfl)) (evps_cons (evp_w T.cl T.nW (evp_var rfl h2)) evps_nil)) (cTimesG.mk (gd_matched g_oa g_oa) g_p.w (sm_of hS fun i => by simp only [badd, bmax, b0]; omega) (by omega))) fun v6 H4 e4 h6 => ?_
  replace h0 := Rp.stay _ e4 h0
  replace h1 := Rp.stay _ e4 h1
  replace h2 := Rp.stay _ e4 h2
  replace h3 := Rp.stay _ e4 h3
  replace h4 := Rp.stay _ e4 h4
  replace h5 := Rp.stay _ e4 h5
  replace ex := ex.trans e4
  have g_h := (gd_times (gd_matched g_oa g_oa) g_p.w)
  exact s_retP (evp_call (E := E0) (evps_cons (evp_var rfl h0) (evps_cons (evp_var rfl h5) (evps_cons (evp_call (E := E0) (evps_cons (evp_var rfl h6) (evps_cons (evp_ixT (j := 0) (evp_var rfl h3) (evp_c rfl) rfl) evps_nil)) (cTimesG.mk g_h g_op.l (sm_of hS fun i => by simp only [badd, bmax, b0]; omega) (by omega))) (evps_cons (evp_call (E := E0) (evps_cons (evp_var rfl h6) (evps_cons (evp_ixT (j := 1) (evp_var rfl h3) (evp_c rfl) rfl) evps_nil)) (cTimesG.mk g_h g_op.r (sm_of hS fun i => by simp only [badd, bmax, b0]; omega) (by omega))) evps_nil)))) (cMoved.mk g_o g_f (gd_times g_h g_op.l) (gd_times g_h g_op.r) (sm_of hS fun i => by simp only [badd, bmax, b0]; omega) (by omega))) fun v H' e hv => q v H' (ex.trans e) hv
end
end Ds
end
section
set_option Elab.async false
set_option linter.all false
set_option maxRecDepth 100000
set_option maxHeartbeats 2000000
namespace Ds
open PySem PySem.Spec PyProof.Rows L2 Su
open Kh374 (Tri)
/-! ### The sayings: bounds and contracts (printed by gen_sayc.py) -/
section
variable {p0 p1 p2 p3 : Bd} {n0 n1 n2 n3 : Nat}
theorem gd_crossed {f g : Raw × Raw} (hf : Gq p0 n0 f) (hg : Gq p1 n1 g) : GD (badd p0 p1) (n0 + n1 + 1) (mCrossed dOps f g) := (gd_cross hf.l hg.r hf.r hg.l).mono (fun i => by simp only [badd, bmax]; omega) (by omega)
theorem gd_together {f g : Raw × Raw} (hf : Gq p0 n0 f) (hg : Gq p1 n1 g) : Gq (badd p0 p1) (n0 + n1 + 1) (mTogether dOps f g) := ⟨(gd_cross hf.l hg.l hf.r hg.r).mono (fun i => by simp only [badd, bmax]; omega) (by omega), (gd_added hf.l hg.r hf.r hg.l).mono (fun i => by simp only [badd, bmax]; omega) (by omega)⟩
theorem gd_wts {a b c : Tri Raw} (ha : Gp p0 n0 a) (hb : Gp p1 n1 b) (hc : Gp p2 n2 c) : GD (badd p0 (badd p1 p2)) (n0 + n1 + n2) (mWts dOps a b c) := (gd_times ha.w (gd_times hb.w hc.w)).mono (fun i => by simp only [badd, bmax]; omega) (by omega)
theorem gd_far {a b c d : Tri Raw} (ha : Gp p0 n0 a) (hb : Gp p1 n1 b) (hc : Gp p2 n2 c) (hd : Gp p3 n3 d) : GD (badd (badd (badd p0 p1) (badd p2 p3)) (badd (badd p0 p1) (badd p2 p3))) (2 * (n0 + n1 + n2 + n3) + 3) (mFar dOps a b c d) :=
  (gd_times (gd_matched (gd_way ha hb) (gd_way ha hb)) (gd_times (gd_times hc.w hd.w) (gd_times hc.w hd.w))).mono (fun i => by simp only [badd, bmax]; omega) (by omega)
theorem gd_around {a b c d : Tri Raw} (ha : Gp p0 n0 a) (hb : Gp p1 n1 b) (hc : Gp p2 n2 c) (hd : Gp p3 n3 d) : GD (badd (badd (badd p0 p1) (badd p2 p3)) (badd (badd p0 p1) (badd p2 p3))) (2 * (n0 + n1 + n2 + n3) + 4) (mAround dOps a b c d) :=
  (gd_times (gd_times (gd_square ha) (gd_wts hb hc hd)) (gd_area hb hc hd)).mono (fun i => by simp only [badd, bmax]; omega) (by omega)
end
inductive cCrossed : List Rp → Rp → Prop
  | mk {p0 p1 : Bd} {n0 n1 : Nat} {x0 x1 : Raw × Raw} : Gq p0 n0 x0 → Gq p1 n1 x1 → Sm (badd p0 p1) → n0 + n1 ≤ 200000 → cCrossed [rT2 x0, rT2 x1] (rD (mCrossed dOps x0 x1))
inductive cWts (C : Addr) : List Rp → Rp → Prop
  | mk {p0 p1 p2 : Bd} {n0 n1 n2 : Nat} {x0 x1 x2 : Tri Raw} {e0 e1 e2 : PtX} : Gp p0 n0 x0 → Gp p1 n1 x1 → Gp p2 n2 x2 → Sm (badd p0 (badd p1 p2)) → n0 + n1 + n2 ≤ 150000 → cWts C [rPt C x0 e0, rPt C x1 e1, rPt C x2 e2] (rD (mWts dOps x0 x1 x2))
inductive cSame (C : Addr) : List Rp → Rp → Prop
  | mk {p0 p1 : Bd} {n0 n1 : Nat} {x0 x1 : Tri Raw} {e0 e1 : PtX} : Gp p0 n0 x0 → Gp p1 n1 x1 → Sm (badd p0 p1) → n0 + n1 ≤ 50000 → cSame C [rPt C x0 e0, rPt C x1 e1] (rLst [rD (mCross dOps x0.x x1.w x1.x x0.w), rD (mCross dOps x0.y x1.w x1.y x0.w)])
inductive cOneLine (C : Addr) : List Rp → Rp → Prop
  | mk {p0 p1 p2 : Bd} {n0 n1 n2 : Nat} {x0 x1 x2 : Tri Raw} {e0 e1 e2 : PtX} : Gp p0 n0 x0 → Gp p1 n1 x1 → Gp p2 n2 x2 → Sm (badd p0 (badd p1 p2)) → n0 + n1 + n2 ≤ 50000 → cOneLine C [rPt C x0 e0, rPt C x1 e1, rPt C x2 e2] (rLst [rD (mArea dOps x0 x1 x2)])
inductive cParallel (C : Addr) : List Rp → Rp → Prop
  | mk {p0 p1 p2 p3 : Bd} {n0 n1 n2 n3 : Nat} {x0 x1 x2 x3 : Tri Raw} {e0 e1 e2 e3 : PtX} : Gp p0 n0 x0 → Gp p1 n1 x1 → Gp p2 n2 x2 → Gp p3 n3 x3 → Sm (badd (badd p0 p1) (badd p2 p3)) → n0 + n1 + n2 + n3 ≤ 50000 → cParallel C [rPt C x0 e0, rPt C x1 e1, rPt C x2 e2, rPt C x3 e3] (rLst [rD (mCrossed dOps (mWay dOps x0 x1) (mWay dOps x2 x3))])
inductive cRight (C : Addr) : List Rp → Rp → Prop
  | mk {p0 p1 p2 p3 : Bd} {n0 n1 n2 n3 : Nat} {x0 x1 x2 x3 : Tri Raw} {e0 e1 e2 e3 : PtX} : Gp p0 n0 x0 → Gp p1 n1 x1 → Gp p2 n2 x2 → Gp p3 n3 x3 → Sm (badd (badd p0 p1) (badd p2 p3)) → n0 + n1 + n2 + n3 ≤ 50000 → cRight C [rPt C x0 e0, rPt C x1 e1, rPt C x2 e2, rPt C x3 e3] (rLst [rD (mMatched dOps (mWay dOps x0 x1) (mWay dOps x2 x3))])
inductive cFar (C : Addr) : List Rp → Rp → Prop
  | mk {p0 p1 p2 p3 : Bd} {n0 n1 n2 n3 : Nat} {x0 x1 x2 x3 : Tri Raw} {e0 e1 e2 e3 : PtX} : Gp p0 n0 x0 → Gp p1 n1 x1 → Gp p2 n2 x2 → Gp p3 n3 x3 → Sm (badd (badd (badd p0 p1) (badd p2 p3)) (badd (badd p0 p1) (badd p2 p3))) → n0 + n1 + n2 + n3 ≤ 60000 → cFar C [rPt C x0 e0, rPt C x1 e1, rPt C x2 e2, rPt C x3 e3] (rD (mFar dOps x0 x1 x2 x3))
inductive cMany (C : Addr) : List Rp → Rp → Prop
  | mk {p0 p1 p2 p3 : Bd} {n0 n1 n2 n3 : Nat} {x0 x1 x2 x3 : Tri Raw} {e0 e1 e2 e3 : PtX} {x4 x5 : Int} : Gp p0 n0 x0 → Gp p1 n1 x1 → Gp p2 n2 x2 → Gp p3 n3 x3 → x4.natAbs ≤ 1000 → x5.natAbs ≤ 1000 → Sm (badd (badd (badd p0 p1) (badd p2 p3)) (badd (badd p0 p1) (badd p2 p3))) → n0 + n1 + n2 + n3 ≤ 50000 → cMany C [rPt C x0 e0, rPt C x1 e1, rPt C x2 e2, rPt C x3 e3, rInt x4, rInt x5] (rLst [rD (mMany dOps x0 x1 x2 x3 x4 x5)])
inductive cEqual (C : Addr) : List Rp → Rp → Prop
  | mk {p0 p1 p2 p3 : Bd} {n0 n1 n2 n3 : Nat} {x0 x1 x2 x3 : Tri Raw} {e0 e1 e2 e3 : PtX} : Gp p0 n0 x0 → Gp p1 n1 x1 → Gp p2 n2 x2 → Gp p3 n3 x3 → Sm (badd (badd (badd p0 p1) (badd p2 p3)) (badd (badd p0 p1) (badd p2 p3))) → n0 + n1 + n2 + n3 ≤ 50000 → cEqual C [rPt C x0 e0, rPt C x1 e1, rPt C x2 e2, rPt C x3 e3] (rLst [rD (mMany dOps x0 x1 x2 x3 1 1)])
inductive cAround (C : Addr) : List Rp → Rp → Prop
  | mk {p0 p1 p2 p3 : Bd} {n0 n1 n2 n3 : Nat} {x0 x1 x2 x3 : Tri Raw} {e0 e1 e2 e3 : PtX} : Gp p0 n0 x0 → Gp p1 n1 x1 → Gp p2 n2 x2 → Gp p3 n3 x3 → Sm (badd (badd (badd p0 p1) (badd p2 p3)) (badd (badd p0 p1) (badd p2 p3))) → n0 + n1 + n2 + n3 ≤ 60000 → cAround C [rPt C x0 e0, rPt C x1 e1, rPt C x2 e2, rPt C x3 e3] (rD (mAround dOps x0 x1 x2 x3))
inductive cCircle (C : Addr) : List Rp → Rp → Prop
  | mk {p0 p1 p2 p3 : Bd} {n0 n1 n2 n3 : Nat} {x0 x1 x2 x3 : Tri Raw} {e0 e1 e2 e3 : PtX} : Gp p0 n0 x0 → Gp p1 n1 x1 → Gp p2 n2 x2 → Gp p3 n3 x3 → Sm (badd (badd (badd p0 p1) (badd p2 p3)) (badd (badd p0 p1) (badd p2 p3))) → n0 + n1 + n2 + n3 ≤ 50000 → cCircle C [rPt C x0 e0, rPt C x1 e1, rPt C x2 e2, rPt C x3 e3] (rLst [rD (mCircle dOps x0 x1 x2 x3)])
inductive cAngles (C : Addr) : List Rp → Rp → Prop
  | mk {p0 p1 p2 p3 p4 p5 : Bd} {n0 n1 n2 n3 n4 n5 : Nat} {x0 x1 x2 x3 x4 x5 : Tri Raw} {e0 e1 e2 e3 e4 e5 : PtX} : Gp p0 n0 x0 → Gp p1 n1 x1 → Gp p2 n2 x2 → Gp p3 n3 x3 → Gp p4 n4 x4 → Gp p5 n5 x5 → Sm (badd (badd p0 (badd (badd p1 p1) p2)) (badd p3 (badd (badd p4 p4) p5))) → n0 + n1 + n2 + n3 + n4 + n5 ≤ 50000 → cAngles C [rPt C x0 e0, rPt C x1 e1, rPt C x2 e2, rPt C x3 e3, rPt C x4 e4, rPt C x5 e5] (rLst [rD (mAngles dOps x0 x1 x2 x3 x4 x5)])
inductive cAreas (C : Addr) : List Rp → Rp → Prop
  | mk {p0 p1 p2 p3 p4 p5 : Bd} {n0 n1 n2 n3 n4 n5 : Nat} {x0 x1 x2 x3 x4 x5 : Tri Raw} {e0 e1 e2 e3 e4 e5 : PtX} : Gp p0 n0 x0 → Gp p1 n1 x1 → Gp p2 n2 x2 → Gp p3 n3 x3 → Gp p4 n4 x4 → Gp p5 n5 x5 → Sm (badd (badd p0 (badd p1 p2)) (badd p3 (badd p4 p5))) → n0 + n1 + n2 + n3 + n4 + n5 ≤ 50000 → cAreas C [rPt C x0 e0, rPt C x1 e1, rPt C x2 e2, rPt C x3 e3, rPt C x4 e4, rPt C x5 e5] (rLst [rD (mAreas dOps x0 x1 x2 x3 x4 x5)])
inductive cThrough (C : Addr) : List Rp → Rp → Prop
  | mk {p0 p1 p2 p3 p4 p5 : Bd} {n0 n1 n2 n3 n4 n5 : Nat} {x0 x1 x2 x3 x4 x5 : Tri Raw} {e0 e1 e2 e3 e4 e5 : PtX} : Gp p0 n0 x0 → Gp p1 n1 x1 → Gp p2 n2 x2 → Gp p3 n3 x3 → Gp p4 n4 x4 → Gp p5 n5 x5 → Sm (badd (badd p0 (badd p1 p2)) (badd p3 (badd p4 p5))) → n0 + n1 + n2 + n3 + n4 + n5 ≤ 50000 → cThrough C [rPt C x0 e0, rPt C x1 e1, rPt C x2 e2, rPt C x3 e3, rPt C x4 e4, rPt C x5 e5] (rLst [rD (mThrough dOps x0 x1 x2 x3 x4 x5)])
inductive cMiddle (C : Addr) : List Rp → Rp → Prop
  | mk {p0 p1 p2 : Bd} {n0 n1 n2 : Nat} {x0 x1 x2 : Tri Raw} {e0 e1 e2 : PtX} : Gp p0 n0 x0 → Gp p1 n1 x1 → Gp p2 n2 x2 → Sm (badd p0 (badd p1 p2)) → n0 + n1 + n2 ≤ 50000 → cMiddle C [rPt C x0 e0, rPt C x1 e1, rPt C x2 e2] (rLst [rD (mMidX dOps x0 x1 x2), rD (mMidY dOps x0 x1 x2)])
inductive cTouches (C : Addr) : List Rp → Rp → Prop
  | mk {p0 p1 p2 p3 : Bd} {n0 n1 n2 n3 : Nat} {x0 x1 x2 x3 : Tri Raw} {e0 e1 e2 e3 : PtX} : Gp p0 n0 x0 → Gp p1 n1 x1 → Gp p2 n2 x2 → Gp p3 n3 x3 → Sm (badd (badd (badd p0 p1) (badd p2 p3)) (badd (badd p0 p1) (badd p2 p3))) → n0 + n1 + n2 + n3 ≤ 50000 → cTouches C [rPt C x0 e0, rPt C x1 e1, rPt C x2 e2, rPt C x3 e3] (rLst [rD (mTouch dOps x0 x1 x2 x3)])
inductive cTogether : List Rp → Rp → Prop
  | mk {p0 p1 : Bd} {n0 n1 : Nat} {x0 x1 : Raw × Raw} : Gq p0 n0 x0 → Gq p1 n1 x1 → Sm (badd p0 p1) → n0 + n1 ≤ 200000 → cTogether [rT2 x0, rT2 x1] (rT2 (mTogether dOps x0 x1))
inductive cAlike (C : Addr) : List Rp → Rp → Prop
  | mk {p0 p1 p2 p3 p4 p5 : Bd} {n0 n1 n2 n3 n4 n5 : Nat} {x0 x1 x2 x3 x4 x5 : Tri Raw} {e0 e1 e2 e3 e4 e5 : PtX} : Gp p0 n0 x0 → Gp p1 n1 x1 → Gp p2 n2 x2 → Gp p3 n3 x3 → Gp p4 n4 x4 → Gp p5 n5 x5 → Sm (badd (badd p0 (badd p1 p2)) (badd p3 (badd p4 p5))) → n0 + n1 + n2 + n3 + n4 + n5 ≤ 50000 → cAlike C [rPt C x0 e0, rPt C x1 e1, rPt C x2 e2, rPt C x3 e3, rPt C x4 e4, rPt C x5 e5] (rLst [rD (mAlikeX dOps x0 x1 x2 x3 x4 x5), rD (mAlikeY dOps x0 x1 x2 x3 x4 x5)])
end Ds
end
section
set_option Elab.async false
set_option linter.all false
set_option maxRecDepth 100000
set_option maxHeartbeats 2000000
namespace Ds
open PySem PySem.Spec PyProof.Rows L2 Su
open Evl (Ex)
open Kh374 (Tri)
section
variable {P : Program} {w : World} {K : PySem.W.Frag} {mg : Str → Option Value} {base : Heap} {C : Addr}
theorem sc_crossed : FnScope ["first", "other"] ["first", "other"] (defScope s_crossed) := ⟨rfl, rfl, rfl, by decide +kernel, rfl, by decide +kernel, by decide +kernel⟩
theorem good_crossed (d : Decl K mg "crossed" s_crossed) (g_crossed_products : Good P w K mg base "crossed_products" 3 ["f", "g", "h", "k"] (pf cCross)) : Good P w K mg base "crossed" 4 ["first", "other"] (pf cCrossed) := by
  refine d.good sc_crossed (fun _ _ _ _ _ _ us hl => match us, hl with | [_, _], _ => rfl) (pf_len fun _ _ c => by cases c; rfl) fun f cdv A outer s H vs Q E hr h => ?_
  obtain ⟨Rs, R, c, ha, q⟩ := h
  cases c with
  | mk g_first g_other hS hn =>
  obtain ⟨v0, _, rfl, h0, v1, _, rfl, h1, rfl⟩ := ha
  have ex : Ex H H := Ex.refl H
  refine ⟨_, pss_one (ps_ret (pe_g g_crossed_products (hr.mono (by decide)) (by rfl) (pa_cons (pe_ix ix_tup (pv 0) pe_int (fun _ _ => rfl)) (pa_cons (pe_ix ix_tup (pv 1) pe_int (fun _ _ => rfl)) (pa_cons (pe_ix ix_tup (pv 0) pe_int (fun _ _ => rfl)) (pa_cons (pe_ix ix_tup (pv 1) pe_int (fun _ _ => rfl)) pa_nil)))))), ?_⟩
  refine s_st (σ2 := [some v0, some v1]) rfl ?_
  exact s_retP (evp_call (E := E0) (evps_cons (evp_ixT (j := 0) (evp_var rfl h0) (evp_c rfl) rfl) (evps_cons (evp_ixT (j := 1) (evp_var rfl h1) (evp_c rfl) rfl) (evps_cons (evp_ixT (j := 1) (evp_var rfl h0) (evp_c rfl) rfl) (evps_cons (evp_ixT (j := 0) (evp_var rfl h1) (evp_c rfl) rfl) evps_nil)))) (cCross.mk g_first.l g_other.r g_first.r g_other.l (sm_of hS fun i => by simp only [badd, bmax, b0]; omega) (by omega))) fun v H' e hv => q v H' (ex.trans e) hv
theorem sc_weights : FnScope ["a", "b", "c"] ["a", "b", "c"] (defScope s_weights) := ⟨rfl, rfl, rfl, by decide +kernel, rfl, by decide +kernel, by decide +kernel⟩
theorem good_weights (d : Decl K mg "weights" s_weights) (T : PtC K C) (g_times : Good P w K mg base "times" 2 ["f", "g"] (pf cTimesG)) : Good P w K mg base "weights" 3 ["a", "b", "c"] (pf (cWts C)) := by
  refine d.good sc_weights (fun _ _ _ _ _ _ us hl => match us, hl with | [_, _, _], _ => rfl) (pf_len fun _ _ c => by cases c; rfl) fun f cdv A outer s H vs Q E hr h => ?_
  obtain ⟨Rs, R, c, ha, q⟩ := h
  cases c with
  | mk g_a g_b g_c hS hn =>
  obtain ⟨v0, _, rfl, h0, v1, _, rfl, h1, v2, _, rfl, h2, rfl⟩ := ha
  have ex : Ex H H := Ex.refl H
  refine ⟨_, pss_one (ps_ret (pe_g g_times (hr.mono (by decide)) (by rfl) (pa_cons (pe_fld (pv 0) rfl) (pa_cons (pe_g g_times (hr.mono (by decide)) (by rfl) (pa_cons (pe_fld (pv 1) rfl) (pa_cons (pe_fld (pv 2) rfl) pa_nil))) pa_nil)))), ?_⟩
  refine s_st (σ2 := [some v0, some v1, some v2]) rfl ?_
  exact s_retP (evp_call (E := E0) (evps_cons (evp_w T.cl T.nW (evp_var rfl h0)) (evps_cons (evp_call (E := E0) (evps_cons (evp_w T.cl T.nW (evp_var rfl h1)) (evps_cons (evp_w T.cl T.nW (evp_var rfl h2)) evps_nil)) (cTimesG.mk g_b.w g_c.w (sm_of hS fun i => by simp only [badd, bmax, b0]; omega) (by omega))) evps_nil)) (cTimesG.mk g_a.w (gd_times g_b.w g_c.w) (sm_of hS fun i => by simp only [badd, bmax, b0]; omega) (by omega))) fun v H' e hv => q v H' (ex.trans e) hv
theorem sc_same : FnScope ["a", "b"] ["a", "b"] (defScope s_same) := ⟨rfl, rfl, rfl, by decide +kernel, rfl, by decide +kernel, by decide +kernel⟩
theorem good_same (d : Decl K mg "same" s_same) (T : PtC K C) (g_crossed_products : Good P w K mg base "crossed_products" 3 ["f", "g", "h", "k"] (pf cCross)) : Good P w K mg base "same" 4 ["a", "b"] (pf (cSame C)) := by
  refine d.good sc_same (fun _ _ _ _ _ _ us hl => match us, hl with | [_, _], _ => rfl) (pf_len fun _ _ c => by cases c; rfl) fun f cdv A outer s H vs Q E hr h => ?_
  obtain ⟨Rs, R, c, ha, q⟩ := h
  cases c with
  | mk g_a g_b hS hn =>
  obtain ⟨v0, _, rfl, h0, v1, _, rfl, h1, rfl⟩ := ha
  have ex : Ex H H := Ex.refl H
  refine ⟨_, pss_one (ps_ret (pe_lst (pa_cons (pe_g g_crossed_products (hr.mono (by decide)) (by rfl) (pa_cons (pe_fld (pv 0) rfl) (pa_cons (pe_fld (pv 1) rfl) (pa_cons (pe_fld (pv 1) rfl) (pa_cons (pe_fld (pv 0) rfl) pa_nil))))) (pa_cons (pe_g g_crossed_products (hr.mono (by decide)) (by rfl) (pa_cons (pe_fld (pv 0) rfl) (pa_cons (pe_fld (pv 1) rfl) (pa_cons (pe_fld (pv 1) rfl) (pa_cons (pe_fld (pv 0) rfl) pa_nil))))) pa_nil)))), ?_⟩
  refine s_st (σ2 := [some v0, some v1]) rfl ?_
  exact s_retP (evp_lst (evps_cons (evp_call (E := E0) (evps_cons (evp_x T.cl T.nX (evp_var rfl h0)) (evps_cons (evp_w T.cl T.nW (evp_var rfl h1)) (evps_cons (evp_x T.cl T.nX (evp_var rfl h1)) (evps_cons (evp_w T.cl T.nW (evp_var rfl h0)) evps_nil)))) (cCross.mk g_a.x g_b.w g_b.x g_a.w (sm_of hS fun i => by simp only [badd, bmax, b0]; omega) (by omega))) (evps_cons (evp_call (E := E0) (evps_cons (evp_y T.cl T.nY (evp_var rfl h0)) (evps_cons (evp_w T.cl T.nW (evp_var rfl h1)) (evps_cons (evp_y T.cl T.nY (evp_var rfl h1)) (evps_cons (evp_w T.cl T.nW (evp_var rfl h0)) evps_nil)))) (cCross.mk g_a.y g_b.w g_b.y g_a.w (sm_of hS fun i => by simp only [badd, bmax, b0]; omega) (by omega))) evps_nil)) (by show 2 ≤ 100; decide)) fun v H' e hv => q v H' (ex.trans e) hv
theorem sc_on_one_line : FnScope ["a", "b", "c"] ["a", "b", "c"] (defScope s_on_one_line) := ⟨rfl, rfl, rfl, by decide +kernel, rfl, by decide +kernel, by decide +kernel⟩
theorem good_on_one_line (d : Decl K mg "on_one_line" s_on_one_line) (T : PtC K C) (g_area : Good P w K mg base "area" 5 ["a", "b", "c"] (pf (cArea C))) : Good P w K mg base "on_one_line" 6 ["a", "b", "c"] (pf (cOneLine C)) := by
  refine d.good sc_on_one_line (fun _ _ _ _ _ _ us hl => match us, hl with | [_, _, _], _ => rfl) (pf_len fun _ _ c => by cases c; rfl) fun f cdv A outer s H vs Q E hr h => ?_
  obtain ⟨Rs, R, c, ha, q⟩ := h
  cases c with
  | mk g_a g_b g_c hS hn =>
  obtain ⟨v0, _, rfl, h0, v1, _, rfl, h1, v2, _, rfl, h2, rfl⟩ := ha
  have ex : Ex H H := Ex.refl H
  refine ⟨_, pss_one (ps_ret (pe_lst (pa_cons (pe_g g_area (hr.mono (by decide)) (by rfl) (pa_cons (pv 0) (pa_cons (pv 1) (pa_cons (pv 2) pa_nil)))) pa_nil))), ?_⟩
  refine s_st (σ2 := [some v0, some v1, some v2]) rfl ?_
  exact s_retP (evp_lst (evps_cons (evp_call (E := E0) (evps_cons (evp_var rfl h0) (evps_cons (evp_var rfl h1) (evps_cons (evp_var rfl h2) evps_nil))) (cArea.mk g_a g_b g_c (sm_of hS fun i => by simp only [badd, bmax, b0]; omega) (by omega))) evps_nil) (by show 1 ≤ 100; decide)) fun v H' e hv => q v H' (ex.trans e) hv
theorem sc_parallel : FnScope ["a", "b", "c", "d"] ["a", "b", "c", "d"] (defScope s_parallel) := ⟨rfl, rfl, rfl, by decide +kernel, rfl, by decide +kernel, by decide +kernel⟩
theorem good_parallel (d : Decl K mg "parallel" s_parallel) (T : PtC K C) (g_crossed : Good P w K mg base "crossed" 4 ["first", "other"] (pf cCrossed)) (g_way : Good P w K mg base "way" 4 ["a", "b"] (pf (cWay C))) : Good P w K mg base "parallel" 5 ["a", "b", "c", "d"] (pf (cParallel C)) := by
  refine d.good sc_parallel (fun _ _ _ _ _ _ us hl => match us, hl with | [_, _, _, _], _ => rfl) (pf_len fun _ _ c => by cases c; rfl) fun f cdv A outer s H vs Q E hr h => ?_
  obtain ⟨Rs, R, c, ha, q⟩ := h
  cases c with
  | mk g_a g_b g_c g_d hS hn =>
  obtain ⟨v0, _, rfl, h0, v1, _, rfl, h1, v2, _, rfl, h2, v3, _, rfl, h3, rfl⟩ := ha
  have ex : Ex H H := Ex.refl H
  refine ⟨_, pss_one (ps_ret (pe_lst (pa_cons (pe_g g_crossed (hr.mono (by decide)) (by rfl) (pa_cons (pe_g g_way (hr.mono (by decide)) (by rfl) (pa_cons (pv 0) (pa_cons (pv 1) pa_nil))) (pa_cons (pe_g g_way (hr.mono (by decide)) (by rfl) (pa_cons (pv 2) (pa_cons (pv 3) pa_nil))) pa_nil))) pa_nil))), ?_⟩
  refine s_st (σ2 := [some v0, some v1, some v2, some v3]) rfl ?_
  exact s_retP (evp_lst (evps_cons (evp_call (E := E0) (evps_cons (evp_call (E := E0) (evps_cons (evp_var rfl h0) (evps_cons (evp_var rfl h1) evps_nil)) (cWay.mk g_a g_b (sm_of hS fun i => by simp only [badd, bmax, b0]; omega) (by omega))) (evps_cons (evp_call (E := E0) (evps_cons (evp_var rfl h2) (evps_cons (evp_var rfl h3) evps_nil)) (cWay.mk g_c g_d (sm_of hS fun i => by simp only [badd, bmax, b0]; omega) (by omega))) evps_nil)) (cCrossed.mk (gd_way g_a g_b) (gd_way g_c g_d) (sm_of hS fun i => by simp only [badd, bmax, b0]; omega) (by omega))) evps_nil) (by show 1 ≤ 100; decide)) fun v H' e hv => q v H' (ex.trans e) hv
theorem sc_right : FnScope ["a", "b", "c", "d"] ["a", "b", "c", "d"] (defScope s_right) := ⟨rfl, rfl, rfl, by decide +kernel, rfl, by decide +kernel, by decide +kernel⟩
theorem good_right (d : Decl K mg "right" s_right) (T : PtC K C) (g_matched : Good P w K mg base "matched" 4 ["first", "other"] (pf cMatched)) (g_way : Good P w K mg base "way" 4 ["a", "b"] (pf (cWay C))) : Good P w K mg base "right" 5 ["a", "b", "c", "d"] (pf (cRight C)) := by
  refine d.good sc_right (fun _ _ _ _ _ _ us hl => match us, hl with | [_, _, _, _], _ => rfl) (pf_len fun _ _ c => by cases c; rfl) fun f cdv A outer s H vs Q E hr h => ?_
  obtain ⟨Rs, R, c, ha, q⟩ := h
  cases c with
  | mk g_a g_b g_c g_d hS hn =>
  obtain ⟨v0, _, rfl, h0, v1, _, rfl, h1, v2, _, rfl, h2, v3, _, rfl, h3, rfl⟩ := ha
  have ex : Ex H H := Ex.refl H
  refine ⟨_, pss_one (ps_ret (pe_lst (pa_cons (pe_g g_matched (hr.mono (by decide)) (by rfl) (pa_cons (pe_g g_way (hr.mono (by decide)) (by rfl) (pa_cons (pv 0) (pa_cons (pv 1) pa_nil))) (pa_cons (pe_g g_way (hr.mono (by decide)) (by rfl) (pa_cons (pv 2) (pa_cons (pv 3) pa_nil))) pa_nil))) pa_nil))), ?_⟩
  refine s_st (σ2 := [some v0, some v1, some v2, some v3]) rfl ?_
  exact s_retP (evp_lst (evps_cons (evp_call (E := E0) (evps_cons (evp_call (E := E0) (evps_cons (evp_var rfl h0) (evps_cons (evp_var rfl h1) evps_nil)) (cWay.mk g_a g_b (sm_of hS fun i => by simp only [badd, bmax, b0]; omega) (by omega))) (evps_cons (evp_call (E := E0) (evps_cons (evp_var rfl h2) (evps_cons (evp_var rfl h3) evps_nil)) (cWay.mk g_c g_d (sm_of hS fun i => by simp only [badd, bmax, b0]; omega) (by omega))) evps_nil)) (cMatched.mk (gd_way g_a g_b) (gd_way g_c g_d) (sm_of hS fun i => by simp only [badd, bmax, b0]; omega) (by omega) rfl rfl)) evps_nil) (by show 1 ≤ 100; decide)) fun v H' e hv => q v H' (ex.trans e) hv
theorem sc_far : FnScope ["a", "b", "c", "d", "ab", "others"] ["a", "b", "c", "d"] (defScope s_far) := ⟨rfl, rfl, rfl, by decide +kernel, rfl, by decide +kernel, by decide +kernel⟩
theorem good_far (d : Decl K mg "far" s_far) (T : PtC K C) (g_way : Good P w K mg base "way" 4 ["a", "b"] (pf (cWay C))) (g_times : Good P w K mg base "times" 2 ["f", "g"] (pf cTimesG)) (g_matched : Good P w K mg base "matched" 4 ["first", "other"] (pf cMatched)) : Good P w K mg base "far" 5 ["a", "b", "c", "d"] (pf (cFar C)) := by
  refine d.good sc_far (fun _ _ _ _ _ _ us hl => match us, hl with | [_, _, _, _], _ => rfl) (pf_len fun _ _ c => by cases c; rfl) fun f cdv A outer s H vs Q E hr h => ?_
  obtain ⟨Rs, R, c, ha, q⟩ := h
  cases c with
  | mk g_a g_b g_c g_d hS hn =>
  obtain ⟨v0, _, rfl, h0, v1, _, rfl, h1, v2, _, rfl, h2, v3, _, rfl, h3, rfl⟩ := ha
  have ex : Ex H H := Ex.refl H
  refine ⟨_, pss_cons (ps_set (i := 4) sc_far.nd rfl (.inl rfl) (pe_g g_way (hr.mono (by decide)) (by rfl) (pa_cons (pv 0) (pa_cons (pv 1) pa_nil)))) (pss_cons (ps_set (i := 5) sc_far.nd rfl (.inl rfl) (pe_g g_times (hr.mono (by decide)) (by rfl) (pa_cons (pe_fld (pv 2) rfl) (pa_cons (pe_fld (pv 3) rfl) pa_nil)))) (pss_one (ps_ret (pe_g g_times (hr.mono (by decide)) (by rfl) (pa_cons (pe_g g_matched (hr.mono (by decide)) (by rfl) (pa_cons (pv 4) (pa_cons (pv 4) pa_nil))) (pa_cons (pe_g g_times (hr.mono (by decide)) (by rfl) (pa_cons (pv 5) (pa_cons (pv 5) pa_nil))) pa_nil)))))), ?_⟩
  refine s_st (σ2 := [some v0, some v1, some v2, some v3, none, none]) rfl ?_
  refine s_set (σ2 := fun v => [some v0, some v1, some v2, some v3, some v, none]) (fun _ => rfl) (evp_call (E := E0) (evps_cons (evp_var rfl h0) (evps_cons (evp_var rfl h1) evps_nil)) (cWay.mk g_a g_b (sm_of hS fun i => by simp only [badd, bmax, b0]; omega) (by omega))) fun v4 H1 e1 h4 => ?_
  replace h0 := Rp.stay _ e1 h0
  replace h1 := Rp.stay _ e1 h1
  replace h2 := Rp.stay _ e1 h2
  replace h3 := Rp.stay _ e1 h3
  replace ex := ex.trans e1
  have g_ab := (gd_way g_a g_b)
  refine s_set (σ2 := fun v => [some v0, some v1, some v2, some v3, some v4, some v]) (fun _ => rfl) (evp_call (E := E0) (evps_cons (evp_w T.cl T.nW (evp_var rfl h2)) (evps_cons (evp_w T.cl T.nW (evp_var rfl h3)) evps_nil)) (cTimesG.mk g_c.w g_d.w (sm_of hS fun i => by simp only [badd, bmax, b0]; omega) (by omega))) fun v5 H2 e2 h5 => ?_
  replace h0 := Rp.stay _ e2 h0
  replace h1 := Rp.stay _ e2 h1
  replace h2 := Rp.stay _ e2 h2
  replace h3 := Rp.stay _ e2 h3
  replace h4 := Rp.stay _ e2 h4
  replace ex := ex.trans e2
  have g_others := (gd_times g_c.w g_d.w)
  exact s_retP (evp_call (E := E0) (evps_cons (evp_call (E := E0) (evps_cons (evp_var rfl h4) (evps_cons (evp_var rfl h4) evps_nil)) (cMatched.mk g_ab g_ab (sm_of hS fun i => by simp only [badd, bmax, b0]; omega) (by omega) rfl rfl)) (evps_cons (evp_call (E := E0) (evps_cons (evp_var rfl h5) (evps_cons (evp_var rfl h5) evps_nil)) (cTimesG.mk g_others g_others (sm_of hS fun i => by simp only [badd, bmax, b0]; omega) (by omega))) evps_nil)) (cTimesG.mk (gd_matched g_ab g_ab) (gd_times g_others g_others) (sm_of hS fun i => by simp only [badd, bmax, b0]; omega) (by omega))) fun v H' e hv => q v H' (ex.trans e) hv
theorem sc_so_many_times : FnScope ["a", "b", "c", "d", "m", "n"] ["a", "b", "c", "d", "m", "n"] (defScope s_so_many_times) := ⟨rfl, rfl, rfl, by decide +kernel, rfl, by decide +kernel, by decide +kernel⟩
theorem good_so_many_times (d : Decl K mg "so_many_times" s_so_many_times) (T : PtC K C) (g_crossed_products : Good P w K mg base "crossed_products" 3 ["f", "g", "h", "k"] (pf cCross)) (g_constant : Good P w K mg base "constant" 1 ["number"] (pf cConst)) (g_far : Good P w K mg base "far" 5 ["a", "b", "c", "d"] (pf (cFar C))) : Good P w K mg base "so_many_times" 6 ["a", "b", "c", "d", "m", "n"] (pf (cMany C)) := by
  refine d.good sc_so_many_times (fun _ _ _ _ _ _ us hl => match us, hl with | [_, _, _, _, _, _], _ => rfl) (pf_len fun _ _ c => by cases c; rfl) fun f cdv A outer s H vs Q E hr h => ?_
  obtain ⟨Rs, R, c, ha, q⟩ := h
  cases c with
  | mk g_a g_b g_c g_d g_m g_n hS hn =>
  obtain ⟨v0, _, rfl, h0, v1, _, rfl, h1, v2, _, rfl, h2, v3, _, rfl, h3, v4, _, rfl, h4, v5, _, rfl, h5, rfl⟩ := ha
  have ex : Ex H H := Ex.refl H
  refine ⟨_, pss_one (ps_ret (pe_lst (pa_cons (pe_g g_crossed_products (hr.mono (by decide)) (by rfl) (pa_cons (pe_g g_constant (hr.mono (by decide)) (by rfl) (pa_cons (pe_op op_mul (pv 5) (pv 5)) pa_nil)) (pa_cons (pe_g g_far (hr.mono (by decide)) (by rfl) (pa_cons (pv 0) (pa_cons (pv 1) (pa_cons (pv 2) (pa_cons (pv 3) pa_nil))))) (pa_cons (pe_g g_constant (hr.mono (by decide)) (by rfl) (pa_cons (pe_op op_mul (pv 4) (pv 4)) pa_nil)) (pa_cons (pe_g g_far (hr.mono (by decide)) (by rfl) (pa_cons (pv 2) (pa_cons (pv 3) (pa_cons (pv 0) (pa_cons (pv 1) pa_nil))))) pa_nil))))) pa_nil))), ?_⟩
  refine s_st (σ2 := [some v0, some v1, some v2, some v3, some v4, some v5]) rfl ?_
  exact s_retP (evp_lst (evps_cons (evp_call (E := E0) (evps_cons (evp_call (E := E0) (evps_cons (evp_mulB (evp_var rfl h5) (evp_var rfl h5) g_n) evps_nil) (cConst.mk _)) (evps_cons (evp_call (E := E0) (evps_cons (evp_var rfl h0) (evps_cons (evp_var rfl h1) (evps_cons (evp_var rfl h2) (evps_cons (evp_var rfl h3) evps_nil)))) (cFar.mk g_a g_b g_c g_d (sm_of hS fun i => by simp only [badd, bmax, b0]; omega) (by omega))) (evps_cons (evp_call (E := E0) (evps_cons (evp_mulB (evp_var rfl h4) (evp_var rfl h4) g_m) evps_nil) (cConst.mk _)) (evps_cons (evp_call (E := E0) (evps_cons (evp_var rfl h2) (evps_cons (evp_var rfl h3) (evps_cons (evp_var rfl h0) (evps_cons (evp_var rfl h1) evps_nil)))) (cFar.mk g_c g_d g_a g_b (sm_of hS fun i => by simp only [badd, bmax, b0]; omega) (by omega))) evps_nil)))) (cCross.mk (gd_const (n := 20) (sq_le g_n)) (gd_far g_a g_b g_c g_d) (gd_const (n := 20) (sq_le g_m)) (gd_far g_c g_d g_a g_b) (sm_of hS fun i => by simp only [badd, bmax, b0]; omega) (by omega))) evps_nil) (by show 1 ≤ 100; decide)) fun v H' e hv => q v H' (ex.trans e) hv
theorem sc_equal : FnScope ["a", "b", "c", "d"] ["a", "b", "c", "d"] (defScope s_equal) := ⟨rfl, rfl, rfl, by decide +kernel, rfl, by decide +kernel, by decide +kernel⟩
theorem good_equal (d : Decl K mg "equal" s_equal) (T : PtC K C) (g_so_many_times : Good P w K mg base "so_many_times" 6 ["a", "b", "c", "d", "m", "n"] (pf (cMany C))) : Good P w K mg base "equal" 7 ["a", "b", "c", "d"] (pf (cEqual C)) := by
  refine d.good sc_equal (fun _ _ _ _ _ _ us hl => match us, hl with | [_, _, _, _], _ => rfl) (pf_len fun _ _ c => by cases c; rfl) fun f cdv A outer s H vs Q E hr h => ?_
  obtain ⟨Rs, R, c, ha, q⟩ := h
  cases c with
  | mk g_a g_b g_c g_d hS hn =>
  obtain ⟨v0, _, rfl, h0, v1, _, rfl, h1, v2, _, rfl, h2, v3, _, rfl, h3, rfl⟩ := ha
  have ex : Ex H H := Ex.refl H
  refine ⟨_, pss_one (ps_ret (pe_g g_so_many_times (hr.mono (by decide)) (by rfl) (pa_cons (pv 0) (pa_cons (pv 1) (pa_cons (pv 2) (pa_cons (pv 3) (pa_cons pe_int (pa_cons pe_int pa_nil)))))))), ?_⟩
  refine s_st (σ2 := [some v0, some v1, some v2, some v3]) rfl ?_
  exact s_retP (evp_call (E := E0) (evps_cons (evp_var rfl h0) (evps_cons (evp_var rfl h1) (evps_cons (evp_var rfl h2) (evps_cons (evp_var rfl h3) (evps_cons (evp_c rfl) (evps_cons (evp_c rfl) evps_nil)))))) (cMany.mk g_a g_b g_c g_d (by decide : (1 : Int).natAbs ≤ 1000) (by decide : (1 : Int).natAbs ≤ 1000) (sm_of hS fun i => by simp only [badd, bmax, b0]; omega) (by omega))) fun v H' e hv => q v H' (ex.trans e) hv
theorem sc_around : FnScope ["a", "b", "c", "d"] ["a", "b", "c", "d"] (defScope s_around) := ⟨rfl, rfl, rfl, by decide +kernel, rfl, by decide +kernel, by decide +kernel⟩
theorem good_around (d : Decl K mg "around" s_around) (T : PtC K C) (g_times : Good P w K mg base "times" 2 ["f", "g"] (pf cTimesG)) (g_square : Good P w K mg base "square" 4 ["a"] (pf (cSquare C))) (g_weights : Good P w K mg base "weights" 3 ["a", "b", "c"] (pf (cWts C))) (g_area : Good P w K mg base "area" 5 ["a", "b", "c"] (pf (cArea C))) : Good P w K mg base "around" 6 ["a", "b", "c", "d"] (pf (cAround C)) := by
  refine d.good sc_around (fun _ _ _ _ _ _ us hl => match us, hl with | [_, _, _, _], _ => rfl) (pf_len fun _ _ c => by cases c; rfl) fun f cdv A outer s H vs Q E hr h => ?_
  obtain ⟨Rs, R, c, ha, q⟩ := h
  cases c with
  | mk g_a g_b g_c g_d hS hn =>
  obtain ⟨v0, _, rfl, h0, v1, _, rfl, h1, v2, _, rfl, h2, v3, _, rfl, h3, rfl⟩ := ha
  have ex : Ex H H := Ex.refl H
  refine ⟨_, pss_one (ps_ret (pe_g g_times (hr.mono (by decide)) (by rfl) (pa_cons (pe_g g_times (hr.mono (by decide)) (by rfl) (pa_cons (pe_g g_square (hr.mono (by decide)) (by rfl) (pa_cons (pv 0) pa_nil)) (pa_cons (pe_g g_weights (hr.mono (by decide)) (by rfl) (pa_cons (pv 1) (pa_cons (pv 2) (pa_cons (pv 3) pa_nil)))) pa_nil))) (pa_cons (pe_g g_area (hr.mono (by decide)) (by rfl) (pa_cons (pv 1) (pa_cons (pv 2) (pa_cons (pv 3) pa_nil)))) pa_nil)))), ?_⟩
  refine s_st (σ2 := [some v0, some v1, some v2, some v3]) rfl ?_
  exact s_retP (evp_call (E := E0) (evps_cons (evp_call (E := E0) (evps_cons (evp_call (E := E0) (evps_cons (evp_var rfl h0) evps_nil) (cSquare.mk g_a (sm_of hS fun i => by simp only [badd, bmax, b0]; omega) (by omega))) (evps_cons (evp_call (E := E0) (evps_cons (evp_var rfl h1) (evps_cons (evp_var rfl h2) (evps_cons (evp_var rfl h3) evps_nil))) (cWts.mk g_b g_c g_d (sm_of hS fun i => by simp only [badd, bmax, b0]; omega) (by omega))) evps_nil)) (cTimesG.mk (gd_square g_a) (gd_wts g_b g_c g_d) (sm_of hS fun i => by simp only [badd, bmax, b0]; omega) (by omega))) (evps_cons (evp_call (E := E0) (evps_cons (evp_var rfl h1) (evps_cons (evp_var rfl h2) (evps_cons (evp_var rfl h3) evps_nil))) (cArea.mk g_b g_c g_d (sm_of hS fun i => by simp only [badd, bmax, b0]; omega) (by omega))) evps_nil)) (cTimesG.mk (gd_times (gd_square g_a) (gd_wts g_b g_c g_d)) (gd_area g_b g_c g_d) (sm_of hS fun i => by simp only [badd, bmax, b0]; omega) (by omega))) fun v H' e hv => q v H' (ex.trans e) hv
theorem sc_circle : FnScope ["a", "b", "c", "d", "first", "other"] ["a", "b", "c", "d"] (defScope s_circle) := ⟨rfl, rfl, rfl, by decide +kernel, rfl, by decide +kernel, by decide +kernel⟩
theorem good_circle (d : Decl K mg "circle" s_circle) (T : PtC K C) (g_less : Good P w K mg base "less" 2 ["f", "g"] (pf cLessG)) (g_around : Good P w K mg base "around" 6 ["a", "b", "c", "d"] (pf (cAround C))) (g_plus : Good P w K mg base "plus" 2 ["f", "g"] (pf cPlusG)) : Good P w K mg base "circle" 7 ["a", "b", "c", "d"] (pf (cCircle C)) := by
  refine d.good sc_circle (fun _ _ _ _ _ _ us hl => match us, hl with | [_, _, _, _], _ => rfl) (pf_len fun _ _ c => by cases c; rfl) fun f cdv A outer s H vs Q E hr h => ?_
  obtain ⟨Rs, R, c, ha, q⟩ := h
  cases c with
  | mk g_a g_b g_c g_d hS hn =>
  obtain ⟨v0, _, rfl, h0, v1, _, rfl, h1, v2, _, rfl, h2, v3, _, rfl, h3, rfl⟩ := ha
  have ex : Ex H H := Ex.refl H
  refine ⟨_, pss_cons (ps_set (i := 4) sc_circle.nd rfl (.inl rfl) (pe_g g_less (hr.mono (by decide)) (by rfl) (pa_cons (pe_g g_around (hr.mono (by decide)) (by rfl) (pa_cons (pv 0) (pa_cons (pv 1) (pa_cons (pv 2) (pa_cons (pv 3) pa_nil))))) (pa_cons (pe_g g_around (hr.mono (by decide)) (by rfl) (pa_cons (pv 1) (pa_cons (pv 0) (pa_cons (pv 2) (pa_cons (pv 3) pa_nil))))) pa_nil)))) (pss_cons (ps_set (i := 5) sc_circle.nd rfl (.inl rfl) (pe_g g_less (hr.mono (by decide)) (by rfl) (pa_cons (pe_g g_around (hr.mono (by decide)) (by rfl) (pa_cons (pv 2) (pa_cons (pv 0) (pa_cons (pv 1) (pa_cons (pv 3) pa_nil))))) (pa_cons (pe_g g_around (hr.mono (by decide)) (by rfl) (pa_cons (pv 3) (pa_cons (pv 0) (pa_cons (pv 1) (pa_cons (pv 2) pa_nil))))) pa_nil)))) (pss_one (ps_ret (pe_lst (pa_cons (pe_g g_plus (hr.mono (by decide)) (by rfl) (pa_cons (pv 4) (pa_cons (pv 5) pa_nil))) pa_nil))))), ?_⟩
  refine s_st (σ2 := [some v0, some v1, some v2, some v3, none, none]) rfl ?_
  refine s_set (σ2 := fun v => [some v0, some v1, some v2, some v3, some v, none]) (fun _ => rfl) (evp_call (E := E0) (evps_cons (evp_call (E := E0) (evps_cons (evp_var rfl h0) (evps_cons (evp_var rfl h1) (evps_cons (evp_var rfl h2) (evps_cons (evp_var rfl h3) evps_nil)))) (cAround.mk g_a g_b g_c g_d (sm_of hS fun i => by simp only [badd, bmax, b0]; omega) (by omega))) (evps_cons (evp_call (E := E0) (evps_cons (evp_var rfl h1) (evps_cons (evp_var rfl h0) (evps_cons (evp_var rfl h2) (evps_cons (evp_var rfl h3) evps_nil)))) (cAround.mk g_b g_a g_c g_d (sm_of hS fun i => by simp only [badd, bmax, b0]; omega) (by omega))) evps_nil)) (cLessG.mk (gd_around g_a g_b g_c g_d) (gd_around g_b g_a g_c g_d) (sm_of hS fun i => by simp only [badd, bmax, b0]; omega))) fun v4 H1 e1 h4 => ?_
  replace h0 := Rp.stay _ e1 h0
  replace h1 := Rp.stay _ e1 h1
  replace h2 := Rp.stay _ e1 h2
  replace h3 := Rp.stay _ e1 h3
  replace ex := ex.trans e1
  have g_first := (gd_less (gd_around g_a g_b g_c g_d) (gd_around g_b g_a g_c g_d))
  refine s_set (σ2 := fun v => [some v0, some v1, some v2, some v3, some v4, some v]) (fun _ => rfl) (evp_call (E := E0) (evps_cons (evp_call (E := E0) (evps_cons (evp_var rfl h2) (evps_cons (evp_var rfl h0) (evps_cons (evp_var rfl h1) (evps_cons (evp_var rfl h3) evps_nil)))) (cAround.mk g_c g_a g_b g_d (sm_of hS fun i => by simp only [badd, bmax, b0]; omega) (by omega))) (evps_cons (evp_call (E := E0) (evps_cons (evp_var rfl h3) (evps_cons (evp_var rfl h0) (evps_cons (evp_var rfl h1) (evps_cons (evp_var rfl h2) evps_nil)))) (cAround.mk g_d g_a g_b g_c (sm_of hS fun i => by simp only [badd, bmax, b0]; omega) (by omega))) evps_nil)) (cLessG.mk (gd_around g_c g_a g_b g_d) (gd_around g_d g_a g_b g_c) (sm_of hS fun i => by simp only [badd, bmax, b0]; omega))) fun v5 H2 e2 h5 => ?_
  replace h0 := Rp.stay _ e2 h0
  replace h1 := Rp.stay _ e2 h1
  replace h2 := Rp.stay _ e2 h2
  replace h3 := Rp.stay _ e2 h3
  replace h4 := Rp.stay _ e2 h4
  replace ex := ex.trans e2
  have g_other := (gd_less (gd_around g_c g_a g_b g_d) (gd_around g_d g_a g_b g_c))
  exact s_retP (evp_lst (evps_cons (evp_call (E := E0) (evps_cons (evp_var rfl h4) (evps_cons (evp_var rfl h5) evps_nil)) (cPlusG.mk g_first g_other (sm_of hS fun i => by simp only [badd, bmax, b0]; omega))) evps_nil) (by show 1 ≤ 100; decide)) fun v H' e hv => q v H' (ex.trans e) hv
theorem sc_angles : FnScope ["a", "b", "c", "d", "e", "f", "ba", "bc", "ed", "ef"] ["a", "b", "c", "d", "e", "f"] (defScope s_angles) := ⟨rfl, rfl, rfl, by decide +kernel, rfl, by decide +kernel, by decide +kernel⟩
theorem good_angles (d : Decl K mg "angles" s_angles) (T : PtC K C) (g_way : Good P w K mg base "way" 4 ["a", "b"] (pf (cWay C))) (g_crossed_products : Good P w K mg base "crossed_products" 3 ["f", "g", "h", "k"] (pf cCross)) (g_crossed : Good P w K mg base "crossed" 4 ["first", "other"] (pf cCrossed)) (g_matched : Good P w K mg base "matched" 4 ["first", "other"] (pf cMatched)) : Good P w K mg base "angles" 5 ["a", "b", "c", "d", "e", "f"] (pf (cAngles C)) := by
  refine d.good sc_angles (fun _ _ _ _ _ _ us hl => match us, hl with | [_, _, _, _, _, _], _ => rfl) (pf_len fun _ _ c => by cases c; rfl) fun f cdv A outer s H vs Q E hr h => ?_
  obtain ⟨Rs, R, c, ha, q⟩ := h
  cases c with
  | mk g_a g_b g_c g_d g_e g_f hS hn =>
  obtain ⟨v0, _, rfl, h0, v1, _, rfl, h1, v2, _, rfl, h2, v3, _, rfl, h3, v4, _, rfl, h4, v5, _, rfl, h5, rfl⟩ := ha
  have ex : Ex H H := Ex.refl H
  refine ⟨_, pss_cons (ps_set (i := 6) sc_angles.nd rfl (.inl rfl) (pe_g g_way (hr.mono (by decide)) (by rfl) (pa_cons (pv 1) (pa_cons (pv 0) pa_nil)))) (pss_cons (ps_set (i := 7) sc_angles.nd rfl (.inl rfl) (pe_g g_way (hr.mono (by decide)) (by rfl) (pa_cons (pv 1) (pa_cons (pv 2) pa_nil)))) (pss_cons (ps_set (i := 8) sc_angles.nd rfl (.inl rfl) (pe_g g_way (hr.mono (by decide)) (by rfl) (pa_cons (pv 4) (pa_cons (pv 3) pa_nil)))) (pss_cons (ps_set (i := 9) sc_angles.nd rfl (.inl rfl) (pe_g g_way (hr.mono (by decide)) (by rfl) (pa_cons (pv 4) (pa_cons (pv 5) pa_nil)))) (pss_one (ps_ret (pe_lst (pa_cons (pe_g g_crossed_products (hr.mono (by decide)) (by rfl) (pa_cons (pe_g g_crossed (hr.mono (by decide)) (by rfl) (pa_cons (pv 6) (pa_cons (pv 7) pa_nil))) (pa_cons (pe_g g_matched (hr.mono (by decide)) (by rfl) (pa_cons (pv 8) (pa_cons (pv 9) pa_nil))) (pa_cons (pe_g g_matched (hr.mono (by decide)) (by rfl) (pa_cons (pv 6) (pa_cons (pv 7) pa_nil))) (pa_cons (pe_g g_crossed (hr.mono (by decide)) (by rfl) (pa_cons (pv 8) (pa_cons (pv 9) pa_nil))) pa_nil))))) pa_nil))))))), ?_⟩
  refine s_st (σ2 := [some v0, some v1, some v2, some v3, some v4, some v5, none, none, none, none]) rfl ?_
  refine s_set (σ2 := fun v => [some v0, some v1, some v2, some v3, some v4, some v5, some v, none, none, none]) (fun _ => rfl) (evp_call (E := E0) (evps_cons (evp_var rfl h1) (evps_cons (evp_var rfl h0) evps_nil)) (cWay.mk g_b g_a (sm_of hS fun i => by simp only [badd, bmax, b0]; omega) (by omega))) fun v6 H1 e1 h6 => ?_
  replace h0 := Rp.stay _ e1 h0
  replace h1 := Rp.stay _ e1 h1
  replace h2 := Rp.stay _ e1 h2
  replace h3 := Rp.stay _ e1 h3
  replace h4 := Rp.stay _ e1 h4
  replace h5 := Rp.stay _ e1 h5
  replace ex := ex.trans e1
  have g_ba := (gd_way g_b g_a)
  refine s_set (σ2 := fun v => [some v0, some v1, some v2, some v3, some v4, some v5, some v6, some v, none, none]) (fun _ => rfl) (evp_call (E := E0) (evps_cons (evp_var rfl h1) (evps_cons (evp_var rfl h2) evps_nil)) (cWay.mk g_b g_c (sm_of hS fun i => by simp only [badd, bmax, b0]; omega) (by omega))) fun v7 H2 e2 h7 => ?_
  replace h0 := Rp.stay _ e2 h0
  replace h1 := Rp.stay _ e2 h1
  replace h2 := Rp.stay _ e2 h2
  replace h3 := Rp.stay _ e2 h3
  replace h4 := Rp.stay _ e2 h4
  replace h5 := Rp.stay _ e2 h5
  replace h6 := Rp.stay _ e2 h6
  replace ex := ex.trans e2
  have g_bc := (gd_way g_b g_c)
  refine s_set (σ2 := fun v => [some v0, some v1, some v2, some v3, some v4, some v5, some v6, some v7, some v, none]) (fun _ => rfl) (evp_call (E := E0) (evps_cons (evp_var rfl h4) (evps_cons (evp_var rfl h3) evps_nil)) (cWay.mk g_e g_d (sm_of hS fun i => by simp only [badd, bmax, b0]; omega) (by omega))) fun v8 H3 e3 h8 => ?_
  replace h0 := Rp.stay _ e3 h0
  replace h1 := Rp.stay _ e3 h1
  replace h2 := Rp.stay _ e3 h2
  replace h3 := Rp.stay _ e3 h3
  replace h4 := Rp.stay _ e3 h4
  replace h5 := Rp.stay _ e3 h5
  replace h6 := Rp.stay _ e3 h6
  replace h7 := Rp.stay _ e3 h7
  replace ex := ex.trans e3
  have g_ed := (gd_way g_e g_d)
  refine s_set (σ2 := fun v => [some v0, some v1, some v2, some v3, some v4, some v5, some v6, some v7, some v8, some v]) (fun _ => rfl) (evp_call (E := E0) (evps_cons (evp_var rfl h4) (evps_cons (evp_var rfl h5) evps_nil)) (cWay.mk g_e g_f (sm_of hS fun i => by simp only [badd, bmax, b0]; omega) (by omega))) fun v9 H4 e4 h9 => ?_
  replace h0 := Rp.stay _ e4 h0
  replace h1 := Rp.stay _ e4 h1
  replace h2 := Rp.stay _ e4 h2
  replace h3 := Rp.stay _ e4 h3
  replace h4 := Rp.stay _ e4 h4
  replace h5 := Rp.stay _ e4 h5
  replace h6 := Rp.stay _ e4 h6
  replace h7 := Rp.stay _ e4 h7
  replace h8 := Rp.stay _ e4 h8
  replace ex := ex.trans e4
  have g_ef := (gd_way g_e g_f)
  exact s_retP (evp_lst (evps_cons (evp_call (E := E0) (evps_cons (evp_call (E := E0) (evps_cons (evp_var rfl h6) (evps_cons (evp_var rfl h7) evps_nil)) (cCrossed.mk g_ba g_bc (sm_of hS fun i => by simp only [badd, bmax, b0]; omega) (by omega))) (evps_cons (evp_call (E := E0) (evps_cons (evp_var rfl h8) (evps_cons (evp_var rfl h9) evps_nil)) (cMatched.mk g_ed g_ef (sm_of hS fun i => by simp only [badd, bmax, b0]; omega) (by omega) rfl rfl)) (evps_cons (evp_call (E := E0) (evps_cons (evp_var rfl h6) (evps_cons (evp_var rfl h7) evps_nil)) (cMatched.mk g_ba g_bc (sm_of hS fun i => by simp only [badd, bmax, b0]; omega) (by omega) rfl rfl)) (evps_cons (evp_call (E := E0) (evps_cons (evp_var rfl h8) (evps_cons (evp_var rfl h9) evps_nil)) (cCrossed.mk g_ed g_ef (sm_of hS fun i => by simp only [badd, bmax, b0]; omega) (by omega))) evps_nil)))) (cCross.mk (gd_crossed g_ba g_bc) (gd_matched g_ed g_ef) (gd_matched g_ba g_bc) (gd_crossed g_ed g_ef) (sm_of hS fun i => by simp only [badd, bmax, b0]; omega) (by omega))) evps_nil) (by show 1 ≤ 100; decide)) fun v H' e hv => q v H' (ex.trans e) hv
theorem sc_areas : FnScope ["a", "b", "c", "d", "e", "f"] ["a", "b", "c", "d", "e", "f"] (defScope s_areas) := ⟨rfl, rfl, rfl, by decide +kernel, rfl, by decide +kernel, by decide +kernel⟩
theorem good_areas (d : Decl K mg "areas" s_areas) (T : PtC K C) (g_crossed_products : Good P w K mg base "crossed_products" 3 ["f", "g", "h", "k"] (pf cCross)) (g_area : Good P w K mg base "area" 5 ["a", "b", "c"] (pf (cArea C))) (g_weights : Good P w K mg base "weights" 3 ["a", "b", "c"] (pf (cWts C))) : Good P w K mg base "areas" 6 ["a", "b", "c", "d", "e", "f"] (pf (cAreas C)) := by
  refine d.good sc_areas (fun _ _ _ _ _ _ us hl => match us, hl with | [_, _, _, _, _, _], _ => rfl) (pf_len fun _ _ c => by cases c; rfl) fun f cdv A outer s H vs Q E hr h => ?_
  obtain ⟨Rs, R, c, ha, q⟩ := h
  cases c with
  | mk g_a g_b g_c g_d g_e g_f hS hn =>
  obtain ⟨v0, _, rfl, h0, v1, _, rfl, h1, v2, _, rfl, h2, v3, _, rfl, h3, v4, _, rfl, h4, v5, _, rfl, h5, rfl⟩ := ha
  have ex : Ex H H := Ex.refl H
  refine ⟨_, pss_one (ps_ret (pe_lst (pa_cons (pe_g g_crossed_products (hr.mono (by decide)) (by rfl) (pa_cons (pe_g g_area (hr.mono (by decide)) (by rfl) (pa_cons (pv 0) (pa_cons (pv 1) (pa_cons (pv 2) pa_nil)))) (pa_cons (pe_g g_weights (hr.mono (by decide)) (by rfl) (pa_cons (pv 3) (pa_cons (pv 4) (pa_cons (pv 5) pa_nil)))) (pa_cons (pe_g g_area (hr.mono (by decide)) (by rfl) (pa_cons (pv 3) (pa_cons (pv 4) (pa_cons (pv 5) pa_nil)))) (pa_cons (pe_g g_weights (hr.mono (by decide)) (by rfl) (pa_cons (pv 0) (pa_cons (pv 1) (pa_cons (pv 2) pa_nil)))) pa_nil))))) pa_nil))), ?_⟩
  refine s_st (σ2 := [some v0, some v1, some v2, some v3, some v4, some v5]) rfl ?_
  exact s_retP (evp_lst (evps_cons (evp_call (E := E0) (evps_cons (evp_call (E := E0) (evps_cons (evp_var rfl h0) (evps_cons (evp_var rfl h1) (evps_cons (evp_var rfl h2) evps_nil))) (cArea.mk g_a g_b g_c (sm_of hS fun i => by simp only [badd, bmax, b0]; omega) (by omega))) (evps_cons (evp_call (E := E0) (evps_cons (evp_var rfl h3) (evps_cons (evp_var rfl h4) (evps_cons (evp_var rfl h5) evps_nil))) (cWts.mk g_d g_e g_f (sm_of hS fun i => by simp only [badd, bmax, b0]; omega) (by omega))) (evps_cons (evp_call (E := E0) (evps_cons (evp_var rfl h3) (evps_cons (evp_var rfl h4) (evps_cons (evp_var rfl h5) evps_nil))) (cArea.mk g_d g_e g_f (sm_of hS fun i => by simp only [badd, bmax, b0]; omega) (by omega))) (evps_cons (evp_call (E := E0) (evps_cons (evp_var rfl h0) (evps_cons (evp_var rfl h1) (evps_cons (evp_var rfl h2) evps_nil))) (cWts.mk g_a g_b g_c (sm_of hS fun i => by simp only [badd, bmax, b0]; omega) (by omega))) evps_nil)))) (cCross.mk (gd_area g_a g_b g_c) (gd_wts g_d g_e g_f) (gd_area g_d g_e g_f) (gd_wts g_a g_b g_c) (sm_of hS fun i => by simp only [badd, bmax, b0]; omega) (by omega))) evps_nil) (by show 1 ≤ 100; decide)) fun v H' e hv => q v H' (ex.trans e) hv
theorem sc_through : FnScope ["a", "b", "c", "d", "e", "f", "ab", "met"] ["a", "b", "c", "d", "e", "f"] (defScope s_through) := ⟨rfl, rfl, rfl, by decide +kernel, rfl, by decide +kernel, by decide +kernel⟩
theorem good_through (d : Decl K mg "through" s_through) (T : PtC K C) (g_line : Good P w K mg base "line" 4 ["a", "b"] (pf (cLine C))) (g_meeting : Good P w K mg base "meeting" 4 ["pqr", "other"] (pf cMeeting)) (g_plus : Good P w K mg base "plus" 2 ["f", "g"] (pf cPlusG)) (g_matched : Good P w K mg base "matched" 4 ["first", "other"] (pf cMatched)) (g_times : Good P w K mg base "times" 2 ["f", "g"] (pf cTimesG)) : Good P w K mg base "through" 5 ["a", "b", "c", "d", "e", "f"] (pf (cThrough C)) := by
  refine d.good sc_through (fun _ _ _ _ _ _ us hl => match us, hl with | [_, _, _, _, _, _], _ => rfl) (pf_len fun _ _ c => by cases c; rfl) fun f cdv A outer s H vs Q E hr h => ?_
  obtain ⟨Rs, R, c, ha, q⟩ := h
  cases c with
  | mk g_a g_b g_c g_d g_e g_f hS hn =>
  obtain ⟨v0, _, rfl, h0, v1, _, rfl, h1, v2, _, rfl, h2, v3, _, rfl, h3, v4, _, rfl, h4, v5, _, rfl, h5, rfl⟩ := ha
  have ex : Ex H H := Ex.refl H
  refine ⟨_, pss_cons (ps_set (i := 6) sc_through.nd rfl (.inl rfl) (pe_g g_line (hr.mono (by decide)) (by rfl) (pa_cons (pv 0) (pa_cons (pv 1) pa_nil)))) (pss_cons (ps_set (i := 7) sc_through.nd rfl (.inl rfl) (pe_g g_meeting (hr.mono (by decide)) (by rfl) (pa_cons (pe_g g_line (hr.mono (by decide)) (by rfl) (pa_cons (pv 2) (pa_cons (pv 3) pa_nil))) (pa_cons (pe_g g_line (hr.mono (by decide)) (by rfl) (pa_cons (pv 4) (pa_cons (pv 5) pa_nil))) pa_nil)))) (pss_one (ps_ret (pe_lst (pa_cons (pe_g g_plus (hr.mono (by decide)) (by rfl) (pa_cons (pe_g g_matched (hr.mono (by decide)) (by rfl) (pa_cons (pv 6) (pa_cons (pv 7) pa_nil))) (pa_cons (pe_g g_times (hr.mono (by decide)) (by rfl) (pa_cons (pe_ix ix_tup (pv 6) pe_int (fun _ _ => rfl)) (pa_cons (pe_ix ix_tup (pv 7) pe_int (fun _ _ => rfl)) pa_nil))) pa_nil))) pa_nil))))), ?_⟩
  refine s_st (σ2 := [some v0, some v1, some v2, some v3, some v4, some v5, none, none]) rfl ?_
  refine s_set (σ2 := fun v => [some v0, some v1, some v2, some v3, some v4, some v5, some v, none]) (fun _ => rfl) (evp_call (E := E0) (evps_cons (evp_var rfl h0) (evps_cons (evp_var rfl h1) evps_nil)) (cLine.mk g_a g_b (sm_of hS fun i => by simp only [badd, bmax, b0]; omega) (by omega))) fun v6 H1 e1 h6 => ?_
  replace h0 := Rp.stay _ e1 h0
  replace h1 := Rp.stay _ e1 h1
  replace h2 := Rp.stay _ e1 h2
  replace h3 := Rp.stay _ e1 h3
  replace h4 := Rp.stay _ e1 h4
  replace h5 := Rp.stay _ e1 h5
  replace ex := ex.trans e1
  have g_ab := (gd_line g_a g_b)
  refine s_set (σ2 := fun v => [some v0, some v1, some v2, some v3, some v4, some v5, some v6, some v]) (fun _ => rfl) (evp_call (E := E0) (evps_cons (evp_call (E := E0) (evps_cons (evp_var rfl h2) (evps_cons (evp_var rfl h3) evps_nil)) (cLine.mk g_c g_d (sm_of hS fun i => by simp only [badd, bmax, b0]; omega) (by omega))) (evps_cons (evp_call (E := E0) (evps_cons (evp_var rfl h4) (evps_cons (evp_var rfl h5) evps_nil)) (cLine.mk g_e g_f (sm_of hS fun i => by simp only [badd, bmax, b0]; omega) (by omega))) evps_nil)) (cMeeting.mk (gd_line g_c g_d) (gd_line g_e g_f) (sm_of hS fun i => by simp only [badd, bmax, b0]; omega) (by omega))) fun v7 H2 e2 h7 => ?_
  replace h0 := Rp.stay _ e2 h0
  replace h1 := Rp.stay _ e2 h1
  replace h2 := Rp.stay _ e2 h2
  replace h3 := Rp.stay _ e2 h3
  replace h4 := Rp.stay _ e2 h4
  replace h5 := Rp.stay _ e2 h5
  replace h6 := Rp.stay _ e2 h6
  replace ex := ex.trans e2
  have g_met := (gd_meeting (gd_line g_c g_d) (gd_line g_e g_f))
  exact s_retP (evp_lst (evps_cons (evp_call (E := E0) (evps_cons (evp_call (E := E0) (evps_cons (evp_var rfl h6) (evps_cons (evp_var rfl h7) evps_nil)) (cMatched.mk g_ab.xy g_met.xy (sm_of hS fun i => by simp only [badd, bmax, b0]; omega) (by omega) rfl rfl)) (evps_cons (evp_call (E := E0) (evps_cons (evp_ixT (j := 2) (evp_var rfl h6) (evp_c rfl) rfl) (evps_cons (evp_ixT (j := 2) (evp_var rfl h7) (evp_c rfl) rfl) evps_nil)) (cTimesG.mk g_ab.w g_met.w (sm_of hS fun i => by simp only [badd, bmax, b0]; omega) (by omega))) evps_nil)) (cPlusG.mk (gd_matched g_ab.xy g_met.xy) (gd_times g_ab.w g_met.w) (sm_of hS fun i => by simp only [badd, bmax, b0]; omega))) evps_nil) (by show 1 ≤ 100; decide)) fun v H' e hv => q v H' (ex.trans e) hv
theorem sc_middle : FnScope ["a", "b", "c", "twice"] ["a", "b", "c"] (defScope s_middle) := ⟨rfl, rfl, rfl, by decide +kernel, rfl, by decide +kernel, by decide +kernel⟩
theorem good_middle (d : Decl K mg "middle" s_middle) (T : PtC K C) (g_times : Good P w K mg base "times" 2 ["f", "g"] (pf cTimesG)) (g_constant : Good P w K mg base "constant" 1 ["number"] (pf cConst)) (g_crossed_products : Good P w K mg base "crossed_products" 3 ["f", "g", "h", "k"] (pf cCross)) (g_added_products : Good P w K mg base "added_products" 3 ["f", "g", "h", "k"] (pf cAdded)) : Good P w K mg base "middle" 4 ["a", "b", "c"] (pf (cMiddle C)) := by
  refine d.good sc_middle (fun _ _ _ _ _ _ us hl => match us, hl with | [_, _, _], _ => rfl) (pf_len fun _ _ c => by cases c; rfl) fun f cdv A outer s H vs Q E hr h => ?_
  obtain ⟨Rs, R, c, ha, q⟩ := h
  cases c with
  | mk g_a g_b g_c hS hn =>
  obtain ⟨v0, _, rfl, h0, v1, _, rfl, h1, v2, _, rfl, h2, rfl⟩ := ha
  have ex : Ex H H := Ex.refl H
  refine ⟨_, pss_cons (ps_set (i := 3) sc_middle.nd rfl (.inl rfl) (pe_g g_times (hr.mono (by decide)) (by rfl) (pa_cons (pe_g g_constant (hr.mono (by decide)) (by rfl) (pa_cons pe_int pa_nil)) (pa_cons (pe_g g_times (hr.mono (by decide)) (by rfl) (pa_cons (pe_fld (pv 1) rfl) (pa_cons (pe_fld (pv 2) rfl) pa_nil))) pa_nil)))) (pss_one (ps_ret (pe_lst (pa_cons (pe_g g_crossed_products (hr.mono (by decide)) (by rfl) (pa_cons (pe_fld (pv 0) rfl) (pa_cons (pv 3) (pa_cons (pe_fld (pv 0) rfl) (pa_cons (pe_g g_added_products (hr.mono (by decide)) (by rfl) (pa_cons (pe_fld (pv 1) rfl) (pa_cons (pe_fld (pv 2) rfl) (pa_cons (pe_fld (pv 2) rfl) (pa_cons (pe_fld (pv 1) rfl) pa_nil))))) pa_nil))))) (pa_cons (pe_g g_crossed_products (hr.mono (by decide)) (by rfl) (pa_cons (pe_fld (pv 0) rfl) (pa_cons (pv 3) (pa_cons (pe_fld (pv 0) rfl) (pa_cons (pe_g g_added_products (hr.mono (by decide)) (by rfl) (pa_cons (pe_fld (pv 1) rfl) (pa_cons (pe_fld (pv 2) rfl) (pa_cons (pe_fld (pv 2) rfl) (pa_cons (pe_fld (pv 1) rfl) pa_nil))))) pa_nil))))) pa_nil))))), ?_⟩
  refine s_st (σ2 := [some v0, some v1, some v2, none]) rfl ?_
  refine s_set (σ2 := fun v => [some v0, some v1, some v2, some v]) (fun _ => rfl) (evp_call (E := E0) (evps_cons (evp_call (E := E0) (evps_cons (evp_c rfl) evps_nil) (cConst.mk (2))) (evps_cons (evp_call (E := E0) (evps_cons (evp_w T.cl T.nW (evp_var rfl h1)) (evps_cons (evp_w T.cl T.nW (evp_var rfl h2)) evps_nil)) (cTimesG.mk g_b.w g_c.w (sm_of hS fun i => by simp only [badd, bmax, b0]; omega) (by omega))) evps_nil)) (cTimesG.mk (gd_const (c := (2)) (n := 1) (by decide)) (gd_times g_b.w g_c.w) (sm_of hS fun i => by simp only [badd, bmax, b0]; omega) (by omega))) fun v3 H1 e1 h3 => ?_
  replace h0 := Rp.stay _ e1 h0
  replace h1 := Rp.stay _ e1 h1
  replace h2 := Rp.stay _ e1 h2
  replace ex := ex.trans e1
  have g_twice := (gd_times (gd_const (c := (2)) (n := 1) (by decide)) (gd_times g_b.w g_c.w))
  exact s_retP (evp_lst (evps_cons (evp_call (E := E0) (evps_cons (evp_x T.cl T.nX (evp_var rfl h0)) (evps_cons (evp_var rfl h3) (evps_cons (evp_w T.cl T.nW (evp_var rfl h0)) (evps_cons (evp_call (E := E0) (evps_cons (evp_x T.cl T.nX (evp_var rfl h1)) (evps_cons (evp_w T.cl T.nW (evp_var rfl h2)) (evps_cons (evp_x T.cl T.nX (evp_var rfl h2)) (evps_cons (evp_w T.cl T.nW (evp_var rfl h1)) evps_nil)))) (cAdded.mk g_b.x g_c.w g_c.x g_b.w (sm_of hS fun i => by simp only [badd, bmax, b0]; omega) (by omega))) evps_nil)))) (cCross.mk g_a.x g_twice g_a.w (gd_added g_b.x g_c.w g_c.x g_b.w) (sm_of hS fun i => by simp only [badd, bmax, b0]; omega) (by omega))) (evps_cons (evp_call (E := E0) (evps_cons (evp_y T.cl T.nY (evp_var rfl h0)) (evps_cons (evp_var rfl h3) (evps_cons (evp_w T.cl T.nW (evp_var rfl h0)) (evps_cons (evp_call (E := E0) (evps_cons (evp_y T.cl T.nY (evp_var rfl h1)) (evps_cons (evp_w T.cl T.nW (evp_var rfl h2)) (evps_cons (evp_y T.cl T.nY (evp_var rfl h2)) (evps_cons (evp_w T.cl T.nW (evp_var rfl h1)) evps_nil)))) (cAdded.mk g_b.y g_c.w g_c.y g_b.w (sm_of hS fun i => by simp only [badd, bmax, b0]; omega) (by omega))) evps_nil)))) (cCross.mk g_a.y g_twice g_a.w (gd_added g_b.y g_c.w g_c.y g_b.w) (sm_of hS fun i => by simp only [badd, bmax, b0]; omega) (by omega))) evps_nil)) (by show 2 ≤ 100; decide)) fun v H' e hv => q v H' (ex.trans e) hv
theorem sc_touches : FnScope ["a", "b", "c", "d", "ab", "cd", "off"] ["a", "b", "c", "d"] (defScope s_touches) := ⟨rfl, rfl, rfl, by decide +kernel, rfl, by decide +kernel, by decide +kernel⟩
theorem good_touches (d : Decl K mg "touches" s_touches) (T : PtC K C) (g_line : Good P w K mg base "line" 4 ["a", "b"] (pf (cLine C))) (g_way : Good P w K mg base "way" 4 ["a", "b"] (pf (cWay C))) (g_times : Good P w K mg base "times" 2 ["f", "g"] (pf cTimesG)) (g_beside : Good P w K mg base "beside" 4 ["pqr", "c"] (pf (cBeside C))) (g_crossed_products : Good P w K mg base "crossed_products" 3 ["f", "g", "h", "k"] (pf cCross)) (g_matched : Good P w K mg base "matched" 4 ["first", "other"] (pf cMatched)) : Good P w K mg base "touches" 5 ["a", "b", "c", "d"] (pf (cTouches C)) := by
  refine d.good sc_touches (fun _ _ _ _ _ _ us hl => match us, hl with | [_, _, _, _], _ => rfl) (pf_len fun _ _ c => by cases c; rfl) fun f cdv A outer s H vs Q E hr h => ?_
  obtain ⟨Rs, R, c, ha, q⟩ := h
  cases c with
  | mk g_a g_b g_c g_d hS hn =>
  obtain ⟨v0, _, rfl, h0, v1, _, rfl, h1, v2, _, rfl, h2, v3, _, rfl, h3, rfl⟩ := ha
  have ex : Ex H H := Ex.refl H
  refine ⟨_, pss_cons (ps_set (i := 4) sc_touches.nd rfl (.inl rfl) (pe_g g_line (hr.mono (by decide)) (by rfl) (pa_cons (pv 0) (pa_cons (pv 1) pa_nil)))) (pss_cons (ps_set (i := 5) sc_touches.nd rfl (.inl rfl) (pe_g g_way (hr.mono (by decide)) (by rfl) (pa_cons (pv 2) (pa_cons (pv 3) pa_nil)))) (pss_cons (ps_set (i := 6) sc_touches.nd rfl (.inl rfl) (pe_g g_times (hr.mono (by decide)) (by rfl) (pa_cons (pe_g g_beside (hr.mono (by decide)) (by rfl) (pa_cons (pv 4) (pa_cons (pv 2) pa_nil))) (pa_cons (pe_fld (pv 3) rfl) pa_nil)))) (pss_one (ps_ret (pe_lst (pa_cons (pe_g g_crossed_products (hr.mono (by decide)) (by rfl) (pa_cons (pv 6) (pa_cons (pv 6) (pa_cons (pe_g g_matched (hr.mono (by decide)) (by rfl) (pa_cons (pv 5) (pa_cons (pv 5) pa_nil))) (pa_cons (pe_g g_matched (hr.mono (by decide)) (by rfl) (pa_cons (pv 4) (pa_cons (pv 4) pa_nil))) pa_nil))))) pa_nil)))))), ?_⟩
  refine s_st (σ2 := [some v0, some v1, some v2, some v3, none, none, none]) rfl ?_
  refine s_set (σ2 := fun v => [some v0, some v1, some v2, some v3, some v, none, none]) (fun _ => rfl) (evp_call (E := E0) (evps_cons (evp_var rfl h0) (evps_cons (evp_var rfl h1) evps_nil)) (cLine.mk g_a g_b (sm_of hS fun i => by simp only [badd, bmax, b0]; omega) (by omega))) fun v4 H1 e1 h4 => ?_
  replace h0 := Rp.stay _ e1 h0
  replace h1 := Rp.stay _ e1 h1
  replace h2 := Rp.stay _ e1 h2
  replace h3 := Rp.stay _ e1 h3
  replace ex := ex.trans e1
  have g_ab := (gd_line g_a g_b)
  refine s_set (σ2 := fun v => [some v0, some v1, some v2, some v3, some v4, some v, none]) (fun _ => rfl) (evp_call (E := E0) (evps_cons (evp_var rfl h2) (evps_cons (evp_var rfl h3) evps_nil)) (cWay.mk g_c g_d (sm_of hS fun i => by simp only [badd, bmax, b0]; omega) (by omega))) fun v5 H2 e2 h5 => ?_
  replace h0 := Rp.stay _ e2 h0
  replace h1 := Rp.stay _ e2 h1
  replace h2 := Rp.stay _ e2 h2
  replace h3 := Rp.stay _ e2 h3
  replace h4 := Rp.stay _ e2 h4
  replace ex := ex.trans e2
  have g_cd := (gd_way g_c g_d)
  refine s_set (σ2 := fun v => [some v0, some v1, some v2, some v3, some v4, some v5, some v]) (fun _ => rfl) (evp_call (E := E0) (evps_cons (evp_call (E := E0) (evps_cons (evp_var rfl h4) (evps_cons (evp_var rfl h2) evps_nil)) (cBeside.mk g_ab g_c (sm_of hS fun i => by simp only [badd, bmax, b0]; omega) (by omega))) (evps_cons (evp_w T.cl T.nW (evp_var rfl h3)) evps_nil)) (cTimesG.mk (gd_beside g_ab g_c) g_d.w (sm_of hS fun i => by simp only [badd, bmax, b0]; omega) (by omega))) fun v6 H3 e3 h6 => ?_
  replace h0 := Rp.stay _ e3 h0
  replace h1 := Rp.stay _ e3 h1
  replace h2 := Rp.stay _ e3 h2
  replace h3 := Rp.stay _ e3 h3
  replace h4 := Rp.stay _ e3 h4
  replace h5 := Rp.stay _ e3 h5
  replace ex := ex.trans e3
  have g_off := (gd_times (gd_beside g_ab g_c) g_d.w)
  exact s_retP (evp_lst (evps_cons (evp_call (E := E0) (evps_cons (evp_var rfl h6) (evps_cons (evp_var rfl h6) (evps_cons (evp_call (E := E0) (evps_cons (evp_var rfl h5) (evps_cons (evp_var rfl h5) evps_nil)) (cMatched.mk g_cd g_cd (sm_of hS fun i => by simp only [badd, bmax, b0]; omega) (by omega) rfl rfl)) (evps_cons (evp_call (E := E0) (evps_cons (evp_var rfl h4) (evps_cons (evp_var rfl h4) evps_nil)) (cMatched.mk g_ab.xy g_ab.xy (sm_of hS fun i => by simp only [badd, bmax, b0]; omega) (by omega) rfl rfl)) evps_nil)))) (cCross.mk g_off g_off (gd_matched g_cd g_cd) (gd_matched g_ab.xy g_ab.xy) (sm_of hS fun i => by simp only [badd, bmax, b0]; omega) (by omega))) evps_nil) (by show 1 ≤ 100; decide)) fun v H' e hv => q v H' (ex.trans e) hv
theorem sc_together : FnScope ["first", "other"] ["first", "other"] (defScope s_together) := ⟨rfl, rfl, rfl, by decide +kernel, rfl, by decide +kernel, by decide +kernel⟩
theorem good_together (d : Decl K mg "together" s_together) (g_crossed_products : Good P w K mg base "crossed_products" 3 ["f", "g", "h", "k"] (pf cCross)) (g_added_products : Good P w K mg base "added_products" 3 ["f", "g", "h", "k"] (pf cAdded)) : Good P w K mg base "together" 4 ["first", "other"] (pf cTogether) := by
  refine d.good sc_together (fun _ _ _ _ _ _ us hl => match us, hl with | [_, _], _ => rfl) (pf_len fun _ _ c => by cases c; rfl) fun f cdv A outer s H vs Q E hr h => ?_
  obtain ⟨Rs, R, c, ha, q⟩ := h
  cases c with
  | mk g_first g_other hS hn =>
  obtain ⟨v0, _, rfl, h0, v1, _, rfl, h1, rfl⟩ := ha
  have ex : Ex H H := Ex.refl H
  refine ⟨_, pss_one (ps_ret (pe_tup (pa_cons (pe_g g_crossed_products (hr.mono (by decide)) (by rfl) (pa_cons (pe_ix ix_tup (pv 0) pe_int (fun _ _ => rfl)) (pa_cons (pe_ix ix_tup (pv 1) pe_int (fun _ _ => rfl)) (pa_cons (pe_ix ix_tup (pv 0) pe_int (fun _ _ => rfl)) (pa_cons (pe_ix ix_tup (pv 1) pe_int (fun _ _ => rfl)) pa_nil))))) (pa_cons (pe_g g_added_products (hr.mono (by decide)) (by rfl) (pa_cons (pe_ix ix_tup (pv 0) pe_int (fun _ _ => rfl)) (pa_cons (pe_ix ix_tup (pv 1) pe_int (fun _ _ => rfl)) (pa_cons (pe_ix ix_tup (pv 0) pe_int (fun _ _ => rfl)) (pa_cons (pe_ix ix_tup (pv 1) pe_int (fun _ _ => rfl)) pa_nil))))) pa_nil)))), ?_⟩
  refine s_st (σ2 := [some v0, some v1]) rfl ?_
  exact s_retP (evp_tup (evps_cons (evp_call (E := E0) (evps_cons (evp_ixT (j := 0) (evp_var rfl h0) (evp_c rfl) rfl) (evps_cons (evp_ixT (j := 0) (evp_var rfl h1) (evp_c rfl) rfl) (evps_cons (evp_ixT (j := 1) (evp_var rfl h0) (evp_c rfl) rfl) (evps_cons (evp_ixT (j := 1) (evp_var rfl h1) (evp_c rfl) rfl) evps_nil)))) (cCross.mk g_first.l g_other.l g_first.r g_other.r (sm_of hS fun i => by simp only [badd, bmax, b0]; omega) (by omega))) (evps_cons (evp_call (E := E0) (evps_cons (evp_ixT (j := 0) (evp_var rfl h0) (evp_c rfl) rfl) (evps_cons (evp_ixT (j := 1) (evp_var rfl h1) (evp_c rfl) rfl) (evps_cons (evp_ixT (j := 1) (evp_var rfl h0) (evp_c rfl) rfl) (evps_cons (evp_ixT (j := 0) (evp_var rfl h1) (evp_c rfl) rfl) evps_nil)))) (cAdded.mk g_first.l g_other.r g_first.r g_other.l (sm_of hS fun i => by simp only [badd, bmax, b0]; omega) (by omega))) evps_nil)) (by show 2 ≤ 100; decide)) fun v H' e hv => q v H' (ex.trans e) hv
theorem sc_alike : FnScope ["a", "b", "c", "d", "e", "f", "first", "other", "ec", "fb"] ["a", "b", "c", "d", "e", "f"] (defScope s_alike) := ⟨rfl, rfl, rfl, by decide +kernel, rfl, by decide +kernel, by decide +kernel⟩
theorem good_alike (d : Decl K mg "alike" s_alike) (T : PtC K C) (g_together : Good P w K mg base "together" 4 ["first", "other"] (pf cTogether)) (g_way : Good P w K mg base "way" 4 ["a", "b"] (pf (cWay C))) (g_times : Good P w K mg base "times" 2 ["f", "g"] (pf cTimesG)) (g_crossed_products : Good P w K mg base "crossed_products" 3 ["f", "g", "h", "k"] (pf cCross)) : Good P w K mg base "alike" 5 ["a", "b", "c", "d", "e", "f"] (pf (cAlike C)) := by
  refine d.good sc_alike (fun _ _ _ _ _ _ us hl => match us, hl with | [_, _, _, _, _, _], _ => rfl) (pf_len fun _ _ c => by cases c; rfl) fun f cdv A outer s H vs Q E hr h => ?_
  obtain ⟨Rs, R, c, ha, q⟩ := h
  cases c with
  | mk g_a g_b g_c g_d g_e g_f hS hn =>
  obtain ⟨v0, _, rfl, h0, v1, _, rfl, h1, v2, _, rfl, h2, v3, _, rfl, h3, v4, _, rfl, h4, v5, _, rfl, h5, rfl⟩ := ha
  have ex : Ex H H := Ex.refl H
  refine ⟨_, pss_cons (ps_set (i := 6) sc_alike.nd rfl (.inl rfl) (pe_g g_together (hr.mono (by decide)) (by rfl) (pa_cons (pe_g g_way (hr.mono (by decide)) (by rfl) (pa_cons (pv 0) (pa_cons (pv 1) pa_nil))) (pa_cons (pe_g g_way (hr.mono (by decide)) (by rfl) (pa_cons (pv 3) (pa_cons (pv 5) pa_nil))) pa_nil)))) (pss_cons (ps_set (i := 7) sc_alike.nd rfl (.inl rfl) (pe_g g_together (hr.mono (by decide)) (by rfl) (pa_cons (pe_g g_way (hr.mono (by decide)) (by rfl) (pa_cons (pv 3) (pa_cons (pv 4) pa_nil))) (pa_cons (pe_g g_way (hr.mono (by decide)) (by rfl) (pa_cons (pv 0) (pa_cons (pv 2) pa_nil))) pa_nil)))) (pss_cons (ps_set (i := 8) sc_alike.nd rfl (.inl rfl) (pe_g g_times (hr.mono (by decide)) (by rfl) (pa_cons (pe_fld (pv 4) rfl) (pa_cons (pe_fld (pv 2) rfl) pa_nil)))) (pss_cons (ps_set (i := 9) sc_alike.nd rfl (.inl rfl) (pe_g g_times (hr.mono (by decide)) (by rfl) (pa_cons (pe_fld (pv 5) rfl) (pa_cons (pe_fld (pv 1) rfl) pa_nil)))) (pss_one (ps_ret (pe_lst (pa_cons (pe_g g_crossed_products (hr.mono (by decide)) (by rfl) (pa_cons (pe_ix ix_tup (pv 6) pe_int (fun _ _ => rfl)) (pa_cons (pv 8) (pa_cons (pe_ix ix_tup (pv 7) pe_int (fun _ _ => rfl)) (pa_cons (pv 9) pa_nil))))) (pa_cons (pe_g g_crossed_products (hr.mono (by decide)) (by rfl) (pa_cons (pe_ix ix_tup (pv 6) pe_int (fun _ _ => rfl)) (pa_cons (pv 8) (pa_cons (pe_ix ix_tup (pv 7) pe_int (fun _ _ => rfl)) (pa_cons (pv 9) pa_nil))))) pa_nil)))))))), ?_⟩
  refine s_st (σ2 := [some v0, some v1, some v2, some v3, some v4, some v5, none, none, none, none]) rfl ?_
  refine s_set (σ2 := fun v => [some v0, some v1, some v2, some v3, some v4, some v5, some v, none, none, none]) (fun _ => rfl) (evp_call (E := E0) (evps_cons (evp_call (E := E0) (evps_cons (evp_var rfl h0) (evps_cons (evp_var rfl h1) evps_nil)) (cWay.mk g_a g_b (sm_of hS fun i => by simp only [badd, bmax, b0]; omega) (by omega))) (evps_cons (evp_call (E := E0) (evps_cons (evp_var rfl h3) (evps_cons (evp_var rfl h5) evps_nil)) (cWay.mk g_d g_f (sm_of hS fun i => by simp only [badd, bmax, b0]; omega) (by omega))) evps_nil)) (cTogether.mk (gd_way g_a g_b) (gd_way g_d g_f) (sm_of hS fun i => by simp only [badd, bmax, b0]; omega) (by omega))) fun v6 H1 e1 h6 => ?_
  replace h0 := Rp.stay _ e1 h0
  replace h1 := Rp.stay _ e1 h1
  replace h2 := Rp.stay _ e1 h2
  replace h3 := Rp.stay _ e1 h3
  replace h4 := Rp.stay _ e1 h4
  replace h5 := Rp.stay _ e1 h5
  replace ex := ex.trans e1
  have g_first := (gd_together (gd_way g_a g_b) (gd_way g_d g_f))
  refine s_set (σ2 := fun v => [some v0, some v1, some v2, some v3, some v4, some v5, some v6, some v, none, none]) (fun _ => rfl) (evp_call (E := E0) (evps_cons (evp_call (E := E0) (evps_cons (evp_var rfl h3) (evps_cons (evp_var rfl h4) evps_nil)) (cWay.mk g_d g_e (sm_of hS fun i => by simp only [badd, bmax, b0]; omega) (by omega))) (evps_cons (evp_call (E := E0) (evps_cons (evp_var rfl h0) (evps_cons (evp_var rfl h2) evps_nil)) (cWay.mk g_a g_c (sm_of hS fun i => by simp only [badd, bmax, b0]; omega) (by omega))) evps_nil)) (cTogether.mk (gd_way g_d g_e) (gd_way g_a g_c) (sm_of hS fun i => by simp only [badd, bmax, b0]; omega) (by omega))) fun v7 H2 e2 h7 => ?_
  replace h0 := Rp.stay _ e2 h0
  replace h1 := Rp.stay _ e2 h1
  replace h2 := Rp.stay _ e2 h2
  replace h3 := Rp.stay _ e2 h3
  replace h4 := Rp.stay _ e2 h4
  replace h5 := Rp.stay _ e2 h5
  replace h6 := Rp.stay _ e2 h6
  replace ex := ex.trans e2
  have g_other := (gd_together (gd_way g_d g_e) (gd_way g_a g_c))
  refine s_set (σ2 := fun v => [some v0, some v1, some v2, some v3, some v4, some v5, some v6, some v7, some v, none]) (fun _ => rfl) (evp_call (E := E0) (evps_cons (evp_w T.cl T.nW (evp_var rfl h4)) (evps_cons (evp_w T.cl T.nW (evp_var rfl h2)) evps_nil)) (cTimesG.mk g_e.w g_c.w (sm_of hS fun i => by simp only [badd, bmax, b0]; omega) (by omega))) fun v8 H3 e3 h8 => ?_
  replace h0 := Rp.stay _ e3 h0
  replace h1 := Rp.stay _ e3 h1
  replace h2 := Rp.stay _ e3 h2
  replace h3 := Rp.stay _ e3 h3
  replace h4 := Rp.stay _ e3 h4
  replace h5 := Rp.stay _ e3 h5
  replace h6 := Rp.stay _ e3 h6
  replace h7 := Rp.stay _ e3 h7
  replace ex := ex.trans e3
  have g_ec := (gd_times g_e.w g_c.w)
  refine s_set (σ2 := fun v => [some v0, some v1, some v2, some v3, some v4, some v5, some v6, some v7, some v8, some v]) (fun _ => rfl) (evp_call (E := E0) (evps_cons (evp_w T.cl T.nW (evp_var rfl h5)) (evps_cons (evp_w T.cl T.nW (evp_var rfl h1)) evps_nil)) (cTimesG.mk g_f.w g_b.w (sm_of hS fun i => by simp only [badd, bmax, b0]; omega) (by omega))) fun v9 H4 e4 h9 => ?_
  replace h0 := Rp.stay _ e4 h0
  replace h1 := Rp.stay _ e4 h1
  replace h2 := Rp.stay _ e4 h2
  replace h3 := Rp.stay _ e4 h3
  replace h4 := Rp.stay _ e4 h4
  replace h5 := Rp.stay _ e4 h5
  replace h6 := Rp.stay _ e4 h6
  replace h7 := Rp.stay _ e4 h7
  replace h8 := Rp.stay _ e4 h8
  replace ex := ex.trans e4
  have g_fb := (gd_times g_f.w g_b.w)
  exact s_retP (evp_lst (evps_cons (evp_call (E := E0) (evps_cons (evp_ixT (j := 0) (evp_var rfl h6) (evp_c rfl) rfl) (evps_cons (evp_var rfl h8) (evps_cons (evp_ixT (j := 0) (evp_var rfl h7) (evp_c rfl) rfl) (evps_cons (evp_var rfl h9) evps_nil)))) (cCross.mk g_first.l g_ec g_other.l g_fb (sm_of hS fun i => by simp only [badd, bmax, b0]; omega) (by omega))) (evps_cons (evp_call (E := E0) (evps_cons (evp_ixT (j := 1) (evp_var rfl h6) (evp_c rfl) rfl) (evps_cons (evp_var rfl h8) (evps_cons (evp_ixT (j := 1) (evp_var rfl h7) (evp_c rfl) rfl) (evps_cons (evp_var rfl h9) evps_nil)))) (cCross.mk g_first.r g_ec g_other.r g_fb (sm_of hS fun i => by simp only [badd, bmax, b0]; omega) (by omega))) evps_nil)) (by show 2 ≤ 100; decide)) fun v H' e hv => q v H' (ex.trans e) hv
end
end Ds
end
section
set_option Elab.async false
set_option linter.all false
set_option maxRecDepth 100000
set_option maxHeartbeats 2000000
namespace Ds
open PySem PySem.Spec PyProof.Rows L2 Su
open Evl (Ex EvT)
open Kh374 (Tri)
/-! ### Tests -/
section
variable {K : PySem.W.Frag} {σ : L2.St} {H : Hp} {te tf : TE} {ta : TA}
theorem evt_eq {i j : Int} (h1 : EvP te σ H (rInt i)) (h2 : EvP tf σ H (rInt j)) : EvT (tTest (tOp rEq te tf)) σ H (decide (i = j)) := fun H1 e Q q =>
  h1 H1 e _ fun x H2 e2 hx => h2 H2 (e.trans e2) _ fun y H3 e3 hy => by
    have hx : x = .int i := hx
    have hy : y = .int j := hy
    subst hx hy
    refine ⟨rfl, decide (i = j), ?_, q H3 (e2.trans e3)⟩
    by_cases z : i = j
    · rw [decide_eq_true z, decide_eq_true (congrArg V.int z)]
    · rw [decide_eq_false z, decide_eq_false fun y => z (V.int.inj y)]
theorem evp_eq {i j : Int} (h1 : EvP te σ H (rInt i)) (h2 : EvP tf σ H (rInt j)) : EvP (tOp rEq te tf) σ H (rV (.bl (decide (i = j)))) := fun H1 e Q q =>
  h1 H1 e _ fun x H2 e2 hx => h2 H2 (e.trans e2) _ fun y H3 e3 hy => by
    have hx : x = .int i := hx
    have hy : y = .int j := hy
    subst hx hy
    refine ⟨rfl, q _ H3 (e2.trans e3) ?_⟩
    show V.bl _ = V.bl _
    by_cases z : i = j
    · rw [decide_eq_true z, decide_eq_true (congrArg V.int z)]
    · rw [decide_eq_false z, decide_eq_false fun y => z (V.int.inj y)]
def inB (i : Int) (l : List Int) : Bool := inV (.int i) (l.map V.int)
theorem all2_ints {H : Hp} : ∀ {l : List Int} {vs : List V}, All2 (l.map fun i => rInt i) vs H → vs = l.map V.int
  | [], _, h => h
  | i :: l, vs, ⟨v, r, h1, h2, h3⟩ => by
    rw [h1, show v = .int i from h2, all2_ints h3]
    rfl
theorem evt_in {i : Int} {l : List Int} (h1 : EvP te σ H (rInt i)) (h2 : EvPs ta σ H (l.map fun i => rInt i)) (hz : l.length ≤ 100) : EvT (tTest (tOp (rIn K false) te (tTup ta))) σ H (inB i l) := fun H1 e Q q =>
  h1 H1 e _ fun x H2 e2 hx => h2 H2 (e.trans e2) _ fun vs H3 e3 hv => by
    have hx : x = .int i := hx
    have hv := all2_ints hv
    subst hx hv
    refine ⟨Nat.le_trans (by rw [List.length_map]; exact hz) (by decide : 100 ≤ sizeLine), fun p np => ?_⟩
    refine ⟨p, _, rfl, .inr (.inl (.inl upd_same)), rfl, ?_, _, rfl, q _ (e2.trans (e3.trans (Ex.new np)))⟩
    rw [List.all_map, List.all_eq_true]
    intro y _
    rfl
/-- if t: return ..; then the rest -/
theorem s_ifR {t : TT} {b : Bool} {tu u : TS} {D : Ends} (h : EvT t σ H b) (h1 : b = true → ∀ H1, Ex H H1 → tu { D with nx := u D } σ H1) (h2 : b = false → ∀ H1, Ex H H1 → u D σ H1) : tSeq (tIfS t tu tNext) u D σ H := Evl.s_if h h1 h2
end
section
variable {P : Program} {w : World} {K : PySem.W.Frag} {mg : Str → Option Value} {base : Heap} {C : Addr}
/-- a whole number of the top -/
def IntC (mg : Str → Option Value) (x : Str) (i : Int) : Prop := ∃ t, mg x = some (.int i t)
theorem pe_ic {X : Cx} {x : Str} {i : Int} {pos : Pos} (h : IntC X.mg x i) (hg : Gl X x) (hd : (x == ("__debug__" : Str)) = false := by decide) : PE X (.Name x pos) (tC (.int i)) := by
  obtain ⟨t, ht⟩ := h
  exact pe_glob hg ht ⟨_, rfl⟩ hd
/-! ### constant, letter, is_nought -/
theorem sc_constant : FnScope ["number"] ["number"] (defScope s_constant) := ⟨rfl, rfl, rfl, by decide +kernel, rfl, by decide +kernel, by decide +kernel⟩
theorem good_constant (d : Decl K mg "constant" s_constant) : Good P w K mg base "constant" 1 ["number"] (pf cConst) := by
  refine d.good sc_constant (fun _ _ _ _ _ _ us hl => match us, hl with | [_], _ => rfl) (pf_len fun _ _ c => by cases c; rfl) fun f cdv A outer s H vs Q E hr h => ?_
  obtain ⟨Rs, R, c, ha, q⟩ := h
  cases c with
  | mk c =>
  obtain ⟨_, _, rfl, rfl, rfl⟩ := ha
  refine ⟨_, pss_cons (ps_if (pt_cmpR op_eq (pv 0) pe_int (nomark _)) (pss_one (ps_ret pe_dnewK)) pss_nil)
    (pss_one (ps_ret (pe_disp (pps_cons pe_int (pv 0) pps_nil) (by rfl) (by rfl) (fun z => by cases z) (by decide)))), ?_⟩
  refine s_st (σ2 := [some (.int c)]) rfl ?_
  refine s_ifR (evt_eq (evp_var rfl rfl) (evp_c rfl)) (fun e H1 e1 => ?_) fun e H1 e1 => ?_
  · intro p np
    have e0 : c = 0 := of_decide_eq_true e
    refine q _ _ (e1.trans (Ex.new np)) ⟨p, rfl, ?_⟩
    rw [upd_same, e0]
    rfl
  · intro p np
    have e0 : ¬ c = 0 := of_decide_eq_false e
    refine ⟨_, rfl, upd_same, [(Sum.inl 0, .int c)], rfl, by show 1 ≤ 15; decide, ?_⟩
    refine q _ _ (e1.trans (Ex.mut (Ex.new np) np)) ⟨p, rfl, ?_⟩
    rw [upd_same]
    show some (HO.dK [(Sum.inl 0, V.int c)]) = some (HO.dK (ed (mConst c)))
    unfold mConst
    rw [if_neg e0]
    rfl
def mLet (i : Nat) : Raw := [(pk ((List.range 4).map fun j => if j = i then 1 else 0), 1)]
theorem places_at {i : Nat} (h : i < 4) : placesL[i]? = some (pk ((List.range 4).map fun j => if j = i then 1 else 0)) := by
  match i, h with
  | 0, _ => simp [placesL, pk, List.range_succ]
  | 1, _ => simp [placesL, pk, List.range_succ]
  | 2, _ => simp [placesL, pk, List.range_succ]
  | 3, _ => simp [placesL, pk, List.range_succ]
inductive cLetter : List Rp → Rp → Prop
  | mk (i : Nat) : i < 4 → cLetter [rInt i] (rD (mLet i))
/-- a tuple of whole numbers of the top -/
def TupC (K : PySem.W.Frag) (mg : Str → Option Value) (x : Str) (l : List Int) : Prop := ∃ a, mg x = some (.ref a) ∧ ∀ H, SqT K H a (l.map V.int)
theorem sc_letter : FnScope ["index"] ["index"] (defScope s_letter) := ⟨rfl, rfl, rfl, by decide +kernel, rfl, by decide +kernel, by decide +kernel⟩
theorem good_letter (d : Decl K mg "letter" s_letter) (tp : TupC K mg "PLACES" placesL) : Good P w K mg base "letter" 1 ["index"] (pf cLetter) := by
  refine d.good sc_letter (fun _ _ _ _ _ _ us hl => match us, hl with | [_], _ => rfl) (pf_len fun _ _ c => by cases c; rfl) fun f cdv A outer s H vs Q E hr h => ?_
  obtain ⟨Rs, R, c, ha, q⟩ := h
  obtain ⟨aP, mP, tP⟩ := tp
  cases c with
  | mk i hi =>
  obtain ⟨_, _, rfl, rfl, rfl⟩ := ha
  refine ⟨_, pss_one (ps_ret (pe_disp (pps_cons (pe_ix ix_tup (pe_glob (v := .ref aP) rfl mP rfl) (pv 0) (fun _ _ => rfl)) pe_int pps_nil) (by rfl) (by rfl) (fun z => by cases z) (by decide))), ?_⟩
  intro p np
  have hx : (placesL.map V.int)[i]? = some (.int (pk ((List.range 4).map fun j => if j = i then 1 else 0))) := by
    rw [List.getElem?_map, places_at hi]
    rfl
  refine ⟨_, rfl, aP, _, i, _, rfl, rfl, tP _, atI_nat hx, upd_same, [(Sum.inl (pk ((List.range 4).map fun j => if j = i then 1 else 0)), .int 1)], rfl, by show 1 ≤ 15; decide, ?_⟩
  refine q _ _ (Ex.mut (Ex.new np) np) ⟨p, rfl, ?_⟩
  rw [upd_same]
  rfl
inductive cNought : List Rp → Rp → Prop
  | mk (d : Raw) : cNought [rD d] (rV (.bl (decide (d = []))))
theorem sc_is_nought : FnScope ["f"] ["f"] (defScope s_is_nought) := ⟨rfl, rfl, rfl, by decide +kernel, rfl, by decide +kernel, by decide +kernel⟩
theorem good_is_nought (d : Decl K mg "is_nought" s_is_nought) (ml : mg "len" = none) : Good P w K mg base "is_nought" 1 ["f"] (pf cNought) := by
  refine d.good sc_is_nought (fun _ _ _ _ _ _ us hl => match us, hl with | [_], _ => rfl) (pf_len fun _ _ c => by cases c; rfl) fun f cdv A outer s H vs Q E hr h => ?_
  obtain ⟨Rs, R, c, ha, q⟩ := h
  cases c with
  | mk d =>
  obtain ⟨_, _, rfl, ⟨p, rfl, hp⟩, rfl⟩ := ha
  refine ⟨_, pss_one (ps_ret (pe_cmpR op_eq (pe_callB call_lenD (by rfl) ml PySem.boot_len (pa_cons (pv 0) pa_nil)) pe_int (nomark _))), ?_⟩
  refine ⟨_, rfl, p, ed d, rfl, hp, rfl, q _ _ (Ex.refl _) ?_⟩
  show V.bl _ = V.bl _
  rw [ed_len]
  cases d with
  | nil => rfl
  | cons t r =>
    rw [decide_eq_false (show ¬ (t :: r) = [] from fun z => by cases z), decide_eq_false (show ¬ V.int ((t :: r).length : Int) = V.int 0 from fun z => by
      have := V.int.inj z
      rw [List.length_cons] at this
      omega)]
/-! ### fixed, free, and the choice among the steps -/
theorem sc_fixed : FnScope ["m", "n"] ["m", "n"] (defScope s_fixed) := ⟨rfl, rfl, rfl, by decide +kernel, rfl, by decide +kernel, by decide +kernel⟩
theorem good_fixed (d : Decl K mg "fixed" s_fixed) (g_constant : Good P w K mg base "constant" 1 ["number"] (pf cConst)) : Good P w K mg base "fixed" 2 ["m", "n"] (pf cFixed) := by
  refine d.good sc_fixed (fun _ _ _ _ _ _ us hl => match us, hl with | [_, _], _ => rfl) (pf_len fun _ _ c => by cases c; rfl) fun f cdv A outer s H vs Q E hr h => ?_
  obtain ⟨Rs, R, c, ha, q⟩ := h
  cases c with
  | mk =>
  obtain ⟨v0, _, rfl, h0, v1, _, rfl, h1, rfl⟩ := ha
  refine ⟨_, pss_one (ps_ret (pe_tup (pa_cons (pv 0) (pa_cons (pv 1) (pa_cons (pe_g g_constant hr (by rfl) (pa_cons pe_int pa_nil)) pa_nil))))), ?_⟩
  refine s_st (σ2 := [some v0, some v1]) rfl ?_
  exact s_retP (evp_tup (evps_cons (evp_var rfl h0) (evps_cons (evp_var rfl h1) (evps_cons (evp_call (E := E0) (evps_cons (evp_c rfl) evps_nil) (cConst.mk 1)) evps_nil))) (by show 3 ≤ 100; decide)) q
theorem sc_free : FnScope ["s", "t"] ["s", "t"] (defScope s_free) := ⟨rfl, rfl, rfl, by decide +kernel, rfl, by decide +kernel, by decide +kernel⟩
theorem good_free (d : Decl K mg "free" s_free) (g_constant : Good P w K mg base "constant" 1 ["number"] (pf cConst)) : Good P w K mg base "free" 2 ["s", "t"] (pf cFixed) := by
  refine d.good sc_free (fun _ _ _ _ _ _ us hl => match us, hl with | [_, _], _ => rfl) (pf_len fun _ _ c => by cases c; rfl) fun f cdv A outer s H vs Q E hr h => ?_
  obtain ⟨Rs, R, c, ha, q⟩ := h
  cases c with
  | mk =>
  obtain ⟨v0, _, rfl, h0, v1, _, rfl, h1, rfl⟩ := ha
  refine ⟨_, pss_one (ps_ret (pe_tup (pa_cons (pv 0) (pa_cons (pv 1) (pa_cons (pe_g g_constant hr (by rfl) (pa_cons pe_int pa_nil)) pa_nil))))), ?_⟩
  refine s_st (σ2 := [some v0, some v1]) rfl ?_
  exact s_retP (evp_tup (evps_cons (evp_var rfl h0) (evps_cons (evp_var rfl h1) (evps_cons (evp_call (E := E0) (evps_cons (evp_c rfl) evps_nil) (cConst.mk 1)) evps_nil))) (by show 3 ≤ 100; decide)) q
inductive cNoPts (C : Addr) : List Rp → Rp → Prop
  | fixed_ {Rs : List Rp} {R : Rp} : cFixed Rs R → cNoPts C [rInt 0, rLst Rs] R
  | free_ {Rs : List Rp} {R : Rp} : cFixed Rs R → cNoPts C [rInt 1, rLst Rs] R
theorem sc_without_points : FnScope ["kind", "told"] ["kind", "told"] (defScope s_without_points) := ⟨rfl, rfl, rfl, by decide +kernel, rfl, by decide +kernel, by decide +kernel⟩
theorem good_without_points (d : Decl K mg "without_points" s_without_points) (iFIXED : IntC mg "FIXED" 0) (g_fixed : Good P w K mg base "fixed" 2 ["m", "n"] (pf cFixed)) (g_free : Good P w K mg base "free" 2 ["s", "t"] (pf cFixed)) : Good P w K mg base "without_points" 3 ["kind", "told"] (pf (cNoPts C)) := by
  refine d.good sc_without_points (fun _ _ _ _ _ _ us hl => match us, hl with | [_, _], _ => rfl) (pf_len fun _ _ c => by cases c <;> rfl) fun f cdv A outer s H vs Q E hr h => ?_
  obtain ⟨Rs, R, c, ha, q⟩ := h
  refine ⟨_, pss_cons (ps_if (pt_cmpR op_eq (pv 0) (pe_ic iFIXED (by rfl)) (nomark _)) (pss_one (ps_ret (pe_g g_fixed (hr.mono (by decide)) (by rfl) (pa_cons (pe_ix ix_list (pv 1) pe_int (fun _ _ => rfl)) (pa_cons (pe_ix ix_list (pv 1) pe_int (fun _ _ => rfl)) pa_nil))))) pss_nil) (pss_one (ps_ret (pe_g g_free (hr.mono (by decide)) (by rfl) (pa_cons (pe_ix ix_list (pv 1) pe_int (fun _ _ => rfl)) (pa_cons (pe_ix ix_list (pv 1) pe_int (fun _ _ => rfl)) pa_nil))))), ?_⟩
  cases c with
  | fixed_ c =>
    obtain ⟨_, _, rfl, rfl, v1, _, rfl, h1, rfl⟩ := ha
    refine s_st (σ2 := [some (.int 0), some v1]) rfl ?_
    have ex : Ex H H := Ex.refl H
    refine s_ifR (evt_eq (evp_var rfl rfl) (evp_c rfl)) (fun _ H1 e1 => ?_) (fun z => absurd z (by decide))
    replace h1 := Rp.stay _ e1 h1
    replace ex := ex.trans e1
    have hc := c
    cases hc
    exact s_retP (evp_call (E := E0) (evps_cons (evp_ixL (j := 0) (evp_var rfl h1) (evp_c rfl) rfl) (evps_cons (evp_ixL (j := 1) (evp_var rfl h1) (evp_c rfl) rfl) evps_nil)) c) fun v H' e hv => q v H' (ex.trans e) hv
  | free_ c =>
    obtain ⟨_, _, rfl, rfl, v1, _, rfl, h1, rfl⟩ := ha
    refine s_st (σ2 := [some (.int 1), some v1]) rfl ?_
    have ex : Ex H H := Ex.refl H
    refine s_ifR (evt_eq (evp_var rfl rfl) (evp_c rfl)) (fun z => absurd z (by decide)) fun _ H1 e1 => ?_
    replace h1 := Rp.stay _ e1 h1
    replace ex := ex.trans e1
    have hc := c
    cases hc
    exact s_retP (evp_call (E := E0) (evps_cons (evp_ixL (j := 0) (evp_var rfl h1) (evp_c rfl) rfl) (evps_cons (evp_ixL (j := 1) (evp_var rfl h1) (evp_c rfl) rfl) evps_nil)) c) fun v H' e hv => q v H' (ex.trans e) hv
inductive cTwo (C : Addr) : List Rp → Rp → Prop
  | on_ {Rs : List Rp} {R : Rp} : cOn C Rs R → cTwo C [rInt 2, rLst Rs] R
  | part_ {Rs : List Rp} {R : Rp} : cPart C Rs R → cTwo C [rInt 3, rLst Rs] R
  | turn_ {Rs : List Rp} {R : Rp} : cTurn C Rs R → cTwo C [rInt 8, rLst Rs] R
  | round_about_ {Rs : List Rp} {R : Rp} : cRound C Rs R → cTwo C [rInt 11, rLst Rs] R
theorem sc_from_two : FnScope ["kind", "told"] ["kind", "told"] (defScope s_from_two) := ⟨rfl, rfl, rfl, by decide +kernel, rfl, by decide +kernel, by decide +kernel⟩
theorem good_from_two (d : Decl K mg "from_two" s_from_two) (iON : IntC mg "ON" 2) (iPART : IntC mg "PART" 3) (iTURN : IntC mg "TURN" 8) (g_on : Good P w K mg base "on" 6 ["a", "b", "s"] (pf (cOn C))) (g_part : Good P w K mg base "part" 5 ["a", "b", "m", "n"] (pf (cPart C))) (g_turn : Good P w K mg base "turn" 5 ["a", "b"] (pf (cTurn C))) (g_round_about : Good P w K mg base "round_about" 5 ["o", "a", "s"] (pf (cRound C))) : Good P w K mg base "from_two" 7 ["kind", "told"] (pf (cTwo C)) := by
  refine d.good sc_from_two (fun _ _ _ _ _ _ us hl => match us, hl with | [_, _], _ => rfl) (pf_len fun _ _ c => by cases c <;> rfl) fun f cdv A outer s H vs Q E hr h => ?_
  obtain ⟨Rs, R, c, ha, q⟩ := h
  refine ⟨_, pss_cons (ps_if (pt_cmpR op_eq (pv 0) (pe_ic iON (by rfl)) (nomark _)) (pss_one (ps_ret (pe_g g_on (hr.mono (by decide)) (by rfl) (pa_cons (pe_ix ix_list (pv 1) pe_int (fun _ _ => rfl)) (pa_cons (pe_ix ix_list (pv 1) pe_int (fun _ _ => rfl)) (pa_cons (pe_ix ix_list (pv 1) pe_int (fun _ _ => rfl)) pa_nil)))))) pss_nil) (pss_cons (ps_if (pt_cmpR op_eq (pv 0) (pe_ic iPART (by rfl)) (nomark _)) (pss_one (ps_ret (pe_g g_part (hr.mono (by decide)) (by rfl) (pa_cons (pe_ix ix_list (pv 1) pe_int (fun _ _ => rfl)) (pa_cons (pe_ix ix_list (pv 1) pe_int (fun _ _ => rfl)) (pa_cons (pe_ix ix_list (pv 1) pe_int (fun _ _ => rfl)) (pa_cons (pe_ix ix_list (pv 1) pe_int (fun _ _ => rfl)) pa_nil))))))) pss_nil) (pss_cons (ps_if (pt_cmpR op_eq (pv 0) (pe_ic iTURN (by rfl)) (nomark _)) (pss_one (ps_ret (pe_g g_turn (hr.mono (by decide)) (by rfl) (pa_cons (pe_ix ix_list (pv 1) pe_int (fun _ _ => rfl)) (pa_cons (pe_ix ix_list (pv 1) pe_int (fun _ _ => rfl)) pa_nil))))) pss_nil) (pss_one (ps_ret (pe_g g_round_about (hr.mono (by decide)) (by rfl) (pa_cons (pe_ix ix_list (pv 1) pe_int (fun _ _ => rfl)) (pa_cons (pe_ix ix_list (pv 1) pe_int (fun _ _ => rfl)) (pa_cons (pe_ix ix_list (pv 1) pe_int (fun _ _ => rfl)) pa_nil)))))))), ?_⟩
  cases c with
  | on_ c =>
    obtain ⟨_, _, rfl, rfl, v1, _, rfl, h1, rfl⟩ := ha
    refine s_st (σ2 := [some (.int 2), some v1]) rfl ?_
    have ex : Ex H H := Ex.refl H
    refine s_ifR (evt_eq (evp_var rfl rfl) (evp_c rfl)) (fun _ H1 e1 => ?_) (fun z => absurd z (by decide))
    replace h1 := Rp.stay _ e1 h1
    replace ex := ex.trans e1
    have hc := c
    cases hc
    exact s_retP (evp_call (E := E0) (evps_cons (evp_ixL (j := 0) (evp_var rfl h1) (evp_c rfl) rfl) (evps_cons (evp_ixL (j := 1) (evp_var rfl h1) (evp_c rfl) rfl) (evps_cons (evp_ixL (j := 2) (evp_var rfl h1) (evp_c rfl) rfl) evps_nil))) c) fun v H' e hv => q v H' (ex.trans e) hv
  | part_ c =>
    obtain ⟨_, _, rfl, rfl, v1, _, rfl, h1, rfl⟩ := ha
    refine s_st (σ2 := [some (.int 3), some v1]) rfl ?_
    have ex : Ex H H := Ex.refl H
    refine s_ifR (evt_eq (evp_var rfl rfl) (evp_c rfl)) (fun z => absurd z (by decide)) fun _ H1 e1 => ?_
    replace h1 := Rp.stay _ e1 h1
    replace ex := ex.trans e1
    refine s_ifR (evt_eq (evp_var rfl rfl) (evp_c rfl)) (fun _ H1 e1 => ?_) (fun z => absurd z (by decide))
    replace h1 := Rp.stay _ e1 h1
    replace ex := ex.trans e1
    have hc := c
    cases hc
    exact s_retP (evp_call (E := E0) (evps_cons (evp_ixL (j := 0) (evp_var rfl h1) (evp_c rfl) rfl) (evps_cons (evp_ixL (j := 1) (evp_var rfl h1) (evp_c rfl) rfl) (evps_cons (evp_ixL (j := 2) (evp_var rfl h1) (evp_c rfl) rfl) (evps_cons (evp_ixL (j := 3) (evp_var rfl h1) (evp_c rfl) rfl) evps_nil)))) c) fun v H' e hv => q v H' (ex.trans e) hv
  | turn_ c =>
    obtain ⟨_, _, rfl, rfl, v1, _, rfl, h1, rfl⟩ := ha
    refine s_st (σ2 := [some (.int 8), some v1]) rfl ?_
    have ex : Ex H H := Ex.refl H
    refine s_ifR (evt_eq (evp_var rfl rfl) (evp_c rfl)) (fun z => absurd z (by decide)) fun _ H1 e1 => ?_
    replace h1 := Rp.stay _ e1 h1
    replace ex := ex.trans e1
    refine s_ifR (evt_eq (evp_var rfl rfl) (evp_c rfl)) (fun z => absurd z (by decide)) fun _ H1 e1 => ?_
    replace h1 := Rp.stay _ e1 h1
    replace ex := ex.trans e1
    refine s_ifR (evt_eq (evp_var rfl rfl) (evp_c rfl)) (fun _ H1 e1 => ?_) (fun z => absurd z (by decide))
    replace h1 := Rp.stay _ e1 h1
    replace ex := ex.trans e1
    have hc := c
    cases hc
    exact s_retP (evp_call (E := E0) (evps_cons (evp_ixL (j := 0) (evp_var rfl h1) (evp_c rfl) rfl) (evps_cons (evp_ixL (j := 1) (evp_var rfl h1) (evp_c rfl) rfl) evps_nil)) c) fun v H' e hv => q v H' (ex.trans e) hv
  | round_about_ c =>
    obtain ⟨_, _, rfl, rfl, v1, _, rfl, h1, rfl⟩ := ha
    refine s_st (σ2 := [some (.int 11), some v1]) rfl ?_
    have ex : Ex H H := Ex.refl H
    refine s_ifR (evt_eq (evp_var rfl rfl) (evp_c rfl)) (fun z => absurd z (by decide)) fun _ H1 e1 => ?_
    replace h1 := Rp.stay _ e1 h1
    replace ex := ex.trans e1
    refine s_ifR (evt_eq (evp_var rfl rfl) (evp_c rfl)) (fun z => absurd z (by decide)) fun _ H1 e1 => ?_
    replace h1 := Rp.stay _ e1 h1
    replace ex := ex.trans e1
    refine s_ifR (evt_eq (evp_var rfl rfl) (evp_c rfl)) (fun z => absurd z (by decide)) fun _ H1 e1 => ?_
    replace h1 := Rp.stay _ e1 h1
    replace ex := ex.trans e1
    have hc := c
    cases hc
    exact s_retP (evp_call (E := E0) (evps_cons (evp_ixL (j := 0) (evp_var rfl h1) (evp_c rfl) rfl) (evps_cons (evp_ixL (j := 1) (evp_var rfl h1) (evp_c rfl) rfl) (evps_cons (evp_ixL (j := 2) (evp_var rfl h1) (evp_c rfl) rfl) evps_nil))) c) fun v H' e hv => q v H' (ex.trans e) hv
inductive cThree (C : Addr) : List Rp → Rp → Prop
  | along_ {Rs : List Rp} {R : Rp} : cAlong C Rs R → cThree C [rInt 4, rLst Rs] R
  | foot_ {Rs : List Rp} {R : Rp} : cFoot C Rs R → cThree C [rInt 6, rLst Rs] R
  | mirror_ {Rs : List Rp} {R : Rp} : cMirror C Rs R → cThree C [rInt 7, rLst Rs] R
  | centre_ {Rs : List Rp} {R : Rp} : cCentre C Rs R → cThree C [rInt 9, rLst Rs] R
  | second_ {Rs : List Rp} {R : Rp} : cSecond C Rs R → cThree C [rInt 10, rLst Rs] R
  | inverse_ {Rs : List Rp} {R : Rp} : cInverse C Rs R → cThree C [rInt 12, rLst Rs] R
theorem sc_from_three : FnScope ["kind", "told"] ["kind", "told"] (defScope s_from_three) := ⟨rfl, rfl, rfl, by decide +kernel, rfl, by decide +kernel, by decide +kernel⟩
theorem good_from_three (d : Decl K mg "from_three" s_from_three) (iALONG : IntC mg "ALONG" 4) (iFOOT : IntC mg "FOOT" 6) (iMIRROR : IntC mg "MIRROR" 7) (iCENTRE : IntC mg "CENTRE" 9) (iSECOND : IntC mg "SECOND" 10) (g_along : Good P w K mg base "along" 5 ["a", "b", "c"] (pf (cAlong C))) (g_foot : Good P w K mg base "foot" 6 ["c", "a", "b"] (pf (cFoot C))) (g_mirror : Good P w K mg base "mirror" 6 ["c", "a", "b"] (pf (cMirror C))) (g_centre : Good P w K mg base "centre" 6 ["a", "b", "c"] (pf (cCentre C))) (g_second : Good P w K mg base "second" 5 ["a", "b", "o"] (pf (cSecond C))) (g_inverse : Good P w K mg base "inverse" 5 ["o", "a", "p"] (pf (cInverse C))) : Good P w K mg base "from_three" 7 ["kind", "told"] (pf (cThree C)) := by
  refine d.good sc_from_three (fun _ _ _ _ _ _ us hl => match us, hl with | [_, _], _ => rfl) (pf_len fun _ _ c => by cases c <;> rfl) fun f cdv A outer s H vs Q E hr h => ?_
  obtain ⟨Rs, R, c, ha, q⟩ := h
  refine ⟨_, pss_cons (ps_if (pt_cmpR op_eq (pv 0) (pe_ic iALONG (by rfl)) (nomark _)) (pss_one (ps_ret (pe_g g_along (hr.mono (by decide)) (by rfl) (pa_cons (pe_ix ix_list (pv 1) pe_int (fun _ _ => rfl)) (pa_cons (pe_ix ix_list (pv 1) pe_int (fun _ _ => rfl)) (pa_cons (pe_ix ix_list (pv 1) pe_int (fun _ _ => rfl)) pa_nil)))))) pss_nil) (pss_cons (ps_if (pt_cmpR op_eq (pv 0) (pe_ic iFOOT (by rfl)) (nomark _)) (pss_one (ps_ret (pe_g g_foot (hr.mono (by decide)) (by rfl) (pa_cons (pe_ix ix_list (pv 1) pe_int (fun _ _ => rfl)) (pa_cons (pe_ix ix_list (pv 1) pe_int (fun _ _ => rfl)) (pa_cons (pe_ix ix_list (pv 1) pe_int (fun _ _ => rfl)) pa_nil)))))) pss_nil) (pss_cons (ps_if (pt_cmpR op_eq (pv 0) (pe_ic iMIRROR (by rfl)) (nomark _)) (pss_one (ps_ret (pe_g g_mirror (hr.mono (by decide)) (by rfl) (pa_cons (pe_ix ix_list (pv 1) pe_int (fun _ _ => rfl)) (pa_cons (pe_ix ix_list (pv 1) pe_int (fun _ _ => rfl)) (pa_cons (pe_ix ix_list (pv 1) pe_int (fun _ _ => rfl)) pa_nil)))))) pss_nil) (pss_cons (ps_if (pt_cmpR op_eq (pv 0) (pe_ic iCENTRE (by rfl)) (nomark _)) (pss_one (ps_ret (pe_g g_centre (hr.mono (by decide)) (by rfl) (pa_cons (pe_ix ix_list (pv 1) pe_int (fun _ _ => rfl)) (pa_cons (pe_ix ix_list (pv 1) pe_int (fun _ _ => rfl)) (pa_cons (pe_ix ix_list (pv 1) pe_int (fun _ _ => rfl)) pa_nil)))))) pss_nil) (pss_cons (ps_if (pt_cmpR op_eq (pv 0) (pe_ic iSECOND (by rfl)) (nomark _)) (pss_one (ps_ret (pe_g g_second (hr.mono (by decide)) (by rfl) (pa_cons (pe_ix ix_list (pv 1) pe_int (fun _ _ => rfl)) (pa_cons (pe_ix ix_list (pv 1) pe_int (fun _ _ => rfl)) (pa_cons (pe_ix ix_list (pv 1) pe_int (fun _ _ => rfl)) pa_nil)))))) pss_nil) (pss_one (ps_ret (pe_g g_inverse (hr.mono (by decide)) (by rfl) (pa_cons (pe_ix ix_list (pv 1) pe_int (fun _ _ => rfl)) (pa_cons (pe_ix ix_list (pv 1) pe_int (fun _ _ => rfl)) (pa_cons (pe_ix ix_list (pv 1) pe_int (fun _ _ => rfl)) pa_nil)))))))))), ?_⟩
  cases c with
  | along_ c =>
    obtain ⟨_, _, rfl, rfl, v1, _, rfl, h1, rfl⟩ := ha
    refine s_st (σ2 := [some (.int 4), some v1]) rfl ?_
    have ex : Ex H H := Ex.refl H
    refine s_ifR (evt_eq (evp_var rfl rfl) (evp_c rfl)) (fun _ H1 e1 => ?_) (fun z => absurd z (by decide))
    replace h1 := Rp.stay _ e1 h1
    replace ex := ex.trans e1
    have hc := c
    cases hc
    exact s_retP (evp_call (E := E0) (evps_cons (evp_ixL (j := 0) (evp_var rfl h1) (evp_c rfl) rfl) (evps_cons (evp_ixL (j := 1) (evp_var rfl h1) (evp_c rfl) rfl) (evps_cons (evp_ixL (j := 2) (evp_var rfl h1) (evp_c rfl) rfl) evps_nil))) c) fun v H' e hv => q v H' (ex.trans e) hv
  | foot_ c =>
    obtain ⟨_, _, rfl, rfl, v1, _, rfl, h1, rfl⟩ := ha
    refine s_st (σ2 := [some (.int 6), some v1]) rfl ?_
    have ex : Ex H H := Ex.refl H
    refine s_ifR (evt_eq (evp_var rfl rfl) (evp_c rfl)) (fun z => absurd z (by decide)) fun _ H1 e1 => ?_
    replace h1 := Rp.stay _ e1 h1
    replace ex := ex.trans e1
    refine s_ifR (evt_eq (evp_var rfl rfl) (evp_c rfl)) (fun _ H1 e1 => ?_) (fun z => absurd z (by decide))
    replace h1 := Rp.stay _ e1 h1
    replace ex := ex.trans e1
    have hc := c
    cases hc
    exact s_retP (evp_call (E := E0) (evps_cons (evp_ixL (j := 0) (evp_var rfl h1) (evp_c rfl) rfl) (evps_cons (evp_ixL (j := 1) (evp_var rfl h1) (evp_c rfl) rfl) (evps_cons (evp_ixL (j := 2) (evp_var rfl h1) (evp_c rfl) rfl) evps_nil))) c) fun v H' e hv => q v H' (ex.trans e) hv
  | mirror_ c =>
    obtain ⟨_, _, rfl, rfl, v1, _, rfl, h1, rfl⟩ := ha
    refine s_st (σ2 := [some (.int 7), some v1]) rfl ?_
    have ex : Ex H H := Ex.refl H
    refine s_ifR (evt_eq (evp_var rfl rfl) (evp_c rfl)) (fun z => absurd z (by decide)) fun _ H1 e1 => ?_
    replace h1 := Rp.stay _ e1 h1
    replace ex := ex.trans e1
    refine s_ifR (evt_eq (evp_var rfl rfl) (evp_c rfl)) (fun z => absurd z (by decide)) fun _ H1 e1 => ?_
    replace h1 := Rp.stay _ e1 h1
    replace ex := ex.trans e1
    refine s_ifR (evt_eq (evp_var rfl rfl) (evp_c rfl)) (fun _ H1 e1 => ?_) (fun z => absurd z (by decide))
    replace h1 := Rp.stay _ e1 h1
    replace ex := ex.trans e1
    have hc := c
    cases hc
    exact s_retP (evp_call (E := E0) (evps_cons (evp_ixL (j := 0) (evp_var rfl h1) (evp_c rfl) rfl) (evps_cons (evp_ixL (j := 1) (evp_var rfl h1) (evp_c rfl) rfl) (evps_cons (evp_ixL (j := 2) (evp_var rfl h1) (evp_c rfl) rfl) evps_nil))) c) fun v H' e hv => q v H' (ex.trans e) hv
  | centre_ c =>
    obtain ⟨_, _, rfl, rfl, v1, _, rfl, h1, rfl⟩ := ha
    refine s_st (σ2 := [some (.int 9), some v1]) rfl ?_
    have ex : Ex H H := Ex.refl H
    refine s_ifR (evt_eq (evp_var rfl rfl) (evp_c rfl)) (fun z => absurd z (by decide)) fun _ H1 e1 => ?_
    replace h1 := Rp.stay _ e1 h1
    replace ex := ex.trans e1
    refine s_ifR (evt_eq (evp_var rfl rfl) (evp_c rfl)) (fun z => absurd z (by decide)) fun _ H1 e1 => ?_
    replace h1 := Rp.stay _ e1 h1
    replace ex := ex.trans e1
    refine s_ifR (evt_eq (evp_var rfl rfl) (evp_c rfl)) (fun z => absurd z (by decide)) fun _ H1 e1 => ?_
    replace h1 := Rp.stay _ e1 h1
    replace ex := ex.trans e1
    refine s_ifR (evt_eq (evp_var rfl rfl) (evp_c rfl)) (fun _ H1 e1 => ?_) (fun z => absurd z (by decide))
    replace h1 := Rp.stay _ e1 h1
    replace ex := ex.trans e1
    have hc := c
    cases hc
    exact s_retP (evp_call (E := E0) (evps_cons (evp_ixL (j := 0) (evp_var rfl h1) (evp_c rfl) rfl) (evps_cons (evp_ixL (j := 1) (evp_var rfl h1) (evp_c rfl) rfl) (evps_cons (evp_ixL (j := 2) (evp_var rfl h1) (evp_c rfl) rfl) evps_nil))) c) fun v H' e hv => q v H' (ex.trans e) hv
  | second_ c =>
    obtain ⟨_, _, rfl, rfl, v1, _, rfl, h1, rfl⟩ := ha
    refine s_st (σ2 := [some (.int 10), some v1]) rfl ?_
    have ex : Ex H H := Ex.refl H
    refine s_ifR (evt_eq (evp_var rfl rfl) (evp_c rfl)) (fun z => absurd z (by decide)) fun _ H1 e1 => ?_
    replace h1 := Rp.stay _ e1 h1
    replace ex := ex.trans e1
    refine s_ifR (evt_eq (evp_var rfl rfl) (evp_c rfl)) (fun z => absurd z (by decide)) fun _ H1 e1 => ?_
    replace h1 := Rp.stay _ e1 h1
    replace ex := ex.trans e1
    refine s_ifR (evt_eq (evp_var rfl rfl) (evp_c rfl)) (fun z => absurd z (by decide)) fun _ H1 e1 => ?_
    replace h1 := Rp.stay _ e1 h1
    replace ex := ex.trans e1
    refine s_ifR (evt_eq (evp_var rfl rfl) (evp_c rfl)) (fun z => absurd z (by decide)) fun _ H1 e1 => ?_
    replace h1 := Rp.stay _ e1 h1
    replace ex := ex.trans e1
    refine s_ifR (evt_eq (evp_var rfl rfl) (evp_c rfl)) (fun _ H1 e1 => ?_) (fun z => absurd z (by decide))
    replace h1 := Rp.stay _ e1 h1
    replace ex := ex.trans e1
    have hc := c
    cases hc
    exact s_retP (evp_call (E := E0) (evps_cons (evp_ixL (j := 0) (evp_var rfl h1) (evp_c rfl) rfl) (evps_cons (evp_ixL (j := 1) (evp_var rfl h1) (evp_c rfl) rfl) (evps_cons (evp_ixL (j := 2) (evp_var rfl h1) (evp_c rfl) rfl) evps_nil))) c) fun v H' e hv => q v H' (ex.trans e) hv
  | inverse_ c =>
    obtain ⟨_, _, rfl, rfl, v1, _, rfl, h1, rfl⟩ := ha
    refine s_st (σ2 := [some (.int 12), some v1]) rfl ?_
    have ex : Ex H H := Ex.refl H
    refine s_ifR (evt_eq (evp_var rfl rfl) (evp_c rfl)) (fun z => absurd z (by decide)) fun _ H1 e1 => ?_
    replace h1 := Rp.stay _ e1 h1
    replace ex := ex.trans e1
    refine s_ifR (evt_eq (evp_var rfl rfl) (evp_c rfl)) (fun z => absurd z (by decide)) fun _ H1 e1 => ?_
    replace h1 := Rp.stay _ e1 h1
    replace ex := ex.trans e1
    refine s_ifR (evt_eq (evp_var rfl rfl) (evp_c rfl)) (fun z => absurd z (by decide)) fun _ H1 e1 => ?_
    replace h1 := Rp.stay _ e1 h1
    replace ex := ex.trans e1
    refine s_ifR (evt_eq (evp_var rfl rfl) (evp_c rfl)) (fun z => absurd z (by decide)) fun _ H1 e1 => ?_
    replace h1 := Rp.stay _ e1 h1
    replace ex := ex.trans e1
    refine s_ifR (evt_eq (evp_var rfl rfl) (evp_c rfl)) (fun z => absurd z (by decide)) fun _ H1 e1 => ?_
    replace h1 := Rp.stay _ e1 h1
    replace ex := ex.trans e1
    have hc := c
    cases hc
    exact s_retP (evp_call (E := E0) (evps_cons (evp_ixL (j := 0) (evp_var rfl h1) (evp_c rfl) rfl) (evps_cons (evp_ixL (j := 1) (evp_var rfl h1) (evp_c rfl) rfl) (evps_cons (evp_ixL (j := 2) (evp_var rfl h1) (evp_c rfl) rfl) evps_nil))) c) fun v H' e hv => q v H' (ex.trans e) hv
inductive cDrawn (C : Addr) : List Rp → Rp → Prop
  | no_ {Rs : List Rp} {R : Rp} : cNoPts C Rs R → cDrawn C Rs R
  | two_ {Rs : List Rp} {R : Rp} : cTwo C Rs R → cDrawn C Rs R
  | meet_ {Rs : List Rp} {R : Rp} : cMeet C Rs R → cDrawn C [rInt 5, rLst Rs] R
  | three_ {Rs : List Rp} {R : Rp} : cThree C Rs R → cDrawn C Rs R
theorem cDrawn.len {Rs : List Rp} {R : Rp} (c : cDrawn C Rs R) : Rs.length = 2 := by
  cases c with
  | no_ c => cases c <;> rfl
  | two_ c => cases c <;> rfl
  | meet_ c => rfl
  | three_ c => cases c <;> rfl
theorem sc_drawn : FnScope ["kind", "told"] ["kind", "told"] (defScope s_drawn) := ⟨rfl, rfl, rfl, by decide +kernel, rfl, by decide +kernel, by decide +kernel⟩
theorem good_drawn (d : Decl K mg "drawn" s_drawn) (iFIXED : IntC mg "FIXED" 0) (iFREE : IntC mg "FREE" 1) (iON : IntC mg "ON" 2) (iPART : IntC mg "PART" 3) (iTURN : IntC mg "TURN" 8) (iROUND : IntC mg "ROUND" 11) (iMEET : IntC mg "MEET" 5)
    (g_without_points : Good P w K mg base "without_points" 3 ["kind", "told"] (pf (cNoPts C))) (g_from_two : Good P w K mg base "from_two" 7 ["kind", "told"] (pf (cTwo C))) (g_meet : Good P w K mg base "meet" 5 ["a", "b", "c", "d"] (pf (cMeet C))) (g_from_three : Good P w K mg base "from_three" 7 ["kind", "told"] (pf (cThree C))) :
    Good P w K mg base "drawn" 8 ["kind", "told"] (pf (cDrawn C)) := by
  refine d.good sc_drawn (fun _ _ _ _ _ _ us hl => match us, hl with | [_, _], _ => rfl) (pf_len fun _ _ c => c.len) fun f cdv A outer s H vs Q E hr h => ?_
  obtain ⟨Rs, R, c, ha, q⟩ := h
  refine ⟨_, pss_cons (ps_if (pt_cmpR op_in_seq (pv 0) (pe_tup (pa_cons (pe_ic iFIXED (by rfl)) (pa_cons (pe_ic iFREE (by rfl)) pa_nil))) rfl) (pss_one (ps_ret (pe_g g_without_points (hr.mono (by decide)) (by rfl) (pa_cons (pv 0) (pa_cons (pv 1) pa_nil))))) pss_nil)
    (pss_cons (ps_if (pt_cmpR op_in_seq (pv 0) (pe_tup (pa_cons (pe_ic iON (by rfl)) (pa_cons (pe_ic iPART (by rfl)) (pa_cons (pe_ic iTURN (by rfl)) (pa_cons (pe_ic iROUND (by rfl)) pa_nil))))) rfl) (pss_one (ps_ret (pe_g g_from_two (hr.mono (by decide)) (by rfl) (pa_cons (pv 0) (pa_cons (pv 1) pa_nil))))) pss_nil)
    (pss_cons (ps_if (pt_cmpR op_eq (pv 0) (pe_ic iMEET (by rfl)) (nomark _)) (pss_one (ps_ret (pe_g g_meet (hr.mono (by decide)) (by rfl) (pa_cons (pe_ix ix_list (pv 1) pe_int (fun _ _ => rfl)) (pa_cons (pe_ix ix_list (pv 1) pe_int (fun _ _ => rfl)) (pa_cons (pe_ix ix_list (pv 1) pe_int (fun _ _ => rfl)) (pa_cons (pe_ix ix_list (pv 1) pe_int (fun _ _ => rfl)) pa_nil))))))) pss_nil)
    (pss_one (ps_ret (pe_g g_from_three (hr.mono (by decide)) (by rfl) (pa_cons (pv 0) (pa_cons (pv 1) pa_nil))))))), ?_⟩
  have shape : ∃ (k : Int) (v1 : V) (R1 : Rp), Rs = [rInt k, R1] ∧ vs = [.int k, v1] ∧ R1.is v1 H ∧ ((inB k [0, 1] = true ∧ cNoPts C Rs R) ∨ (inB k [0, 1] = false ∧ inB k [2, 3, 8, 11] = true ∧ cTwo C Rs R) ∨ (k = 5 ∧ ∃ Us, R1 = rLst Us ∧ cMeet C Us R) ∨ (inB k [0, 1] = false ∧ inB k [2, 3, 8, 11] = false ∧ k ≠ 5 ∧ cThree C Rs R)) := by
    cases c with
    | no_ c =>
      have c' := c
      cases c <;> (obtain ⟨_, _, rfl, rfl, v1, _, rfl, h1, rfl⟩ := ha; exact ⟨_, v1, _, rfl, rfl, h1, .inl ⟨by decide, c'⟩⟩)
    | two_ c =>
      have c' := c
      cases c <;> (obtain ⟨_, _, rfl, rfl, v1, _, rfl, h1, rfl⟩ := ha; exact ⟨_, v1, _, rfl, rfl, h1, .inr (.inl ⟨by decide, by decide, c'⟩)⟩)
    | meet_ c =>
      obtain ⟨_, _, rfl, rfl, v1, _, rfl, h1, rfl⟩ := ha
      exact ⟨_, v1, _, rfl, rfl, h1, .inr (.inr (.inl ⟨rfl, _, rfl, c⟩))⟩
    | three_ c =>
      have c' := c
      cases c <;> (obtain ⟨_, _, rfl, rfl, v1, _, rfl, h1, rfl⟩ := ha; exact ⟨_, v1, _, rfl, rfl, h1, .inr (.inr (.inr ⟨by decide, by decide, by decide, c'⟩))⟩)
  obtain ⟨k, v1, R1, rfl, rfl, h1, hc⟩ := shape
  refine s_st (σ2 := [some (.int k), some v1]) rfl ?_
  refine s_ifR (b := inB k [0, 1]) (evt_in (evp_var rfl rfl) (evps_cons (evp_c rfl) (evps_cons (evp_c rfl) evps_nil)) (by decide)) (fun z H1 e1 => ?_) fun z H1 e1 => ?_
  · have c : cNoPts C [rInt k, R1] R := by
      rcases hc with ⟨_, c⟩ | ⟨y, _⟩ | ⟨rfl, _⟩ | ⟨y, _⟩
      · exact c
      · rw [z] at y; cases y
      · exact absurd z (by decide)
      · rw [z] at y; cases y
    exact s_retP (evp_call (E := E0) (evps_cons (evp_var rfl rfl) (evps_cons (evp_var rfl (Rp.stay _ e1 h1)) evps_nil)) c) fun v H' e hv => q v H' (e1.trans e) hv
  refine s_ifR (b := inB k [2, 3, 8, 11]) (evt_in (evp_var rfl rfl) (evps_cons (evp_c rfl) (evps_cons (evp_c rfl) (evps_cons (evp_c rfl) (evps_cons (evp_c rfl) evps_nil)))) (by decide)) (fun y H2 e2 => ?_) fun y H2 e2 => ?_
  · have c : cTwo C [rInt k, R1] R := by
      rcases hc with ⟨x, _⟩ | ⟨_, _, c⟩ | ⟨rfl, _⟩ | ⟨_, x, _⟩
      · rw [z] at x; cases x
      · exact c
      · exact absurd y (by decide)
      · rw [y] at x; cases x
    exact s_retP (evp_call (E := E0) (evps_cons (evp_var rfl rfl) (evps_cons (evp_var rfl (Rp.stay _ (e1.trans e2) h1)) evps_nil)) c) fun v H' e hv => q v H' ((e1.trans e2).trans e) hv
  refine s_ifR (evt_eq (evp_var rfl rfl) (evp_c rfl)) (fun x H3 e3 => ?_) fun x H3 e3 => ?_
  · have h2 := Rp.stay _ ((e1.trans e2).trans e3) h1
    obtain ⟨Us, eU, cM⟩ : ∃ Us, R1 = rLst Us ∧ cMeet C Us R := by
      rcases hc with ⟨u, _⟩ | ⟨_, u, _⟩ | ⟨_, c⟩ | ⟨_, _, u, _⟩
      · rw [z] at u; cases u
      · rw [y] at u; cases u
      · exact c
      · exact absurd (of_decide_eq_true x) u
    subst eU
    have hM := cM
    cases hM
    exact s_retP (evp_call (E := E0) (evps_cons (evp_ixL (j := 0) (evp_var rfl h2) (evp_c rfl) rfl) (evps_cons (evp_ixL (j := 1) (evp_var rfl h2) (evp_c rfl) rfl) (evps_cons (evp_ixL (j := 2) (evp_var rfl h2) (evp_c rfl) rfl) (evps_cons (evp_ixL (j := 3) (evp_var rfl h2) (evp_c rfl) rfl) evps_nil)))) cM) fun v H' e hv => q v H' (((e1.trans e2).trans e3).trans e) hv
  · have c : cThree C [rInt k, R1] R := by
      rcases hc with ⟨u, _⟩ | ⟨_, u, _⟩ | ⟨u, _⟩ | ⟨_, _, _, c⟩
      · rw [z] at u; cases u
      · rw [y] at u; cases u
      · exact absurd u (of_decide_eq_false x)
      · exact c
    exact s_retP (evp_call (E := E0) (evps_cons (evp_var rfl rfl) (evps_cons (evp_var rfl (Rp.stay _ ((e1.trans e2).trans e3) h1)) evps_nil)) c) fun v H' e hv => q v H' (((e1.trans e2).trans e3).trans e) hv
end
end Ds
end
section
set_option Elab.async false
set_option linter.all false
set_option maxRecDepth 100000
set_option maxHeartbeats 2000000
namespace Ds
open PySem PySem.Spec PyProof.Rows L2 Su
open Evl (Ex EvT)
/-! ### One call, read -/
def rCall (C : Addr) (p : Int) (nums : List Int) (xs : List (List Int)) (b : Nat) : Rp := rIns C [("number", rInt p), ("told", rInts nums), ("rows", rLst (xs.map rInts)), ("behind", rInt b)]
structure CallC (K : PySem.W.Frag) (C : Addr) : Prop where
  cl : Cls K C
  nN : NoAttr K C "number"
  nT : NoAttr K C "told"
  nR : NoAttr K C "rows"
  nB : NoAttr K C "behind"
theorem cut_nat (L : List Int) {i j : Nat} (hi : i ≤ L.length) (hj : j ≤ L.length) : cutV (L.map V.int) (some (i : Int)) (some (j : Int)) = ((L.drop i).take (j - i)).map V.int := by
  unfold cutV
  rw [HT.sIx_nat, HT.sIx_nat, List.length_map, Nat.min_eq_left hi, Nat.min_eq_left hj, List.map_take, List.map_drop]
/-- all but the new instance stands as it was -/
def Keep (x : Addr) (H H' : Hp) : Prop := ∀ b o, H b = some o → b ≠ x → H' b = some o
theorem Keep.sq {K : PySem.W.Frag} {x a : Addr} {H H' : Hp} {C dx : Addr} {fs : List (Str × V)} {xs : List V} (k : Keep x H H') (hx : H x = some (.ins C dx fs)) (h : SqL K H a xs) : SqL K H' a xs := by
  rcases h with (h | ⟨o, h⟩) | h
  · refine .inl (.inl (k _ _ h fun e => ?_))
    rw [e, hx] at h
    cases h
  · refine .inl (.inr ⟨o, k _ _ h fun e => ?_⟩)
    rw [e, hx] at h
    cases h
  · exact .inr h
theorem Keep.upd {x : Addr} {H H' : Hp} {o : HO} (k : Keep x H H') : Keep x H (upd H' x o) := fun b u e hb => by
  rw [upd_ne hb]
  exact k b u e hb
theorem Keep.new {x q : Addr} {H H' : Hp} {o : HO} (k : Keep x H H') (nq : H' q = none) : Keep x H (L2.upd H' q o) := fun b u e hb => by
  rw [upd_ne (ne_of_none (k b u e hb) nq)]
  exact k b u e hb
/-- an object that H does not know may change -/
theorem Keep.mut {x q : Addr} {H H' : Hp} {o : HO} (k : Keep x H H') (nq : H q = none) : Keep x H (L2.upd H' q o) := fun b u e hb => by
  rw [upd_ne (ne_of_none e nq)]
  exact k b u e hb
/-- all but what stands at q -/
def er (q : Addr) (H : Hp) : Hp := fun a => if a = q then none else H a
theorem er_ne {q a : Addr} {H : Hp} (h : a ≠ q) : er q H a = H a := if_neg h
theorem er_ex (q : Addr) (H : Hp) : Ex (er q H) H := fun a o h => by
  by_cases e : a = q
  · rw [e] at h
    have : er q H q = none := if_pos rfl
    rw [this] at h
    cases h
  · rw [er_ne e] at h
    exact h
theorem er_upd {q : Addr} {H : Hp} {o : HO} : er q (L2.upd H q o) = er q H := funext fun a => by
  by_cases e : a = q
  · rw [e]
    exact (if_pos rfl).trans (if_pos rfl).symm
  · rw [er_ne e, er_ne e, upd_ne e]
theorem er_mono {q : Addr} {H H' : Hp} (e : Ex H H') : Ex (er q H) (er q H') := fun a o h => by
  by_cases z : a = q
  · rw [z] at h
    have : er q H q = none := if_pos rfl
    rw [this] at h
    cases h
  · rw [er_ne z] at h ⊢
    exact e a o h
def spCallI (K : PySem.W.Frag) (C : Addr) : Sp := fun vs H Q _ => ∃ (x dx a : Addr) (L : List Int) (at_ : Nat) (p : Int) (nums : List Int) (xs : List (List Int)) (t : List Int),
  vs = [.ref x, .ref a, .int (at_ : Int)] ∧ H x = some (.ins C dx []) ∧ SqL K H a (L.map V.int) ∧ L.length ≤ 30000 ∧ PyFlat.call PyKh374.shape (L.drop at_) = some ((p :: nums) :: xs, t) ∧
  ∀ (b : Nat) (H' : Hp), at_ < b → b ≤ L.length → L.drop b = t → Keep x H H' → (rCall C p nums xs b).is (.ref x) H' → (∀ B : Addr → Prop, (∀ q, B q → q ≠ x ∧ ∃ o, H q = some o) → (rCall C p nums xs b).is (.ref x) (nw B H')) → Q .non H'
theorem put_here {f : Str} {v x : V} {r : List (Str × V)} : putF f v ((f, x) :: r) = (f, v) :: r := if_pos rfl
theorem put_past {f g : Str} {v x : V} {r : List (Str × V)} (h : ¬ g = f) : putF f v ((g, x) :: r) = (g, x) :: putF f v r := if_neg h
theorem lk_here {k : Str} {v : V} {r : List (Str × V)} : List.lookup k ((k, v) :: r) = some v := by
  have e : (k == k) = true := beq_self_eq_true k
  simp only [List.lookup, e]
theorem lk_past {k g : Str} {v : V} {r : List (Str × V)} (h : (k == g) = false) : List.lookup k ((g, v) :: r) = List.lookup k r := by
  simp only [List.lookup, h]
theorem all2_rows {H : Hp} : ∀ {xs : List (List Int)} {vs : List V}, All2 (xs.map rInts) vs H → ∀ {y : List Int} {v : V}, (rInts y).is v H → All2 ((xs ++ [y]).map rInts) (vs ++ [v]) H
  | [], vs, h, y, v, hv => by
    rw [show vs = [] from h]
    exact ⟨v, [], rfl, hv, rfl⟩
  | x :: xs, vs, ⟨u, r, h1, h2, h3⟩, y, v, hv => by
    rw [h1]
    exact ⟨u, r ++ [v], rfl, h2, all2_rows h3 hv⟩
theorem all2_keep {H H' : Hp} : ∀ {xs : List (List Int)} {vs : List V}, All2 (xs.map rInts) vs H → (∀ p (y : List Int), V.ref p ∈ vs → H p = some (.lst (y.map V.int)) → H' p = some (.lst (y.map V.int))) → All2 (xs.map rInts) vs H'
  | [], _, h, _ => h
  | x :: xs, vs, ⟨v, r, h1, ⟨p, h2, h3⟩, h4⟩, k => by
    refine ⟨v, r, h1, ⟨p, h2, k p x (by rw [h1, ← h2]; exact List.mem_cons_self) h3⟩, all2_keep h4 fun p' y hp => k p' y (by rw [h1]; exact List.mem_cons_of_mem _ hp)⟩
theorem all2_mut {H : Hp} {q : Addr} {o : HO} {xs : List (List Int)} {us : List V} (h : All2 (xs.map rInts) us H) (hq : H q = some (.lst us)) : All2 (xs.map rInts) us (L2.upd H q o) := all2_keep h fun p y hp e => by
  by_cases z : p = q
  · rw [z, hq] at e
    have e2 : us = y.map V.int := HO.lst.inj (Option.some.inj e)
    rw [e2] at hp
    obtain ⟨n, _, hn⟩ := List.mem_map.mp hp
    cases hn
  · rw [upd_ne z]
    exact e
theorem all2_ins {H : Hp} {x C dx : Addr} {fs : List (Str × V)} {o : HO} {xs : List (List Int)} {us : List V} (h : All2 (xs.map rInts) us H) (hx : H x = some (.ins C dx fs)) : All2 (xs.map rInts) us (L2.upd H x o) := all2_keep h fun p y hp e => by
  rw [upd_ne (fun z => by rw [z, hx] at e; cases e)]
  exact e
def cF1 (i : Int) : List (Str × V) := [("number", .int i)]
def cF2 (i : Int) (a : Addr) : List (Str × V) := [("number", .int i), ("told", .ref a)]
def cF3 (i : Int) (a b : Addr) : List (Str × V) := [("number", .int i), ("told", .ref a), ("rows", .ref b)]
def cF4 (i : Int) (a b : Addr) (n : Int) : List (Str × V) := [("number", .int i), ("told", .ref a), ("rows", .ref b), ("behind", .int n)]
/-! ### More readings -/
section
variable {K : PySem.W.Frag} {σ : L2.St} {H : Hp} {te tf : TE} {ta : TA} {R : Rp}
theorem evp_add {i j : Int} (h1 : EvP te σ H (rInt i)) (h2 : EvP tf σ H (rInt j)) : EvP (tOp (rI0 fun i j => .int (i + j)) te tf) σ H (rInt (i + j)) := fun H1 e Q q =>
  h1 H1 e _ fun x H2 e2 hx => h2 H2 (e.trans e2) _ fun y H3 e3 hy => ⟨i, j, hx, hy, q _ H3 (e2.trans e3) rfl⟩
theorem evp_sub {i j : Int} (h1 : EvP te σ H (rInt i)) (h2 : EvP tf σ H (rInt j)) : EvP (tOp (rI0 fun i j => .int (i - j)) te tf) σ H (rInt (i - j)) := fun H1 e Q q =>
  h1 H1 e _ fun x H2 e2 hx => h2 H2 (e.trans e2) _ fun y H3 e3 hy => ⟨i, j, hx, hy, q _ H3 (e2.trans e3) rfl⟩
theorem evp_to {i j : Int} (h : EvP te σ H (rInt i)) (e : i = j) : EvP te σ H (rInt j) := e ▸ h
/-- an item of a list of whole numbers, wherever it stands -/
theorem evp_ixS {a : Addr} {L : List Int} {j : Nat} {z : Int} (hS : SqL K H a (L.map V.int)) (h1 : EvP te σ H (rV (.ref a))) (h2 : EvP tf σ H (rInt (j : Int))) (hz : L[j]? = some z) : EvP (tOp (rIxL K) te tf) σ H (rInt z) := fun H1 e Q q =>
  h1 H1 e _ fun x H2 e2 hx => h2 H2 (e.trans e2) _ fun y H3 e3 hy => ⟨a, _, j, .int z, hx, hy, Evl.ex_l (e.trans (e2.trans e3)) hS, atI_nat (by rw [List.getElem?_map, hz]; rfl), q _ H3 (e2.trans e3) rfl⟩
theorem evp_ixC {a : Addr} {l : List Int} {j : Nat} {z : Int} (hT : ∀ H, SqT K H a (l.map V.int)) (h2 : EvP tf σ H (rInt (j : Int))) (hz : l[j]? = some z) : EvP (tOp (rIxT K) (tC (.ref a)) tf) σ H (rInt z) := fun H1 e Q q =>
  h2 H1 e _ fun y H3 e3 hy => ⟨a, _, j, .int z, rfl, hy, hT _, atI_nat (by rw [List.getElem?_map, hz]; rfl), q _ H3 e3 rfl⟩
theorem evp_slS {a : Addr} {L : List Int} {i j : Nat} {tl th : TE} (hS : SqL K H a (L.map V.int)) (h1 : EvP te σ H (rV (.ref a))) (h2 : EvP tl σ H (rInt (i : Int))) (h3 : EvP th σ H (rInt (j : Int))) (hi : i ≤ L.length) (hj : j ≤ L.length) :
    EvP (tSl (rSlL K) te (tPart tl) (tPart th)) σ H (rInts ((L.drop i).take (j - i))) := fun H1 e Q q =>
  h1 H1 e _ fun x H2 e2 hx => h2 H2 (e.trans e2) _ fun y H3 e3 hy => ⟨i, hy, h3 H3 (e.trans (e2.trans e3)) _ fun z H4 e4 hz => ⟨j, hz, a, _, hx, Evl.ex_l (e.trans (e2.trans (e3.trans e4))) hS, fun p np => by
    rw [cut_nat L hi hj]
    exact q _ _ (e2.trans (e3.trans (e4.trans (Ex.new np)))) ⟨p, rfl, upd_same⟩⟩⟩
theorem ev_of {v : V} (h : EvP te σ H (rV v)) : Evl.Ev te σ H v := fun H1 e Q q => h H1 e Q fun v' H2 e2 hv => by
  have hv : v' = v := hv
  rw [hv]
  exact q H2 e2
theorem eva_one {v : V} (h : EvP te σ H (rV v)) : Evl.EvA (tCons te tNil) σ H [v] := fun H1 e Q q => h H1 e _ fun v' H2 e2 hv => by
  have hv : v' = v := hv
  rw [hv]
  exact q H2 e2
theorem el_slS {a : Addr} {L : List Int} {i j : Nat} {tl th : TE} (hS : SqL K H a (L.map V.int)) (h1 : EvP te σ H (rV (.ref a))) (h2 : EvP tl σ H (rInt (i : Int))) (h3 : EvP th σ H (rInt (j : Int))) (hi : i ≤ L.length) (hj : j ≤ L.length) :
    Evl.EvL (tSl (rSlL K) te (tPart tl) (tPart th)) σ H (((L.drop i).take (j - i)).map V.int) := fun H1 e Q q =>
  h1 H1 e _ fun x H2 e2 hx => h2 H2 (e.trans e2) _ fun y H3 e3 hy => ⟨i, hy, h3 H3 (e.trans (e2.trans e3)) _ fun z H4 e4 hz => ⟨j, hz, a, _, hx, Evl.ex_l (e.trans (e2.trans (e3.trans e4))) hS, fun p np => by
    rw [cut_nat L hi hj]
    exact q p _ (Evl.fresh_back (e2.trans (e3.trans e4)) np) (e2.trans (e3.trans (e4.trans (Ex.new np)))) upd_same⟩⟩
theorem evp_nil : EvP (tLst tNil) σ H (rLst []) := evp_lst evps_nil (Nat.zero_le _)
/-- self.n = e, self in slot 0 -/
theorem s_fldP {u : TS} {D : Ends} {x C dx : Addr} {fs : List (Str × V)} {n : Str} (cl : Cls K C) (na : NoAttr K C n) (hσ : σ[0]? = some (some (.ref x))) (hx : H x = some (.ins C dx fs)) (h : EvP te σ H R) (hl : fs.length < 1000)
    (k : ∀ v H1, Ex H H1 → R.is v H1 → u D σ (upd H1 x (.ins C dx (putF n v fs)))) : tSeq (sFld K (tVar 0) te n) u D σ H := h H (Ex.refl H) _ fun v H1 e r => ⟨_, hσ, x, C, dx, fs, rfl, e x _ hx, cl, na, hl, k v H1 e r⟩
theorem s_fldN {u : TS} {D : Ends} {x C dx : Addr} {fs : List (Str × V)} {n : Str} {ys : List V} (cl : Cls K C) (na : NoAttr K C n) (hσ : σ[0]? = some (some (.ref x))) (hx : H x = some (.ins C dx fs)) (h : Evl.EvL te σ H ys) (hl : fs.length < 1000)
    (k : ∀ p H1, H p = none → Ex H H1 → H1 p = some (.lst ys) → u D σ (L2.upd H1 x (.ins C dx (putF n (.ref p) fs)))) : tSeq (sFld K (tVar 0) te n) u D σ H := h H (Ex.refl H) _ fun p H1 np e hp => ⟨_, hσ, x, C, dx, fs, rfl, e x _ hx, cl, na, hl, k p H1 np e hp⟩
theorem s_fldL {D : Ends} {x C dx : Addr} {fs : List (Str × V)} {n : Str} (cl : Cls K C) (na : NoAttr K C n) (hσ : σ[0]? = some (some (.ref x))) (hx : H x = some (.ins C dx fs)) (h : EvP te σ H R) (hl : fs.length < 1000)
    (k : ∀ v H1, Ex H H1 → R.is v H1 → D.nx σ (upd H1 x (.ins C dx (putF n v fs)))) : sFld K (tVar 0) te n D σ H := h H (Ex.refl H) _ fun v H1 e r => ⟨_, hσ, x, C, dx, fs, rfl, e x _ hx, cl, na, hl, k v H1 e r⟩
/-- a field of the instance at x, by what stands there now -/
theorem evp_self {x C dx : Addr} {fs : List (Str × V)} {n : Str} {v : V} (cl : Cls K C) (na : NoAttr K C n) (hσ : σ[0]? = some (some (.ref x))) (hx : H x = some (.ins C dx fs)) (hl : fs.lookup n = some v) : EvP (tFld K (tVar 0) n) σ H (rV v) := fun H1 e Q q =>
  ⟨_, hσ, x, C, dx, fs, v, rfl, e x _ hx, cl, na, hl, q v H1 (Ex.refl _) rfl⟩
end
theorem Keep.ex {x : Addr} {H H' H2 : Hp} (k : Keep x H H') (e : Ex H' H2) : Keep x H H2 := fun b o h hb => e b o (k b o h hb)
theorem Keep.refl (x : Addr) (H : Hp) : Keep x H H := fun _ _ e _ => e
theorem keep_none {x : Addr} {H H' : Hp} {p : Addr} (k : Keep x H H') (h : H' p = none) (hx : ∃ o, H' x = some o) : H p = none := by
  cases e : H p with
  | none => rfl
  | some o =>
    by_cases z : p = x
    · obtain ⟨o', ho⟩ := hx
      rw [z, ho] at h
      cases h
    · rw [k p o e z] at h
      cases h
section
variable {P : Program} {w : World} {K : PySem.W.Frag} {mg : Str → Option Value} {base : Heap} {C : Addr}
theorem sc_Call_init : FnScope ["self", "calls", "at", "behind", "row", "size"] ["self", "calls", "at"] (defScope s_Call_init) := ⟨rfl, rfl, rfl, by decide +kernel, rfl, by decide +kernel, by decide +kernel⟩
theorem ok_Call_init {f : Addr} {fd : FuncData} (F : FnP K "__init__" "Call.__init__" s_Call_init f fd) (T : CallC K C) (tW : TupC K mg "WHOLE_NUMBERS" wholeL) (tR : TupC K mg "ROWS" rowsL) (mr : mg "range" = none) :
    FnOk P w K mg base CX0 1 f fd ["self", "calls", "at"] (spCallI K C) := by
  obtain ⟨aW, mW, sW⟩ := tW
  obtain ⟨aR, mR, sR⟩ := tR
  refine F.ok sc_Call_init (fun vs H Q E h => ?_) (fun cdv A outer s H vs Q E hr h => ?_)
  · obtain ⟨_, _, _, _, _, _, _, _, _, rfl, _⟩ := h
    rfl
  obtain ⟨x, dx, a, L, at_, p, nums, xs, t, rfl, hx, hS, hlen, hcall, q⟩ := h
  obtain ⟨p', r, n, k, xs', hd, hsh, hn, hrows, hc⟩ := call_inv hcall
  obtain ⟨hc1, hc2⟩ := List.cons.inj hc
  obtain ⟨rfl, rfl⟩ := List.cons.inj hc1
  subst hc2
  obtain ⟨i, rfl, hi27, hWi, hRi⟩ := shape_at hsh
  obtain ⟨hat, hdr, hatl⟩ := drop_cons hd
  refine ⟨_, PSs.nox (pss_cons (ps_fld (pv 0) (pe_ix ix_list (pv 1) (pv 2) (fun _ _ => rfl)) rfl)
    (pss_cons (ps_set (i := 3) sc_Call_init.nd rfl (.inl rfl) (pe_op op_add (pe_op op_add (pv 2) pe_int) (pe_ix ix_tup (pe_glob (v := .ref aW) rfl mW rfl) (pe_fld (pv 0) rfl) (fun _ _ => rfl))))
    (pss_cons (ps_fld (pv 0) (pe_slice sl_list (pv 1) (po_some (pe_op op_add (pv 2) pe_int)) (po_some (pv 3))) rfl)
    (pss_cons (ps_fld (pv 0) (pe_lst pa_nil) rfl)
    (pss_cons (ps_for PassesOwn.never rfl (pi_range1 rfl mr (pa_cons (pe_ix ix_tup (pe_glob (v := .ref aR) rfl mR rfl) (pe_fld (pv 0) rfl) (fun _ _ => rfl)) pa_nil)) (pg_name (i := 4) sc_Call_init.nd rfl (.inl rfl))
      (pss_cons (ps_set (i := 5) sc_Call_init.nd rfl (.inl rfl) (pe_ix ix_list (pv 1) (pv 3) (fun _ _ => rfl)))
      (pss_cons (ps_expr (pe_bm PySem.F.plainAttrs_list PySem.F.slot_list_append PySem.F.type_list_append mt_append (pe_fld (pv 0) rfl) (pa_cons (pe_slice sl_list (pv 1) (po_some (pe_op op_add (pv 3) pe_int)) (po_some (pe_op op_add (pe_op op_add (pv 3) pe_int) (pv 5)))) pa_nil)))
      (pss_one (ps_aug (i := 3) sc_Call_init.nd rfl (.inl rfl) (pe_op op_add pe_int (pv 5)) ip_add)))))
    (pss_one (ps_fld (pv 0) (pv 3) rfl))))))), ?_⟩
  refine s_st (σ2 := [some (.ref x), some (.ref a), some (.int (at_ : Int)), none, none, none]) rfl ?_
  -- self.number = calls[at]
  refine s_fldP T.cl T.nN rfl hx (evp_ixS hS (evp_var rfl rfl) (evp_var rfl rfl) hat) (by show 0 < 1000; decide) fun v H1 e1 hv => ?_
  have hv : v = .int (i : Int) := hv
  subst hv
  have f1 : putF "number" (V.int (i : Int)) [] = cF1 i := rfl
  rw [f1]
  have K1 := ((Keep.refl x H).ex e1).upd (o := .ins C dx (cF1 i))
  generalize hH1 : L2.upd H1 x (.ins C dx (cF1 i)) = H1' at K1 ⊢
  have x1 : H1' x = some (.ins C dx (cF1 i)) := by rw [← hH1]; exact upd_same
  clear hH1 e1
  have S1 := K1.sq hx hS
  have hb1 : at_ + 1 + n ≤ L.length := by
    have : r.length = L.length - (at_ + 1) := by rw [← hdr, List.length_drop]
    omega
  -- behind = at + 1 + WHOLE_NUMBERS[self.number]
  refine s_set (σ2 := fun v => [some (.ref x), some (.ref a), some (.int (at_ : Int)), some v, none, none]) (fun _ => rfl) (evp_add (evp_add (evp_var rfl rfl) (evp_c rfl)) (evp_ixC sW (evp_self T.cl T.nN rfl x1 lk_here) hWi)) fun v H2 e2 hv => ?_
  have hv : v = .int ((at_ : Int) + 1 + (n : Int)) := hv
  subst hv
  have c1 : ((at_ : Int) + 1 + (n : Int)) = ((at_ + 1 + n : Nat) : Int) := by omega
  have c0 : ((at_ : Int) + 1) = ((at_ + 1 : Nat) : Int) := by omega
  -- self.told = calls[at + 1:behind]
  refine s_fldN T.cl T.nT rfl (e2 x _ x1) (el_slS (Evl.ex_l e2 S1) (evp_var rfl rfl) (evp_to (evp_add (evp_var rfl rfl) (evp_c rfl)) c0) (evp_to (evp_var rfl rfl) c1) (by omega) hb1) (by show 1 < 1000; decide) fun q1 H3 nq1 e3 hq1 => ?_
  have ec : (L.drop (at_ + 1)).take (at_ + 1 + n - (at_ + 1)) = r.take n := by
    rw [hdr]
    congr 1
    omega
  rw [ec] at hq1
  have nq1H : H q1 = none := keep_none (K1.ex e2) nq1 ⟨_, e2 x _ x1⟩
  have f2 : putF "told" (V.ref q1) (cF1 i) = cF2 i q1 := put_past (by decide +kernel)
  rw [f2]
  have x3 := e3 x _ (e2 x _ x1)
  have nx1 : x ≠ q1 := fun z => by
    rw [← z, x3] at hq1
    cases hq1
  have K2 := ((K1.ex e2).ex e3).upd (o := .ins C dx (cF2 i q1))
  have t2 : L2.upd H3 x (.ins C dx (cF2 i q1)) q1 = some (.lst ((r.take n).map V.int)) := by rw [upd_ne nx1.symm]; exact hq1
  generalize hH3 : L2.upd H3 x (.ins C dx (cF2 i q1)) = H3' at K2 t2 ⊢
  have x2 : H3' x = some (.ins C dx (cF2 i q1)) := by rw [← hH3]; exact upd_same
  clear hH3 x3 e3 e2 hq1
  -- self.rows = []
  refine ⟨Nat.zero_le _, fun q2 nq2 => ?_⟩
  have nx2 : x ≠ q2 := ne_of_none x2 nq2
  have n12 : q1 ≠ q2 := ne_of_none t2 nq2
  have nq2H : H q2 = none := keep_none K2 nq2 ⟨_, x2⟩
  refine ⟨_, rfl, x, C, dx, _, rfl, by rw [upd_ne nx2]; exact x2, T.cl, T.nR, (by show 2 < 1000; decide), ?_⟩
  have f3 : putF "rows" (V.ref q2) (cF2 i q1) = cF3 i q1 q2 := (put_past (by decide +kernel)).trans (congrArg _ (put_past (by decide +kernel)))
  rw [f3]
  have K3 := (K2.new nq2 (o := .lst [])).upd (o := .ins C dx (cF3 i q1 q2))
  generalize hH4 : L2.upd (L2.upd H3' q2 (.lst [])) x (.ins C dx (cF3 i q1 q2)) = H4 at K3 ⊢
  have x3 : H4 x = some (.ins C dx (cF3 i q1 q2)) := by rw [← hH4]; exact upd_same
  have t3 : H4 q1 = some (.lst ((r.take n).map V.int)) := by rw [← hH4, upd_ne nx1.symm, upd_ne n12]; exact t2
  have r3 : H4 q2 = some (.lst []) := by rw [← hH4, upd_ne nx2.symm]; exact upd_same
  -- the rows
  have hk2 : k ≤ 100 := by
    have h1 := shape_eq i hi27
    have h2 := Option.some.inj (hRi.symm.trans h1.2.2)
    have h3 : ∀ j : Nat, j < 27 → (rowsL.getD j 0).toNat ≤ 2 := by decide
    have := h3 i hi27
    omega
  have numL : List.lookup ("number" : Str) (cF3 i q1 q2) = some (.int (i : Int)) := lk_here
  have rowL : List.lookup ("rows" : Str) (cF3 i q1 q2) = some (.ref q2) := (lk_past (by decide +kernel)).trans ((lk_past (by decide +kernel)).trans lk_here)
  show tSeq _ _ _ [some (.ref x), some (.ref a), some (.int (at_ : Int)), some (.int ((at_ : Int) + 1 + (n : Int))), none, none] H4
  refine s_seq (Evl.s_forR1 (n := (k : Int)) (eva_one (evp_ixC sR (evp_self T.cl T.nN rfl x3 numL) hRi)) ⟨by omega, by omega⟩ (fun j σ H' => ∃ (b : Nat) (v4 v5 : Option V) (us : List V), σ = [some (.ref x), some (.ref a), some (.int (at_ : Int)), some (.int (b : Int)), v4, v5] ∧ at_ < b ∧ b ≤ L.length ∧ PyFlat.rows (k - j) (L.drop b) = some (xs.drop j, t) ∧ Keep x H H' ∧
      H' x = some (.ins C dx (cF3 i q1 q2)) ∧ H' q1 = some (.lst ((r.take n).map V.int)) ∧ H' q2 = some (.lst us) ∧ All2 ((xs.take j).map rInts) us H' ∧ ∀ p, V.ref p ∈ us → H p = none) (fun H5 e5 => ?_) ?_ ?_)
  · refine ⟨at_ + 1 + n, none, none, [], ?_, by omega, hb1, ?_, K3.ex e5, e5 _ _ x3, e5 _ _ t3, e5 _ _ r3, rfl, fun p hp => absurd hp List.not_mem_nil⟩
    · rw [← c1]
    · rw [← List.drop_drop, hdr]
      exact hrows
  · rintro j σ H' hj' ⟨b, v4, v5, us, rfl, hab, hbl, hrw, kp, hx', h1', h2', hus, hfr⟩
    have hj : j < k := by omega
    have ekj : k - j = (k - (j + 1)) + 1 := by omega
    rw [ekj] at hrw
    obtain ⟨y, s1, ys, hrow, hrest, hy⟩ := rows_inv hrw
    obtain ⟨z, r2, hs, hz0, hzl, ey, es⟩ := row_inv hrow
    obtain ⟨hgb, hdb, hbl2⟩ := drop_cons hs
    obtain ⟨zn, rfl⟩ := Int.eq_ofNat_of_zero_le hz0
    have hzl : zn ≤ r2.length := hzl
    have el2 : r2.length = L.length - (b + 1) := by rw [← hdb, List.length_drop]
    have S' := kp.sq hx hS
    have d0 : ((b : Int) + 1) = ((b + 1 : Nat) : Int) := by omega
    have d1 : ((b : Int) + 1 + (zn : Int)) = ((b + 1 + zn : Nat) : Int) := by omega
    show tSeq _ _ _ [some (.ref x), some (.ref a), some (.int (at_ : Int)), some (.int (b : Int)), some (.int (j : Int)), v5] H'
    -- size = calls[behind]
    refine s_set (σ2 := fun v => [some (.ref x), some (.ref a), some (.int (at_ : Int)), some (.int (b : Int)), some (.int (j : Int)), some v]) (fun _ => rfl) (evp_ixS S' (evp_var rfl rfl) (evp_var rfl rfl) hgb) fun v H6 e6 hv => ?_
    have hv : v = .int (zn : Int) := hv
    subst hv
    -- self.rows.append(calls[behind + 1:behind + 1 + size])
    have ec2 : (L.drop (b + 1)).take (b + 1 + zn - (b + 1)) = y := by
      rw [hdb, ey, show b + 1 + zn - (b + 1) = zn by omega]
      rfl
    have us_len : us.length < 100000 := by
      rw [hus.len, List.length_map, List.length_take]
      exact Nat.lt_of_le_of_lt (Nat.min_le_left _ _) (by omega)
    refine s_seq (Evl.s_appL (K := K) (e6 _ _ h2') (ev_of (evp_self T.cl T.nR rfl (e6 _ _ hx') rowL)) (el_slS (Evl.ex_l e6 S') (evp_var rfl rfl) (evp_to (evp_add (evp_var rfl rfl) (evp_c rfl)) d0) (evp_to (evp_add (evp_add (evp_var rfl rfl) (evp_c rfl)) (evp_var rfl rfl)) d1) (by omega) (by omega)) us_len fun q3 H8 nq3 e8 hq3 => ?_)
    rw [ec2] at hq3
    have e68 := e6.trans e8
    -- behind += 1 + size
    refine ⟨_, rfl, _, rfl, _, _, rfl, rfl, _, _, rfl, rfl, ?_⟩
    have n23 : q3 ≠ q2 := (ne_of_none (e6 _ _ h2') nq3).symm
    refine ⟨b + 1 + zn, some (.int (j : Int)), some (.int (zn : Int)), us ++ [.ref q3], ?_, by omega, by omega, ?_, (kp.ex e68).mut nq2H, ?_, ?_, upd_same, ?_, fun p hp => ?_⟩
    · rw [← d1]
      have e9 : (b : Int) + (1 + (zn : Int)) = (b : Int) + 1 + (zn : Int) := by omega
      show [some (V.ref x), some (V.ref a), some (V.int (at_ : Int)), some (V.int ((b : Int) + (1 + (zn : Int)))), some (V.int (j : Int)), some (V.int (zn : Int))] = _
      rw [e9]
    · rw [show L.drop (b + 1 + zn) = s1 by rw [← List.drop_drop, hdb, es]; rfl, hrest]
      have e8 : xs.drop (j + 1) = ys := by
        rw [← List.drop_drop, hy]
        rfl
      rw [e8]
    · rw [upd_ne nx2]
      exact e68 _ _ hx'
    · rw [upd_ne n12]
      exact e68 _ _ h1'
    · have e7 : xs.take (j + 1) = xs.take j ++ [y] := by
        rw [List.take_add_one]
        have e6 : xs[j]? = some y := by
          have := congrArg (fun l => l[0]?) hy
          simpa using this
        rw [e6]
        rfl
      rw [e7]
      exact all2_rows (all2_mut (hus.stay e68) (e68 _ _ h2')) ⟨q3, rfl, by rw [upd_ne n23]; exact hq3⟩
    · rcases List.mem_append.mp hp with hp | hp
      · exact hfr p hp
      · have ep : p = q3 := V.ref.inj (List.mem_singleton.mp hp)
        rw [ep]
        exact keep_none (kp.ex e6) nq3 ⟨_, e6 _ _ hx'⟩
  · rintro σ H' ⟨b, v4, v5, us, rfl, hab, hbl, hrw, kp, hx', h1', h2', hus, hfr⟩
    have ek : (k : Int).toNat = k := Int.toNat_natCast k
    rw [ek] at hrw hus
    rw [Nat.sub_self] at hrw
    have e5 := Prod.mk.inj (Option.some.inj hrw)
    refine s_fldL T.cl T.nB rfl hx' (evp_var (R := rInt (b : Int)) rfl rfl) (by show 3 < 1000; decide) fun v H6 e6 hv => ?_
    have hv : v = .int (b : Int) := hv
    subst hv
    have f4 : putF "behind" (V.int (b : Int)) (cF3 i q1 q2) = cF4 i q1 q2 b := (put_past (by decide +kernel)).trans (congrArg _ ((put_past (by decide +kernel)).trans (congrArg _ (put_past (by decide +kernel)))))
    rw [f4]
    rw [List.take_of_length_le (Nat.le_of_eq (rows_len hrows))] at hus
    have rep : (rCall C i (r.take n) xs b).is (.ref x) (L2.upd H6 x (.ins C dx (cF4 i q1 q2 b))) := by
      refine ⟨x, dx, _, rfl, upd_same, _, _, rfl, rfl, _, _, rfl, ⟨q1, rfl, ?_⟩, _, _, rfl, ⟨q2, us, rfl, ?_, ?_⟩, _, _, rfl, rfl, rfl⟩
      · rw [upd_ne nx1.symm]
        exact e6 _ _ h1'
      · rw [upd_ne nx2.symm]
        exact e6 _ _ h2'
      · exact all2_ins (hus.stay e6) (e6 _ _ hx')
    refine q b _ hab hbl e5.2 (kp.ex e6).upd rep fun B hB => ?_
    have m0 : ¬ B x := fun z => (hB x z).1 rfl
    have mn : ∀ p, H p = none → ¬ B p := fun p hp z => by
      obtain ⟨_, o, ho⟩ := hB p z
      rw [hp] at ho
      cases ho
    refine ⟨x, dx, _, rfl, ?_, _, _, rfl, rfl, _, _, rfl, ⟨q1, rfl, ?_⟩, _, _, rfl, ⟨q2, us, rfl, ?_, ?_⟩, _, _, rfl, rfl, rfl⟩
    · rw [nw_ne m0]
      exact upd_same
    · rw [nw_ne (mn _ nq1H), upd_ne nx1.symm]
      exact e6 _ _ h1'
    · rw [nw_ne (mn _ nq2H), upd_ne nx2.symm]
      exact e6 _ _ h2'
    · refine all2_keep (all2_ins (o := .ins C dx (cF4 i q1 q2 b)) (hus.stay e6) (e6 _ _ hx')) fun p y hp hy => ?_
      rw [nw_ne (mn _ (hfr p hp))]
      exact hy
/-! ### read_calls -/
def rCal (C : Addr) (c : List (List Int)) : Rp := ⟨fun v H => ∃ b, (rCall C ((c.headD []).headD 0) (c.headD []).tail c.tail b).is v H, fun e ⟨b, h⟩ => ⟨b, Rp.stay _ e h⟩⟩
def spRead (K : PySem.W.Frag) (C : Addr) : Sp := fun vs H Q _ => ∃ (a : Addr) (L : List Int) (cs : List (List (List Int))), vs = [.ref a] ∧ SqL K H a (L.map V.int) ∧ L.length ≤ 30000 ∧ PyFlat.calls PyKh374.shape L.length L = some cs ∧
  ∀ (p : Addr) (us : List V) (H' : Hp), Ex H H' → H p = none → H' p = some (.lst us) → All2 (cs.map (rCal C)) us (nw (fun a => H a ≠ none) H') → Q (.ref p) H'
theorem calls_inv {sh : Int → Option (Nat × Nat)} {f : Nat} {x : Int} {r : List Int} {cs : List (List (List Int))} (h : PyFlat.calls sh f (x :: r) = some cs) : ∃ g c t ds, f = g + 1 ∧ PyFlat.call sh (x :: r) = some (c, t) ∧ PyFlat.calls sh g t = some ds ∧ cs = c :: ds := by
  match f with
  | 0 => cases h
  | g + 1 =>
    have h : (match PyFlat.call sh (x :: r) with
      | none => none
      | some (c, t) => match PyFlat.calls sh g t with
        | none => none
        | some cs => some (c :: cs)) = some cs := h
    cases e : PyFlat.call sh (x :: r) with
    | none =>
      rw [e] at h
      cases h
    | some q =>
      obtain ⟨c, t⟩ := q
      rw [e] at h
      have h : (match PyFlat.calls sh g t with
        | none => none
        | some cs => some (c :: cs)) = some cs := h
      cases e2 : PyFlat.calls sh g t with
      | none =>
        rw [e2] at h
        cases h
      | some ds =>
        rw [e2] at h
        exact ⟨g, c, t, ds, rfl, rfl, e2, (Option.some.inj h).symm⟩
theorem calls_nil {sh : Int → Option (Nat × Nat)} {f : Nat} {cs : List (List (List Int))} (h : PyFlat.calls sh f [] = some cs) : cs = [] := by
  cases f with
  | zero => exact (Option.some.inj h).symm
  | succ g => exact (Option.some.inj h).symm
theorem all2_snoc {H : Hp} {R : Rp} {v : V} : ∀ {Rs : List Rp} {vs : List V}, All2 Rs vs H → R.is v H → All2 (Rs ++ [R]) (vs ++ [v]) H
  | [], vs, h, hv => by
    rw [show vs = [] from h]
    exact ⟨v, [], rfl, hv, rfl⟩
  | S :: Rs, vs, ⟨u, r, h1, h2, h3⟩, hv => by
    rw [h1]
    exact ⟨u, r ++ [v], rfl, h2, all2_snoc h3 hv⟩
theorem ev_len {K : PySem.W.Frag} {σ : L2.St} {H : Hp} {te : TE} {a : Addr} {xs : List V} (h : EvP te σ H (rV (.ref a))) (hS : SqL K H a xs) : EvP (tCB (fun ys H Q => ∃ p zs, ys = [.ref p] ∧ (SqL K H p zs ∨ SqT K H p zs) ∧ Q (.int zs.length) H) (tCons te tNil)) σ H (rInt xs.length) := fun H1 e Q q =>
  h H1 e _ fun v H2 e2 hv => ⟨a, xs, by rw [show v = .ref a from hv], .inl (Evl.ex_l (e.trans e2) hS), q _ H2 e2 rfl⟩
theorem evt_lt {σ : L2.St} {H : Hp} {te tf : TE} {i j : Int} (h1 : EvP te σ H (rInt i)) (h2 : EvP tf σ H (rInt j)) : EvT (tTest (tOp (rI0 fun i j => .bl (decide (i < j))) te tf)) σ H (decide (i < j)) := fun H1 e Q q =>
  h1 H1 e _ fun x H2 e2 hx => h2 H2 (e.trans e2) _ fun y H3 e3 hy => ⟨i, j, hx, hy, _, rfl, q H3 (e2.trans e3)⟩
theorem sc_read_calls : FnScope ["calls", "found", "at", "call"] ["calls"] (defScope s_read_calls) := ⟨rfl, rfl, rfl, by decide +kernel, rfl, by decide +kernel, by decide +kernel⟩
theorem good_read_calls {fI : Addr} {fdI : FuncData} (d : Decl K mg "read_calls" s_read_calls) (T : CallC K C) (M : Mk K C fI) (G : FnOk P w K mg base CX0 1 fI fdI ["self", "calls", "at"] (spCallI K C)) (bI : Binds K fdI ["self", "calls", "at"] []) (gC : mg "Call" = some (.ref C)) (ml : mg "len" = none) :
    Good P w K mg base "read_calls" 3 ["calls"] (spRead K C) := by
  refine d.good sc_read_calls (fun _ _ _ _ _ _ us hl => match us, hl with | [_], _ => rfl) (fun vs H Q E h => ?_) fun f cdv A outer s H vs Q E hr h => ?_
  · obtain ⟨_, _, _, rfl, _⟩ := h
    rfl
  obtain ⟨a, L, cs, rfl, hS, hlen, hcs, q⟩ := h
  refine ⟨_, pss_cons (ps_set (i := 1) sc_read_calls.nd rfl (.inl rfl) (pe_lst pa_nil))
    (pss_cons (ps_set (i := 2) sc_read_calls.nd rfl (.inl rfl) pe_int)
    (pss_cons (ps_while PassesOwn.never (pt_cmpR op_lt (pv 2) (pe_callB call_len_seq (by rfl) ml PySem.boot_len (pa_cons (pv 0) pa_nil)) (nomark _))
      (pss_cons (ps_set (i := 3) sc_read_calls.nd rfl (.inl rfl) (pe_make M G hr (by rfl) gC bI .nil pass0 (pa_cons (pv 0) (pa_cons (pv 2) pa_nil))))
      (pss_cons (ps_expr (pe_bm PySem.F.plainAttrs_list PySem.F.slot_list_append PySem.F.type_list_append mt_append (pv 1) (pa_cons (pv 3) pa_nil)))
      (pss_one (ps_set (i := 2) sc_read_calls.nd rfl (.inl rfl) (pe_fld (pv 3) rfl))))))
    (pss_one (ps_ret (pv 1))))), ?_⟩
  refine s_st (σ2 := [some (.ref a), none, none, none]) rfl ?_
  refine ⟨Nat.zero_le _, fun q0 nq0 => ?_⟩
  let B : Addr → Prop := fun a => H a ≠ none ∨ a = q0
  have Bq : B q0 := .inr rfl
  have e1 : Ex H (L2.upd H q0 (.lst [])) := Ex.new nq0
  refine ⟨fun m σ' H' => ∃ (b : Nat) (v3 : Option V) (f : Nat) (ds es : List (List (List Int))) (us : List V), σ' = [some (.ref a), some (.ref q0), some (.int (b : Int)), v3] ∧ m = L.length - b ∧ b ≤ L.length ∧ PyFlat.calls PyKh374.shape f (L.drop b) = some es ∧ cs = ds ++ es ∧ ds.length ≤ b ∧ Ex H (er q0 H') ∧ H' q0 = some (.lst us) ∧ All2 (ds.map (rCal C)) us (nw B H'), ⟨L.length, 0, none, L.length, [], cs, [], rfl, rfl, Nat.zero_le _, hcs, rfl, Nat.zero_le _, fun p o hp => ?_, upd_same, rfl⟩, ?_⟩
  · rw [er_ne (ne_of_none hp nq0)]
    exact e1 p o hp
  rintro m σ' H' ⟨b, v3, f, ds, es, us, rfl, rfl, hb, hes, hds, hdl, hex, hq0, hus⟩
  have exH : Ex H H' := hex.trans (er_ex q0 H')
  have hz : (L.map V.int).length = L.length := List.length_map _
  refine evt_lt (evp_var rfl rfl) (ev_len (evp_var rfl rfl) (Evl.ex_l exH hS)) H' (Ex.refl _) _ fun H2 e2 => ?_
  rw [hz]
  have ex2 : Ex (er q0 H') (er q0 H2) := er_mono e2
  have hq2 := e2 _ _ hq0
  by_cases hbl : b < L.length
  · have dt : decide ((b : Int) < (L.length : Int)) = true := decide_eq_true (by omega)
    rw [dt]
    refine iteT ?_
    obtain ⟨x, r, hxr⟩ : ∃ x r, L.drop b = x :: r := by
      cases e : L.drop b with
      | nil =>
        have := congrArg List.length e
        rw [List.length_drop] at this
        simp at this
        omega
      | cons x r => exact ⟨x, r, rfl⟩
    rw [hxr] at hes
    obtain ⟨g, c, t, es', _, hc, hg, rfl⟩ := calls_inv hes
    obtain ⟨p, r', n, k, xs, _, _, _, _, ec⟩ := call_inv hc
    rw [← hxr] at hc
    refine ⟨fun σ2 H3 => ∃ (b' : Nat) (v3 : Option V) (us : List V), σ2 = [some (.ref a), some (.ref q0), some (.int (b' : Int)), v3] ∧ b < b' ∧ b' ≤ L.length ∧ L.drop b' = t ∧ Ex H (er q0 H3) ∧ H3 q0 = some (.lst us) ∧ All2 ((ds ++ [c]).map (rCal C)) us (nw B H3), ?_, ?_⟩
    · rintro σ2 H3 ⟨b', v3, us', rfl, hbb, hbl', ht, hex', hq', hus'⟩
      refine ⟨L.length - b', by omega, b', v3, g, ds ++ [c], es', us', rfl, rfl, hbl', by rw [ht]; exact hg, by rw [hds, List.append_assoc]; rfl, ?_, hex', hq', hus'⟩
      rw [List.length_append]
      show ds.length + 1 ≤ b'
      omega
    · show tSeq _ _ _ [some (.ref a), some (.ref q0), some (.int (b : Int)), v3] H2
      -- call = Call(calls, at)
      refine ⟨_, rfl, _, rfl, fun x dx nx nd ne => ?_⟩
      have exn : Ex H2 (L2.upd (L2.upd H2 dx (.own x)) x (.ins C dx [])) := fun p o hp => by
        rw [upd_ne (ne_of_none hp nx), upd_ne (ne_of_none hp nd)]
        exact hp
      have nxq : q0 ≠ x := ne_of_none hq2 nx
      rw [ec] at hc
      refine ⟨x, dx, a, L, b, p, r'.take n, xs, t, rfl, upd_same, Evl.ex_l ((exH.trans e2).trans exn) hS, hlen, hc, fun b' H3 hb1 hb2 hb3 kp rep repE => ⟨rfl, ?_⟩⟩
      have e3 : Ex H2 H3 := fun p o hp => kp p o (exn p o hp) (ne_of_none hp nx)
      have hq3 := e3 _ _ hq2
      have rep2 := repE B fun b hb => by
        rcases hb with hb | hb
        · cases hh : H b with
          | none => exact absurd hh hb
          | some o =>
            have h2 := (exH.trans e2) _ _ hh
            exact ⟨ne_of_none h2 nx, o, exn _ _ h2⟩
        · rw [hb]
          exact ⟨nxq, _, exn _ _ hq2⟩
      show tSeq _ _ _ [some (.ref a), some (.ref q0), some (.int (b : Int)), some (.ref x)] H3
      -- found.append(call)
      have us_len : us.length < 100000 := by
        rw [hus.len, List.length_map]
        omega
      refine s_seq (Evl.s_app (K := K) hq3 (ev_of (evp_var rfl rfl)) (ev_of (evp_var (v := .ref x) rfl rfl)) us_len fun H4 e4 => ?_)
      -- at = call.behind
      have rep4 : (rCall C p (r'.take n) xs b').is (.ref x) (L2.upd H4 q0 (.lst (us ++ [.ref x]))) := Rp.stay _ (nw_ex B _) (by rw [nw_upd Bq]; exact Rp.stay _ (nw_mono e4) rep2)
      have lkb : List.lookup ("behind" : Str) [("number", rInt p), ("told", rInts (r'.take n)), ("rows", rLst (xs.map rInts)), ("behind", rInt (b' : Int))] = some (rInt (b' : Int)) := by
        have a1 : (("behind" : Str) == "number") = false := by decide +kernel
        have a2 : (("behind" : Str) == "told") = false := by decide +kernel
        have a3 : (("behind" : Str) == "rows") = false := by decide +kernel
        simp only [List.lookup, a1, a2, a3, beq_self_eq_true]
      refine evp_fld T.cl T.nB (evp_var (R := rCall C p (r'.take n) xs b') rfl rep4) lkb _ (Ex.refl _) _ fun v H5 e5 hv => ?_
      have hv : v = .int (b' : Int) := hv
      subst hv
      refine ⟨b', some (.ref x), us ++ [.ref x], rfl, hb1, hb2, hb3, ?_, e5 _ _ upd_same, ?_⟩
      · refine (hex.trans ex2).trans ((er_mono e3).trans ((er_mono e4).trans ?_))
        have := er_mono (q := q0) e5
        rw [er_upd] at this
        exact this
      · have e45 : Ex (nw B H4) (nw B H5) := by
          have := nw_mono (B := B) e5
          rw [nw_upd Bq] at this
          exact this
        rw [List.map_append]
        refine all2_snoc (hus.stay ((nw_mono e2).trans ((nw_mono e3).trans ((nw_mono e4).trans e45)))) ⟨b', Rp.stay _ ((nw_mono e4).trans e45) ?_⟩
        rw [ec]
        exact rep2
  · have dt : decide ((b : Int) < (L.length : Int)) = false := decide_eq_false (by omega)
    rw [dt]
    refine iteF ?_
    rw [List.drop_of_length_le (by omega)] at hes
    have := calls_nil hes
    subst this
    rw [List.append_nil] at hds
    subst hds
    refine ⟨_, rfl, q q0 us H2 (exH.trans e2) nq0 hq2 (hus.stay fun a o ho => by
      obtain ⟨h1, h2⟩ := nw_some ho
      rw [nw_ne fun z => h1 (.inl z)]
      exact e2 _ _ h2)⟩
end
end Ds
end
section
set_option Elab.async false
set_option linter.all false
set_option maxRecDepth 100000
set_option maxHeartbeats 2000000
/-! zip of a tuple and a list: the one pair of kinds that the layer has no row for. -/
namespace ZM
open PySem
section
variable {prog : Program} {w : World} {A : Around} {E : Value → Shared → Prop} {s : Shared} {z TI TO i1 i2 l1 l2 : Addr} {m n : Nat} {us vs : Array Value} {p q : Value}
abbrev Rest (s : Shared) (z TO i1 i2 : Addr) (h : Heap) : Prop := ∀ c o, c ≠ z → c ≠ TO → c ≠ i1 → c ≠ i2 → s.heap.get? c = some o → h.get? c = some o
theorem one {x y : Value} {Q : Value → Shared → Prop} (D : ZipApart z TI TO i1 i2 l1 l2) (Z : IsZip s.heap z TI TO .none) (I : IsPair s.heap TI (.ref i1) (.ref i2)) (O : IsPair s.heap TO p q) (a1 : s.heap.IsTupleIter i1 l1 m) (a2 : s.heap.IsListIter i2 l2 n)
    (b1 : s.heap.IsTuple l1 us) (b2 : s.heap.IsList l2 vs) (ex : us[m]? = some x) (ey : vs[n]? = some y)
    (k : ∀ h, IsZip h z TI TO (rawInt s.heap.objs.size) → IsPair h TO x y → h.IsTupleIter i1 l1 (m + 1) → h.IsListIter i2 l2 (n + 1) → IsPair h s.heap.objs.size x y → h.objs.size = s.heap.objs.size + 1 → Rest s z TO i1 i2 h → Q (.ref s.heap.objs.size) { s with heap := h }) :
    wpAny (model prog w) A (Builtin.«zip.__next__» ⟨[.ref z], []⟩) (fun fin t => ∃ v, fin = .done (.ret v) ∧ Q v t) E s := by
  show wpAny _ _ (field (.ref z) 2 >>= _) _ _ _; refine wpAny_bind (wpAny_field Z rfl (x := .bool false) rfl ?_)
  show wpAny _ _ (field (.ref z) 3 >>= _) _ _ _; refine wpAny_bind (wpAny_field Z rfl (x := .ref TI) rfl (wpAny_bind (wpAny_seqItems I rfl ?_)))
  show wpAny _ _ (Builtin.SmallTypes.ownedTupleIsFree (.ref z) >>= _) _ _ _; refine wpAny_bind ?_; unfold Builtin.SmallTypes.ownedTupleIsFree
  refine wpAny_bind (wpAny_field Z rfl (x := .none) rfl (wpAny_pure ?_)); simp only [if_true]; refine wpAny_bind (wpAny_rule (wpAny_bind (wpAny_field Z rfl (x := .ref TO) rfl ?_)))
  refine wpAny_bind (wpAny_setField_rec Z (by simp) fun g1 Z1 e1 => ?_); replace Z1 : IsZip g1 z TI TO .ellipsis := Z1
  refine wpAny_bind ?_; simp only [List.zipIdx_cons, List.zipIdx_nil, List.forIn_cons, List.forIn_nil]; refine wpAny_bind (wpAny_bind (wpAny_onRaise ?_))
  show wpAny _ _ (Builtin.SmallTypes.nextOf (.ref i1) >>= _) _ _ _; refine wpAny_bind (RZ.nextOf_tuple_item (a1.extBut e1.extBut D.i1z) (b1.extBut e1.extBut D.l1z) ex fun g2 c1 e2 => wpAny_pure ?_)
  have O2 : IsPair g2 TO p q := e2.extBut _ _ D.TOi1 (e1.extBut _ _ D.TOz O)
  refine wpAny_bind (wpAny_seqItems O2 rfl (wpAny_bind (wpAny_updateSeq_pair O2 fun g3 O3 e3 => ?_))); replace O3 : IsPair g3 TO x q := O3
  refine wpAny_bind (wpAny_letGo (wpAny_pure ?_)); refine wpAny_bind (wpAny_bind (wpAny_onRaise ?_))
  show wpAny _ _ (Builtin.SmallTypes.nextOf (.ref i2) >>= _) _ _ _
  have a2' := ((a2.extBut e1.extBut D.i2z).extBut e2.extBut D.i12.symm).extBut e3.extBut D.TOi2.symm
  have b2' := ((b2.extBut e1.extBut D.l2z).extBut e2.extBut D.l2i1).extBut e3.extBut D.l2TO
  refine wpAny_bind (wpAny_nextOf_list_item a2' b2' ey fun g4 c2 e4 => wpAny_pure ?_)
  have O4 : IsPair g4 TO x q := e4.extBut _ _ D.TOi2 O3
  refine wpAny_bind (wpAny_seqItems O4 rfl (wpAny_bind (wpAny_updateSeq_pair O4 fun g5 O5 e5 => ?_))); replace O5 : IsPair g5 TO x y := O5
  refine wpAny_bind (wpAny_letGo (wpAny_pure (wpAny_pure ?_))); refine wpAny_bind (wpAny_seqItems O5 rfl (wpAny_bind (wpAny_newTuple ?_)))
  have ez : g5.objs.size = s.heap.objs.size := by rw [e5.1, e4.1, e3.1, e2.1, e1.1]
  have Z5 : IsZip g5 z TI TO .ellipsis := e5.extBut _ _ D.TOz.symm (e4.extBut _ _ D.i2z.symm (e3.extBut _ _ D.TOz.symm (e2.extBut _ _ D.i1z.symm Z1)))
  have R5 : Rest s z TO i1 i2 g5 := fun c o d1 d2 d3 d4 e => e5.extBut _ _ d2 (e4.extBut _ _ d4 (e3.extBut _ _ d2 (e2.extBut _ _ d3 (e1.extBut _ _ d1 e))))
  have f1 : g5.IsTupleIter i1 l1 (m + 1) := ((c1.extBut e3.extBut D.TOi1.symm).extBut e4.extBut D.i12).extBut e5.extBut D.TOi1.symm
  have f2 : g5.IsListIter i2 l2 (n + 1) := c2.extBut e5.extBut D.TOi2.symm
  have zl : z < g5.objs.size := Heap.lt_size Z5
  show wpAny _ _ (Builtin.SmallTypes.ownedTupleHandOut (.ref z) (.ref g5.objs.size) >>= _) _ _ _; refine wpAny_bind ?_; unfold Builtin.SmallTypes.ownedTupleHandOut
  have Z6 : IsZip (g5.push { cls := .type "tuple", data := .seq #[x, y] }) z TI TO .ellipsis := Heap.get?_push_of_some _ Z5
  refine wpAny_bind (wpAny_setField_rec Z6 (by simp) fun g7 Z7 e7 => ?_); replace Z7 : IsZip g7 z TI TO (rawInt g5.objs.size) := Z7
  refine wpAny_setField_rec Z7 (by simp) fun g8 Z8 e8 => ?_; replace Z8 : IsZip g8 z TI TO (rawInt g5.objs.size) := Z8
  have lift : ∀ c o, c ≠ z → g5.get? c = some o → g8.get? c = some o := fun c o d e => e8.extBut _ _ d (e7.extBut _ _ d (Heap.get?_push_of_some _ e))
  have T8 : IsPair g8 g5.objs.size x y := e8.extBut _ _ (Nat.ne_of_gt zl) (e7.extBut _ _ (Nat.ne_of_gt zl) (Heap.get?_push_size _ rfl))
  have s8 : g8.objs.size = g5.objs.size + 1 := by rw [e8.1, e7.1, Heap.size_push]
  rw [ez] at Z8 T8 s8; refine wpAny_pure ⟨_, rfl, ?_⟩; show Q (.ref g5.objs.size) _; rw [ez]
  exact k g8 Z8 (lift _ _ D.TOz O5) (f1.at fun o e => lift _ o D.i1z e) (f2.at fun o e => lift _ o D.i2z e) T8 s8 fun c o d1 d2 d3 d4 e => lift c o d1 (R5 c o d1 d2 d3 d4 e)
theorem last {Q : Fin → Shared → Prop} (hh : A.handled = none) (D : ZipApart z TI TO i1 i2 l1 l2) (Z : IsZip s.heap z TI TO .none) (I : IsPair s.heap TI (.ref i1) (.ref i2)) (O : IsPair s.heap TO p q) (a1 : s.heap.IsTupleIter i1 l1 m) (a2 : s.heap.IsListIter i2 l2 n)
    (b1 : s.heap.IsTuple l1 us) (b2 : s.heap.IsList l2 vs) (fin : us[m]? = none ∨ vs[n]? = none)
    (k : ∀ h e, Rest s z TO i1 i2 h → (∃ o, h.get? e = some o ∧ o.cls = .type "StopIteration") → E (.ref e) { s with heap := h }) : wpAny (model prog w) A (Builtin.«zip.__next__» ⟨[.ref z], []⟩) Q E s := by
  show wpAny _ _ (field (.ref z) 2 >>= _) _ _ _; refine wpAny_bind (wpAny_field Z rfl (x := .bool false) rfl ?_)
  show wpAny _ _ (field (.ref z) 3 >>= _) _ _ _; refine wpAny_bind (wpAny_field Z rfl (x := .ref TI) rfl (wpAny_bind (wpAny_seqItems I rfl ?_)))
  show wpAny _ _ (Builtin.SmallTypes.ownedTupleIsFree (.ref z) >>= _) _ _ _; refine wpAny_bind ?_; unfold Builtin.SmallTypes.ownedTupleIsFree
  refine wpAny_bind (wpAny_field Z rfl (x := .none) rfl (wpAny_pure ?_)); simp only [if_true]; refine wpAny_bind (wpAny_rule (wpAny_bind (wpAny_field Z rfl (x := .ref TO) rfl ?_)))
  refine wpAny_bind (wpAny_setField_rec Z (by simp) fun g1 Z1 e1 => ?_); replace Z1 : IsZip g1 z TI TO .ellipsis := Z1
  refine wpAny_bind ?_; simp only [List.zipIdx_cons, List.zipIdx_nil, List.forIn_cons, List.forIn_nil]; refine wpAny_bind (wpAny_bind (wpAny_onRaise ?_))
  show wpAny _ _ (Builtin.SmallTypes.nextOf (.ref i1) >>= _) _ _ _
  cases ex : us[m]? with
  | none =>
    refine wpAny_bind (RZ.nextOf_tuple_end hh (a1.extBut e1.extBut D.i1z) (b1.extBut e1.extBut D.l1z) ex fun g2 e e2 ⟨oe, he, ce⟩ => ?_)
    have Z2 : IsZip g2 z TI TO .ellipsis := e2 _ _ D.i1z.symm Z1
    have ne : e ≠ z := fun t => by (subst t; rw [Z2] at he; cases he; simp at ce)
    refine wpAny_setField_rec Z2 (by simp) fun g3 _ e3 => k g3 e (fun c o d1 _ d3 _ t => e3.extBut _ _ d1 (e2 _ _ d3 (e1.extBut _ _ d1 t))) ⟨oe, e3.extBut _ _ ne he, ce⟩
  | some x =>
    have ey : vs[n]? = none := by (rcases fin with h | h; (rw [ex] at h; cases h); exact h)
    refine wpAny_bind (RZ.nextOf_tuple_item (a1.extBut e1.extBut D.i1z) (b1.extBut e1.extBut D.l1z) ex fun g2 c1 e2 => wpAny_pure ?_)
    have O2 : IsPair g2 TO p q := e2.extBut _ _ D.TOi1 (e1.extBut _ _ D.TOz O)
    refine wpAny_bind (wpAny_seqItems O2 rfl (wpAny_bind (wpAny_updateSeq_pair O2 fun g3 O3 e3 => ?_))); refine wpAny_bind (wpAny_letGo (wpAny_pure ?_)); refine wpAny_bind (wpAny_bind (wpAny_onRaise ?_))
    show wpAny _ _ (Builtin.SmallTypes.nextOf (.ref i2) >>= _) _ _ _
    have a2' := ((a2.extBut e1.extBut D.i2z).extBut e2.extBut D.i12.symm).extBut e3.extBut D.TOi2.symm
    have b2' := ((b2.extBut e1.extBut D.l2z).extBut e2.extBut D.l2i1).extBut e3.extBut D.l2TO
    refine wpAny_bind (wpAny_nextOf_list_end hh a2' b2' ey fun g4 e e4 ⟨oe, he, ce⟩ => ?_)
    have Z4 : IsZip g4 z TI TO .ellipsis := e4 _ _ D.i2z.symm (e3.extBut _ _ D.TOz.symm (e2.extBut _ _ D.i1z.symm Z1))
    have ne : e ≠ z := fun t => by (subst t; rw [Z4] at he; cases he; simp at ce)
    refine wpAny_setField_rec Z4 (by simp) fun g5 _ e5 => k g5 e (fun c o d1 d2 d3 d4 t => e5.extBut _ _ d1 (e4 _ _ d4 (e3.extBut _ _ d2 (e2.extBut _ _ d3 (e1.extBut _ _ d1 t))))) ⟨oe, e5.extBut _ _ ne he, ce⟩
theorem nextI {x y : Value} {Q : Option Value → Shared → Prop} (D : ZipApart z TI TO i1 i2 l1 l2) (Z : IsZip s.heap z TI TO .none) (I : IsPair s.heap TI (.ref i1) (.ref i2)) (O : IsPair s.heap TO p q) (a1 : s.heap.IsTupleIter i1 l1 m) (a2 : s.heap.IsListIter i2 l2 n)
    (b1 : s.heap.IsTuple l1 us) (b2 : s.heap.IsList l2 vs) (ex : us[m]? = some x) (ey : vs[n]? = some y)
    (k : ∀ h, IsZip h z TI TO (rawInt s.heap.objs.size) → IsPair h TO x y → h.IsTupleIter i1 l1 (m + 1) → h.IsListIter i2 l2 (n + 1) → IsPair h s.heap.objs.size x y → h.objs.size = s.heap.objs.size + 1 → Rest s z TO i1 i2 h → Q (some (.ref s.heap.objs.size)) { s with heap := h }) :
    wpAny (model prog w) A (pyNext (.ref z)) Q E s := by
  have T : s.TypeIs (.ref z) "zip" := ⟨_, Z, rfl⟩
  unfold pyNext; exact wpAny_bind (wpAny_attempt (wpAny_callSpecial?_slot (name := Str.ofString "__next__") T F.slot_zip_next (wpAny_call_entry F.slot_zip_next T F.entry_zip_next (one D Z I O a1 a2 b1 b2 ex ey fun h r1 r2 r3 r4 r5 r6 r7 => wpAny_pure (k h r1 r2 r3 r4 r5 r6 r7)) (F.args_zip_next_1 _))))
theorem nextE {Q : Option Value → Shared → Prop} (hh : A.handled = none) (D : ZipApart z TI TO i1 i2 l1 l2) (Z : IsZip s.heap z TI TO .none) (I : IsPair s.heap TI (.ref i1) (.ref i2)) (O : IsPair s.heap TO p q) (a1 : s.heap.IsTupleIter i1 l1 m) (a2 : s.heap.IsListIter i2 l2 n)
    (b1 : s.heap.IsTuple l1 us) (b2 : s.heap.IsList l2 vs) (fin : us[m]? = none ∨ vs[n]? = none) (k : ∀ h, Rest s z TO i1 i2 h → Q none { s with heap := h }) : wpAny (model prog w) A (pyNext (.ref z)) Q E s := by
  have T : s.TypeIs (.ref z) "zip" := ⟨_, Z, rfl⟩
  unfold pyNext; refine wpAny_bind (wpAny_attempt (wpAny_callSpecial?_slot (name := Str.ofString "__next__") T F.slot_zip_next (wpAny_call_entry F.slot_zip_next T F.entry_zip_next (last hh D Z I O a1 a2 b1 b2 fin fun h e r ⟨o, ho, hc⟩ => ?_) (F.args_zip_next_1 _))))
  exact wpAny_bind (wpAny_isInstance (T := "StopIteration") (b := true) ⟨o, ho, hc⟩ isSubtype_stop (wpAny_pure (k _ r)))
end
abbrev p1 (h : Heap) (l1 : Addr) : Heap := h.push { cls := .type "tuple_iterator", data := .fields #[.ref l1, .int 0 0] }
abbrev p2 (h : Heap) (l1 l2 : Addr) : Heap := (p1 h l1).push { cls := .type "list_iterator", data := .fields #[.ref l2, .int 0 0] }
abbrev p3 (h : Heap) (l1 l2 : Addr) : Heap := (p2 h l1 l2).push { cls := .type "tuple", data := .seq #[.ref h.objs.size, .ref (p1 h l1).objs.size] }
abbrev p4 (h : Heap) (l1 l2 : Addr) : Heap := (p3 h l1 l2).push { cls := .type "tuple", data := .seq #[.none, .none] }
abbrev p5 (h : Heap) (l1 l2 : Addr) : Heap := (p4 h l1 l2).push { cls := .type "zip", data := .fields #[.none, .bool false, .bool false, .ref (p2 h l1 l2).objs.size, .ref (p3 h l1 l2).objs.size] }
theorem made (l1 l2 : Addr) (us vs : Array Value) : Meets (Builtin.«zip.__new__» ⟨[.type "zip", .ref l1, .ref l2], []⟩) (fun _ R s => s.heap.IsTuple l1 us ∧ s.heap.IsList l2 vs ∧ R (.ok (.ret (.ref (p4 s.heap l1 l2).objs.size))) { s with heap := p5 s.heap l1 l2 }) :=
  .of_wp fun prog w A R s h => by
    obtain ⟨hp, g, d, tk, os⟩ := s; obtain ⟨b1, b2, h⟩ := h; have sz := sub_zip
    have B1 : Heap.IsTuple (Shared.heap ⟨hp, g, d, tk, os⟩) l1 us := b1
    have B2 : Heap.IsList (Shared.heap ⟨hp.push { cls := .type "tuple_iterator", data := .fields #[.ref l1, .int 0 0] }, g, d, tk, os⟩) l2 vs := Heap.IsList.push b2 _
    wp_walk using wpAny_pyIter_tuple B1, wpAny_pyIter_list B2
    exact ⟨_, rfl, h⟩
theorem begin_ {prog : Program} {w : World} {A : Around} {E : Value → Shared → Prop} {s : Shared} {l1 l2 : Addr} {us vs : Array Value} {Q : Value → Shared → Prop} (b1 : s.heap.IsTuple l1 us) (b2 : s.heap.IsList l2 vs)
    (k : ∀ h, IsZip h (s.heap.objs.size + 4) (s.heap.objs.size + 2) (s.heap.objs.size + 3) .none → IsPair h (s.heap.objs.size + 2) (.ref s.heap.objs.size) (.ref (s.heap.objs.size + 1)) → IsPair h (s.heap.objs.size + 3) .none .none → h.IsTupleIter s.heap.objs.size l1 0 →
      h.IsListIter (s.heap.objs.size + 1) l2 0 → (∀ c o, s.heap.get? c = some o → h.get? c = some o) → Q (.ref (s.heap.objs.size + 4)) { s with heap := h }) : wpAny (model prog w) A (call (.type "zip") [.ref l1, .ref l2]) Q E s := by
  refine callType_new F.called_zip (by decide) (F.typeCall_zip_2 _ _) (F.newCall_zip_2 _ _) (fun obj => F.args_object_init_3 obj _ _) F.entry_zip_new (made l1 l2 us vs) ⟨b1, b2, ?_⟩
  have n1 : (p1 s.heap l1).objs.size = s.heap.objs.size + 1 := Heap.size_push ..
  have n2 : (p2 s.heap l1 l2).objs.size = s.heap.objs.size + 2 := by rw [Heap.size_push, n1]
  have n3 : (p3 s.heap l1 l2).objs.size = s.heap.objs.size + 3 := by rw [Heap.size_push, n2]
  have n4 : (p4 s.heap l1 l2).objs.size = s.heap.objs.size + 4 := by rw [Heap.size_push, n3]
  have up := fun (h : Heap) (o : Obj) (c : Addr) (u : Obj) (e : h.get? c = some u) => Heap.get?_push_of_some (h := h) o e
  have r5 : (p5 s.heap l1 l2).get? (p4 s.heap l1 l2).objs.size = some _ := Heap.get?_push_size _ rfl
  have r4 : (p5 s.heap l1 l2).get? (p3 s.heap l1 l2).objs.size = some _ := up _ _ _ _ (Heap.get?_push_size _ rfl)
  have r3 : (p5 s.heap l1 l2).get? (p2 s.heap l1 l2).objs.size = some _ := up _ _ _ _ (up _ _ _ _ (Heap.get?_push_size _ rfl))
  have r2 : (p5 s.heap l1 l2).get? (p1 s.heap l1).objs.size = some _ := up _ _ _ _ (up _ _ _ _ (up _ _ _ _ (Heap.get?_push_size _ rfl)))
  have r1 : (p5 s.heap l1 l2).get? s.heap.objs.size = some _ := up _ _ _ _ (up _ _ _ _ (up _ _ _ _ (up _ _ _ _ (Heap.get?_push_size _ rfl))))
  show _ ∧ _; rw [n2, n3, n4] at r5; rw [n1, n2] at r3; rw [n3] at r4; rw [n1] at r2; rw [n4]
  exact ⟨⟨_, r5, rfl⟩, k _ r5 r3 r4 ⟨_, r1, rfl, rfl⟩ ⟨_, r2, rfl, rfl⟩ fun c o e => up _ _ _ _ (up _ _ _ _ (up _ _ _ _ (up _ _ _ _ (up _ _ _ _ e))))⟩
end ZM
namespace Ds
open PySem PySem.Spec PyProof.Rows L2
/-- the tuple at a and the list at b, in new pairs -/
def ItM (K : PySem.W.Frag) (a b : Addr) : It :=
  ⟨fun i H => ∃ (us vs : List V) (x y : V), SqT K H a us ∧ SqL K H b vs ∧ us[i]? = some x ∧ vs[i]? = some y, fun i H v H' => ∃ T x y, v = .ref T ∧ H T = none ∧ H' = upd H T (.tup [x, y]) ∧ (∀ us, SqT K H a us → us[i]? = some x) ∧ ∀ vs, SqL K H b vs → vs[i]? = some y,
    fun i H => ∃ us vs : List V, SqT K H a us ∧ SqL K H b vs ∧ (us.length ≤ i ∨ vs.length ≤ i)⟩
theorem five {z TI TO i1 i2 c : Addr} (h : c ∈ [z, TI, TO, i1, i2]) : c = z ∨ c = TI ∨ c = TO ∨ c = i1 ∨ c = i2 := by simpa using h
theorem turnM {P : Program} {w : World} {K : PySem.W.Frag} {elts : List Expr} {kk : Nat} {tpos : Pos} {a b z TI TO i1 i2 : Addr} (D : ZipApart z TI TO i1 i2 a b) :
    Turn P w K (.Tuple elts kk tpos) (ItM K a b) [z, TI, TO, i1, i2] z (fun i h => IsZip h z TI TO .none ∧ IsPair h TI (.ref i1) (.ref i2) ∧ (∃ x y, IsPair h TO x y) ∧ h.IsTupleIter i1 a i ∧ h.IsListIter i2 b i) where
  mem := List.mem_cons_self
  obj := fun i h ⟨Z, I, ⟨x, y, O⟩, ⟨o1, e1, _, d1⟩, ⟨o2, e2, _, d2⟩⟩ c hc => by
    rcases five hc with t | t | t | t | t <;> rw [t]
    · exact ⟨_, Z, fun v r => nomatch r⟩
    · exact ⟨_, I, fun v r => nomatch r⟩
    · exact ⟨_, O, fun v r => nomatch r⟩
    · exact ⟨o1, e1, fun v r => by (rw [d1] at r; cases r)⟩
    · exact ⟨o2, e2, fun v r => by (rw [d2] at r; cases r)⟩
  keep := fun i h h' ⟨Z, I, ⟨x, y, O⟩, r1, r2⟩ k => ⟨k z (by simp) _ Z, k TI (by simp) _ I, ⟨x, y, k TO (by simp) _ O⟩, r1.at fun o e => k i1 (by simp) o e, r2.at fun o e => k i2 (by simp) o e⟩
  item := by
    intro X eP ew eK hc i pins s σ H E J hf ⟨Z, I, ⟨x0, y0, O⟩, r1, r2⟩ ⟨us, vs, x, y, qu, qv, hx, hy⟩
    subst eP ew eK
    obtain ⟨its, rv, t1, _⟩ := J.tuple qu; obtain ⟨its2, rv2, t2, _⟩ := J.list qv
    obtain ⟨u, hu, ru⟩ := rv.get hx; obtain ⟨v, hv, rv'⟩ := rv2.get hy
    have zl : z < s.heap.objs.size := Heap.lt_size Z
    refine ZM.nextI D Z I O r1 r2 t1 t2.isList (x := u) (y := v) (by simpa using hu) (by simpa using hv) fun g Z' O' k1 k2 T' _ hk => ?_
    refine ⟨_, rfl, wpAny_letOwnedTupleGo_zip (s := { s with heap := g }) Z' fun g2 Z2 sb => ?_⟩
    have T2 : g2.get? s.heap.objs.size = some { cls := .type "tuple", data := .seq #[u, v] } := (sb.2 _ (Nat.ne_of_gt zl)).trans T'
    have new : ObjOk X.prog X.w (upd H s.heap.objs.size (.tup [x, y])) g2 s.heap.objs.size (.tup [x, y]) := ⟨by show 2 ≤ sizeLine; decide, [u, v], .cons ru (.cons rv' .nil), ⟨_, T2, rfl, _, rfl⟩⟩
    have away : ∀ c, c ∉ [z, TI, TO, i1, i2] → c ≠ z ∧ c ≠ TO ∧ c ≠ i1 ∧ c ≠ i2 := fun c h => ⟨fun e => h (by simp [e]), fun e => h (by simp [e]), fun e => h (by simp [e]), fun e => h (by simp [e])⟩
    have J1 : Inv X pins σ (upd H s.heap.objs.size (.tup [x, y])) { s with heap := g2 } :=
      J.turnedNew (t' := s.toks) (ch := [z, TI, TO, i1, i2]) (fun c o hb e => (sb.2 c (away c hb).1).trans (hk c o (away c hb).1 (away c hb).2.1 (away c hb).2.2.1 (away c hb).2.2.2 e)) hf (Nat.le_refl _) new
    refine ⟨.ref s.heap.objs.size, _, J1, rfl, ⟨_, x, y, rfl, J.hok.fresh (Nat.le_refl _), rfl, fun l hl => (J.tuple_inj hl qu) ▸ hx, fun l hl => (J.list_inj hl qv) ▸ hy⟩, ⟨Z2, (sb.2 _ D.TIz).trans (hk _ _ D.TIz D.TITO D.TIi1 D.TIi2 I), ⟨u, v, (sb.2 _ D.TOz).trans O'⟩, k1.at fun o e => (sb.2 _ D.i1z).trans e, k2.at fun o e => (sb.2 _ D.i2z).trans e⟩, fun c hcm => ?_⟩
    have lt : c < s.heap.objs.size := by
      rcases five hcm with t | t | t | t | t <;> rw [t]
      · exact zl
      · exact Heap.lt_size I
      · exact Heap.lt_size O
      · obtain ⟨_, e, _⟩ := r1; exact Heap.lt_size e
      · obtain ⟨_, e, _⟩ := r2; exact Heap.lt_size e
    rw [upd_ne (Nat.ne_of_lt lt)]; exact (hf c hcm).1
  done := by
    intro X eP ew eK hc i pins s σ H E J hf ⟨Z, I, ⟨x0, y0, O⟩, r1, r2⟩ ⟨us, vs, qu, qv, fin⟩
    subst eP ew eK
    obtain ⟨its, rv, t1, _⟩ := J.tuple qu; obtain ⟨its2, rv2, t2, _⟩ := J.list qv
    have l1 := rv.length; have l2 := rv2.length
    have away : ∀ c, c ∉ [z, TI, TO, i1, i2] → c ≠ z ∧ c ≠ TO ∧ c ≠ i1 ∧ c ≠ i2 := fun c h => ⟨fun e => h (by simp [e]), fun e => h (by simp [e]), fun e => h (by simp [e]), fun e => h (by simp [e])⟩
    have he : its.toArray[i]? = none ∨ its2.toArray[i]? = none := fin.imp (fun r => by (simp; omega)) (fun r => by (simp; omega))
    exact ZM.nextE (J.ok.hd hc) D Z I O r1 r2 t1 t2.isList he fun g hk => ⟨rfl, J.turnedL (t' := s.toks) (ch := [z, TI, TO, i1, i2]) (fun c o hb e => hk c o (away c hb).1 (away c hb).2.1 (away c hb).2.2.1 (away c hb).2.2.2 e) hf⟩
  self := fun A i s Q E st h => wpAny_pyIter_zip st.1 h
def iZipM (K : PySem.W.Frag) (ta : TA) : TI := fun σ H R => ta σ H fun vs H1 => ∃ a b xs ys, vs = [.ref a, .ref b] ∧ SqT K H1 a xs ∧ SqL K H1 b ys ∧ R (ItM K a b) H1
theorem pi_zipM {X : Cx} {e e2 : Expr} {ta : TA} {p pos tpos : Pos} {elts : List Expr} {kk : Nat} (hg : Gl X "zip") (hm : X.mg "zip" = none) (ha : PA X [e, e2] ta) (hs : starEach [e, e2] X.env = (false, eval e X.env) :: starEach [e2] X.env := by rfl)
    (hpl : (backTo pos (starEach [e2] X.env)).any (·.1) = false := by rfl) : PI X (.Tuple elts kk tpos) (.Call (.Name "zip" p) [e, e2] [] pos) (iZipM X.K ta) := by
  refine ⟨fun pins s σ H R J h => ?_⟩; refine Call_ (ld_blt J hg hm PyProof.Rows.boot_zip (PyProof.Rows.callWith_type1 (thn (ha.run pos pins s σ H _ J h) fun us s1 ⟨vs, H1, J1, r1, q1⟩ => ?_) hs hpl))
  obtain ⟨a, b, xs, ys, ex, qx, qy, q⟩ := q1; subst ex
  cases r1 with
  | cons r rr =>
    cases rr with
    | cons r' rr =>
      cases rr; cases r; cases r'
      obtain ⟨its, rv, t1, _⟩ := J1.tuple qx; obtain ⟨its2, rv2, t2, _⟩ := J1.list qy
      obtain ⟨o1, ho1, _⟩ := id t1
      refine ZM.begin_ (show s1.heap.IsTuple a its.toArray from t1) t2.isList fun g Z I O k1 k2 hk => wpAny_pyIter_zip Z ?_
      have J2 : Inv X pins σ H1 { s1 with heap := g } := J1.kept (t' := s1.toks) hk
      have fr : ∀ c, c ∈ [s1.heap.objs.size + 4, s1.heap.objs.size + 2, s1.heap.objs.size + 3, s1.heap.objs.size, s1.heap.objs.size + 1] → FpOk X pins H1 c := fun c hcm => by
        have le : s1.heap.objs.size ≤ c := by
          rcases five hcm with t | t | t | t | t <;> rw [t]
          · exact Nat.le_add_right _ _
          · exact Nat.le_add_right _ _
          · exact Nat.le_add_right _ _
          · exact Nat.le_refl _
          · exact Nat.le_add_right _ _
        exact J1.fpOk le (J1.hok.fresh le)
      exact ⟨s1.heap.objs.size + 4, _, _, _, H1, rfl, J2, turnM (PySem.W.ktu_apart s1.heap.objs.size a b (Heap.lt_size ho1) t2.lt), ⟨Z, I, ⟨_, _, O⟩, k1, k2⟩, fr, q⟩
/-- for x, y in zip(tuple, list) -/
theorem for_zipM {K : PySem.W.Frag} {a b : Addr} {us vs : List V} {g : TG} {tb : TS} {D : Ends} {σ : L2.St} {H : Hp} (hl : us.length = vs.length) (Pv : Nat → L2.St → Hp → Prop) (h0 : Pv 0 σ H) (hq : ∀ i σ H, Pv i σ H → SqT K H a us ∧ SqL K H b vs)
    (hs : ∀ (i : Nat) (x y : V) (T : Addr) (σ : L2.St) (H : Hp), us[i]? = some x → vs[i]? = some y → Pv i σ H → H T = none → g (.ref T) σ (upd H T (.tup [x, y])) fun σ2 H2 => tb { D with nx := Pv (i + 1), ct := Pv (i + 1), bk := D.nx } σ2 H2) (hd : ∀ σ H, Pv us.length σ H → D.nx σ H) :
    ∃ W : Nat → Nat → L2.St → Hp → Prop, (∃ m, W 0 m σ H) ∧ ∀ i m σ H, W i m σ H → ((ItM K a b).stop i H ∧ D.nx σ H) ∨ ((ItM K a b).go i H ∧ ∃ N : L2.St → Hp → Prop, (∀ σ' H', N σ' H' → ∃ m', m' < m ∧ W (i + 1) m' σ' H') ∧ ∀ x H', (ItM K a b).yld i H x H' → g x σ H' fun σ2 H2 => tb { D with nx := N, ct := N, bk := D.nx } σ2 H2) := by
  refine ⟨fun i m σ H => m = us.length - i ∧ i ≤ us.length ∧ Pv i σ H, ⟨us.length, by simp, Nat.zero_le _, h0⟩, ?_⟩
  rintro i m σ H ⟨rfl, hi, p⟩
  obtain ⟨qa, qb⟩ := hq i σ H p
  by_cases lt : i < us.length
  · have lt2 : i < vs.length := by omega
    have eu : us[i]? = some us[i] := List.getElem?_eq_getElem lt
    have ev : vs[i]? = some vs[i] := List.getElem?_eq_getElem lt2
    refine .inr ⟨⟨us, vs, us[i], vs[i], qa, qb, eu, ev⟩, Pv (i + 1), fun σ' H' p' => ⟨us.length - (i + 1), by omega, rfl, lt, p'⟩, fun x H' y => ?_⟩
    obtain ⟨T, x', y', rfl, nT, rfl, f1, f2⟩ := y
    exact hs i x' y' T σ H (f1 us qa) (f2 vs qb) p nT
  · have e : i = us.length := by omega
    subst e
    exact .inl ⟨⟨us, vs, qa, qb, .inl (Nat.le_refl _)⟩, hd σ H p⟩
/-! ### xs[i] op= e, of a list -/
theorem get_list {X : Cx} : PGet X (rIxL X.K) := by
  intro pins s σ H o i ov iv Q J ro ri ⟨p, xs, k, z, eo, ei, qx, at_, q⟩
  subst eo ei; cases ro; obtain ⟨t, rfl⟩ := ri
  obtain ⟨its, r, pl, hz⟩ := J.list qx
  obtain ⟨j, h1, h2, h3, h4, h5⟩ := atI_get at_
  obtain ⟨w, ew, rw'⟩ := r.get h2
  have hl := r.length; have hn := line63
  have fin : EP X pins σ Q w s := ⟨z, H, J, rw', q⟩
  by_cases h0 : 0 ≤ k
  · have hj : k.toNat = j := Option.some.inj ((seqIndex_of h0 h5).symm.trans h1)
    exact getItem_listL pl.isList h0 (Int.lt_of_lt_of_le h5 (by omega)) (by rw [hj]; exact ew) fin
  · have hj : (k + (its.toArray.size : Int)).toNat = j := by
      rw [List.size_toArray, ← hl]; exact Option.some.inj ((seqIndex_neg (by omega) h4).symm.trans h1)
    exact wpAny_getItem_list_neg pl.isList (by omega) (by rw [List.size_toArray] <;> omega) (by omega) (by rw [hj]; simpa using ew) fin
end Ds
end
section
set_option Elab.async false
set_option linter.all false
set_option maxRecDepth 100000
set_option maxHeartbeats 1000000
namespace Ds
open PySem PySem.Spec PyProof.Rows L2 Su
open Evl (Ex EvT)
open Kh374 (Tri)
theorem ip_mulI {X : Cx} : PIp X .Mult (fun x y H Q => ∃ i j, x = .int i ∧ y = .int j ∧ CMul i j ∧ Q (.int (i * j)) H) := by
  intro pins s σ H x y v u Q J r1 r2 ⟨i, j, e1, e2, hm, q⟩
  subst e1 e2; obtain ⟨t, rfl⟩ := r1; obtain ⟨t2, rfl⟩ := r2
  exact PyProof.Rows.imul_int ⟨.int _, H, J.tok _, ⟨_, rfl⟩, q⟩ hm.ok
/-! ### The tables -/
theorem nI_get {l : List Nat} {i n : Nat} (h : l[i]? = some n) : (nI l)[i]? = some (n : Int) := by
  unfold nI
  rw [List.getElem?_map, h]
  rfl
/-- a tuple of tuples of the top -/
def WtN (K : PySem.W.Frag) (mg : Str → Option Value) (x : Str) (T : List (List Nat)) : Prop := ∃ (a : Addr) (rs : List Addr), mg x = some (.ref a) ∧ (∀ H, SqT K H a (rs.map V.ref)) ∧ rs.length = T.length ∧ ∀ (i : Nat) (ws : List Nat), T[i]? = some ws → ∃ r, rs[i]? = some r ∧ ∀ H, SqT K H r ((nI ws).map V.int)
abbrev WtC (K : PySem.W.Frag) (mg : Str → Option Value) : Prop := WtN K mg "WEIGHTS" weightsL
structure PtD where
  t : Tri Raw
  reach : List Nat
  heavy : Nat
  kind : Nat
  told : List Int
abbrev ptD0 : PtD := ⟨⟨[], [], []⟩, [], 0, 0, []⟩
def rP (C : Addr) (d : PtD) : Rp := rPt C d.t ⟨d.kind, d.told, d.reach, d.heavy⟩
section
variable {K : PySem.W.Frag} {σ : L2.St} {H : Hp} {te tf : TE} {C : Addr}
theorem evp_kind {d : PtD} (cl : Cls K C) (na : NoAttr K C "kind") (h : EvP te σ H (rP C d)) : EvP (tFld K te "kind") σ H (rInt d.kind) := evp_fld cl na h lkg_here
theorem evp_told {d : PtD} (cl : Cls K C) (na : NoAttr K C "told") (h : EvP te σ H (rP C d)) : EvP (tFld K te "told") σ H (rInts d.told) := evp_fld cl na h ((lkg_past (by decide +kernel)).trans lkg_here)
theorem lk_reach {d : PtD} : List.lookup ("reach" : Str) [("kind", rInt (d.kind : Int)), ("told", rInts d.told), ("x", rD d.t.x), ("y", rD d.t.y), ("w", rD d.t.w), ("reach", rInts (nI d.reach)), ("heavy", rInt (d.heavy : Int))] = some (rInts (nI d.reach)) :=
  (lkg_past (by decide +kernel)).trans ((lkg_past (by decide +kernel)).trans ((lkg_past (by decide +kernel)).trans ((lkg_past (by decide +kernel)).trans ((lkg_past (by decide +kernel)).trans lkg_here))))
theorem evp_heavy {d : PtD} (cl : Cls K C) (na : NoAttr K C "heavy") (h : EvP te σ H (rP C d)) : EvP (tFld K te "heavy") σ H (rInt d.heavy) := evp_fld cl na h
  ((lkg_past (by decide +kernel)).trans ((lkg_past (by decide +kernel)).trans ((lkg_past (by decide +kernel)).trans ((lkg_past (by decide +kernel)).trans ((lkg_past (by decide +kernel)).trans ((lkg_past (by decide +kernel)).trans lkg_here))))))
theorem evp_reach {d : PtD} (cl : Cls K C) (na : NoAttr K C "reach") (h : EvP te σ H (rP C d)) : EvP (tFld K te "reach") σ H (rInts (nI d.reach)) := evp_fld cl na h lk_reach
theorem evp_wt {a r : Addr} {rs : List Addr} {k : Nat} (hT : ∀ H, SqT K H a (rs.map V.ref)) (h : EvP tf σ H (rInt (k : Int))) (hr : rs[k]? = some r) : EvP (tOp (rIxT K) (tC (.ref a)) tf) σ H (rV (.ref r)) := fun H1 e Q q =>
  h H1 e _ fun y H3 e3 hy => ⟨a, _, k, .ref r, rfl, hy, hT _, atI_nat (by rw [List.getElem?_map, hr]; rfl), q _ H3 e3 rfl⟩
end
section
variable {P : Program} {w : World} {K : PySem.W.Frag} {mg : Str → Option Value} {base : Heap} {C : Addr}
/-! ### count_of_points -/
inductive cCount : List Rp → Rp → Prop
  | mk (k : Nat) (ws : List Nat) : weightsL[k]? = some ws → cCount [rInt k] (rInt ws.length)
theorem sc_count_of_points : FnScope ["kind"] ["kind"] (defScope s_count_of_points) := ⟨rfl, rfl, rfl, by decide +kernel, rfl, by decide +kernel, by decide +kernel⟩
theorem good_count_of_points (d : Decl K mg "count_of_points" s_count_of_points) (W : WtC K mg) (ml : mg "len" = none) : Good P w K mg base "count_of_points" 1 ["kind"] (pf cCount) := by
  refine d.good sc_count_of_points (fun _ _ _ _ _ _ us hl => match us, hl with | [_], _ => rfl) (pf_len fun _ _ c => by cases c; rfl) fun f cdv A outer s H vs Q E hr h => ?_
  obtain ⟨Rs, R, c, ha, q⟩ := h
  obtain ⟨aW, rs, mW, sW, _, iW⟩ := W
  cases c with
  | mk k ws hk =>
  obtain ⟨_, _, rfl, rfl, rfl⟩ := ha
  obtain ⟨r, hr1, hr2⟩ := iW k ws hk
  refine ⟨_, pss_one (ps_ret (pe_callB call_len_seq (by rfl) ml PySem.boot_len (pa_cons (pe_ix ix_tup (pe_glob (v := .ref aW) rfl mW rfl) (pv 0) (fun _ _ => rfl)) pa_nil))), ?_⟩
  refine s_st (σ2 := [some (.int k)]) rfl ?_
  refine evp_wt sW (evp_var rfl rfl) hr1 H (Ex.refl _) _ fun v H2 e2 hv => ?_
  have hv : v = .ref r := hv
  subst hv
  refine ⟨r, _, rfl, .inr (hr2 _), q _ _ e2 ?_⟩
  show V.int _ = V.int _
  unfold nI
  rw [List.length_map, List.length_map]
/-! ### places -/
def mPlaces (l : List Nat) : Nat := l.foldl (fun p x => p * (x + 1)) 1
inductive cPlaces : List Rp → Rp → Prop
  | mk (l : List Nat) : (∀ x ∈ l, x < 1000000) → cPlaces [rInts (nI l)] (rInt (mPlaces l))
theorem sc_places : FnScope ["reach", "product", "power"] ["reach"] (defScope s_places) := ⟨rfl, rfl, rfl, by decide +kernel, rfl, by decide +kernel, by decide +kernel⟩
theorem foldl_take {A B : Type} (f : B → A → B) (b : B) (l : List A) (i : Nat) (x : A) (h : l[i]? = some x) : (l.take (i + 1)).foldl f b = f ((l.take i).foldl f b) x := by
  rw [List.take_add_one, h, List.foldl_append]
  rfl
theorem good_places (d : Decl K mg "places" s_places) : Good P w K mg base "places" 1 ["reach"] (pf cPlaces) := by
  refine d.good sc_places (fun _ _ _ _ _ _ us hl => match us, hl with | [_], _ => rfl) (pf_len fun _ _ c => by cases c; rfl) fun f cdv A outer s H vs Q E hr h => ?_
  obtain ⟨Rs, R, c, ha, q⟩ := h
  cases c with
  | mk l hx =>
  obtain ⟨_, _, rfl, ⟨p, rfl, hp⟩, rfl⟩ := ha
  refine ⟨_, pss_cons (ps_set (i := 1) sc_places.nd rfl (.inl rfl) pe_int) (pss_cons (ps_for PassesOwn.never rfl (pi_list (pv 0)) (pg_name (i := 2) sc_places.nd rfl (.inl rfl)) (pss_one (ps_aug (i := 1) sc_places.nd rfl (.inl rfl) (pe_op op_add (pv 2) pe_int) ip_mulI)))
    (pss_one (ps_ret (pv 1)))), ?_⟩
  refine s_st (σ2 := [some (.ref p), none, none]) rfl ?_
  show tSeq _ _ _ [some (.ref p), some (.int 1), none] H
  refine s_seq ⟨_, rfl, p, rfl, ⟨_, .inl (.inl hp)⟩, for_list (K := K) (a := p) (xs := (nI l).map V.int) (fun i σ H' => ∃ y, σ = [some (.ref p), some (.int (((l.take i).foldl (fun p x => p * (x + 1)) 1 : Nat) : Int)), y] ∧ H' = H) ⟨none, rfl, rfl⟩ (fun i σ H' _ ⟨_, _, e⟩ => by rw [e]; exact .inl (.inl hp)) ?_ ?_⟩
  · rintro i x σ H' hi ⟨y, rfl, rfl⟩
    have hli : ∃ n, l[i]? = some n ∧ x = .int (n : Int) := by
      unfold nI at hi
      rw [List.map_map, List.getElem?_map] at hi
      cases e : l[i]? with
      | none =>
        rw [e] at hi
        cases hi
      | some n =>
        rw [e] at hi
        exact ⟨n, rfl, (Option.some.inj hi).symm⟩
    obtain ⟨n, hn, rfl⟩ := hli
    have hb := hx n (List.mem_of_getElem? hn)
    refine ⟨_, rfl, _, rfl, _, _, rfl, rfl, _, _, rfl, rfl, ?_, some (.int (n : Int)), ?_, rfl⟩
    · exact .inr ⟨by omega, by omega⟩
    · rw [foldl_take _ _ _ _ _ hn]
      show [some (V.ref p), some (V.int _), some (V.int (n : Int))] = _
      congr 3
  · rintro σ H' ⟨y, rfl, rfl⟩
    refine ⟨_, rfl, q _ _ (Ex.refl _) ?_⟩
    show V.int _ = V.int _
    unfold nI
    rw [List.length_map, List.length_map, List.take_length]
    rfl
/-! ### heavy_by -/
def hvy (k : Nat) (ws : List Nat) (ds : List PtD) : Nat := (List.zip ws ds).foldl (fun t q => t + q.1 * q.2.heavy) (ownHeavyL.getD k 0)
inductive cHeavy (C : Addr) : List Rp → Rp → Prop
  | mk (k : Nat) (ws : List Nat) (ds : List PtD) : weightsL[k]? = some ws → ds.length = ws.length → cHeavy C [rInt k, rLst (ds.map (rP C))] (rInt (hvy k ws ds))
structure LimC (K : PySem.W.Frag) (C : Addr) : Prop where
  cl : Cls K C
  nR : NoAttr K C "reach"
  nH : NoAttr K C "heavy"
theorem sc_heavy_by : FnScope ["kind", "sources", "total", "weight", "point"] ["kind", "sources"] (defScope s_heavy_by) := ⟨rfl, rfl, rfl, by decide +kernel, rfl, by decide +kernel, by decide +kernel⟩
theorem own_at {l : List Nat} {k : Nat} (h : k < l.length) : l[k]? = some (l.getD k 0) := by
  rw [List.getD_eq_getElem?_getD, List.getElem?_eq_getElem h]
  rfl
theorem wt_lt {k : Nat} {ws : List Nat} (h : weightsL[k]? = some ws) : k < 13 := (List.getElem?_eq_some_iff.mp h).1
theorem wt_small {k : Nat} {ws : List Nat} (h : weightsL[k]? = some ws) : ∀ x ∈ ws, x ≤ 3 := by
  have e : ∀ ws ∈ weightsL, ∀ x ∈ ws, x ≤ 3 := by decide
  exact e ws (List.mem_of_getElem? h)
theorem zip_at {A B : Type} {l : List A} {m : List B} {i : Nat} {x : A} {y : B} (h1 : l[i]? = some x) (h2 : m[i]? = some y) : (List.zip l m)[i]? = some (x, y) := by
  rw [List.getElem?_zip_eq_some]
  exact ⟨h1, h2⟩
theorem nI_at {l : List Nat} {i : Nat} {x : V} (h : ((nI l).map V.int)[i]? = some x) : ∃ n, l[i]? = some n ∧ x = .int (n : Int) := by
  unfold nI at h
  rw [List.map_map, List.getElem?_map] at h
  cases e : l[i]? with
  | none =>
    rw [e] at h
    cases h
  | some n =>
    rw [e] at h
    exact ⟨n, rfl, (Option.some.inj h).symm⟩
theorem all2_at {H : Hp} {A : Type} {f : A → Rp} : ∀ {l : List A} {vs : List V} {i : Nat} {v : V}, All2 (l.map f) vs H → vs[i]? = some v → ∃ a, l[i]? = some a ∧ (f a).is v H
  | [], vs, i, v, h, hv => by
    rw [show vs = [] from h] at hv
    cases hv
  | a :: l, vs, 0, v, ⟨u, r, h1, h2, h3⟩, hv => by
    rw [h1] at hv
    have e : u = v := Option.some.inj hv
    exact ⟨a, rfl, e ▸ h2⟩
  | a :: l, vs, i + 1, v, ⟨u, r, h1, h2, h3⟩, hv => by
    rw [h1] at hv
    obtain ⟨b, hb, hr⟩ := all2_at (l := l) (i := i) h3 hv
    exact ⟨b, hb, hr⟩
theorem s_forZ {K : PySem.W.Frag} {σ : L2.St} {H : Hp} {ta : TA} {g : TG} {tu : TS} {D : Ends} {a b : Addr} {us vs : List V} (h : EvPs ta σ H [rV (.ref a), rV (.ref b)]) (hT : ∀ H, SqT K H a us) (hS : SqL K H b vs) (hl : us.length = vs.length) (Pv : Nat → L2.St → Hp → Prop) (h0 : ∀ H1, Ex H H1 → Pv 0 σ H1)
    (hq : ∀ i σ H, Pv i σ H → SqL K H b vs) (hs : ∀ (i : Nat) (x y : V) (T : Addr) (σ : L2.St) (H : Hp), us[i]? = some x → vs[i]? = some y → Pv i σ H → H T = none → g (.ref T) σ (upd H T (.tup [x, y])) fun σ2 H2 => tu { D with nx := Pv (i + 1), ct := Pv (i + 1), bk := D.nx } σ2 H2)
    (hd : ∀ σ H, Pv us.length σ H → D.nx σ H) : tFor (iZipM K ta) g tu D σ H := h H (Ex.refl H) _ fun ys H1 e hys => by
  obtain ⟨v1, _, rfl, hv1, v2, _, rfl, hv2, rfl⟩ := hys
  have hv1 : v1 = .ref a := hv1
  have hv2 : v2 = .ref b := hv2
  subst hv1 hv2
  exact ⟨a, b, us, vs, rfl, hT _, Evl.ex_l e hS, for_zipM hl Pv (h0 H1 e) (fun i σ H p => ⟨hT _, hq i σ H p⟩) hs hd⟩
theorem good_heavy_by (d : Decl K mg "heavy_by" s_heavy_by) (T : LimC K C) (W : WtC K mg) (tH : TupC K mg "OWN_HEAVY" (nI ownHeavyL)) (mz : mg "zip" = none) : Good P w K mg base "heavy_by" 1 ["kind", "sources"] (pf (cHeavy C)) := by
  refine d.good sc_heavy_by (fun _ _ _ _ _ _ us hl => match us, hl with | [_, _], _ => rfl) (pf_len fun _ _ c => by cases c; rfl) fun f cdv A outer s H vs Q E hr h => ?_
  obtain ⟨Rs, R, c, ha, q⟩ := h
  obtain ⟨aW, rs, mW, sW, _, iW⟩ := W
  obtain ⟨aH, mH, sH⟩ := tH
  cases c with
  | mk k ws ds hk hlen =>
  obtain ⟨_, _, rfl, rfl, _, _, rfl, ⟨p, us, rfl, hp, hus⟩, rfl⟩ := ha
  obtain ⟨r, hr1, hr2⟩ := iW k ws hk
  have hk13 := wt_lt hk
  refine ⟨_, pss_cons (ps_set (i := 2) sc_heavy_by.nd rfl (.inl rfl) (pe_ix ix_tup (pe_glob (v := .ref aH) rfl mH rfl) (pv 0) (fun _ _ => rfl)))
    (pss_cons (ps_for PassesOwn.never rfl (pi_zipM rfl mz (pa_cons (pe_ix ix_tup (pe_glob (v := .ref aW) rfl mW rfl) (pv 0) (fun _ _ => rfl)) (pa_cons (pv 1) pa_nil))) (pg_tup rfl (pgs_cons (pg_name (i := 3) sc_heavy_by.nd rfl (.inl rfl)) (pgs_cons (pg_name (i := 4) sc_heavy_by.nd rfl (.inl rfl)) pgs_nil)))
      (pss_one (ps_aug (i := 2) sc_heavy_by.nd rfl (.inl rfl) (pe_op op_mul (pv 3) (pe_fld (pv 4) rfl)) ip_add)))
    (pss_one (ps_ret (pv 2)))), ?_⟩
  refine s_st (σ2 := [some (.int k), some (.ref p), none, none, none]) rfl ?_
  refine s_set (σ2 := fun v => [some (.int k), some (.ref p), some v, none, none]) (fun _ => rfl) (evp_ixC sH (evp_var rfl rfl) (nI_get (own_at (l := ownHeavyL) hk13))) fun v H1 e1 hv => ?_
  have hv : v = .int ((ownHeavyL.getD k 0 : Nat) : Int) := hv
  subst hv
  have hul : us.length = ds.length := by rw [hus.len, List.length_map]
  refine s_seq (s_forZ (us := (nI ws).map V.int) (vs := us) (evps_cons (evp_wt sW (evp_var (i := 0) rfl rfl) hr1) (evps_cons (evp_var (i := 1) (R := rV (.ref p)) rfl rfl) evps_nil)) hr2 (.inl (.inl (e1 _ _ hp))) (by unfold nI; rw [List.length_map, List.length_map, hul, hlen])
    (fun i σ H' => ∃ y3 y4, σ = [some (.int k), some (.ref p), some (.int ((((List.zip ws ds).take i).foldl (fun t q => t + q.1 * q.2.heavy) (ownHeavyL.getD k 0) : Nat) : Int)), y3, y4] ∧ Ex H H') (fun H2 e2 => ⟨none, none, rfl, e1.trans e2⟩) (fun i σ H' ⟨_, _, _, e⟩ => .inl (.inl (e _ _ hp))) ?_ ?_)
  · rintro i x y T0 σ H' hx hy ⟨y3, y4, rfl, e⟩ nT
    obtain ⟨n, hn, rfl⟩ := nI_at hx
    obtain ⟨dd, hd, hrd⟩ := all2_at (hus.stay (e.trans (Ex.new (o := .tup [.int (n : Int), y]) nT))) hy
    refine ⟨T0, [.int (n : Int), y], rfl, .inl (.inl upd_same), rfl, _, _, rfl, _, _, rfl, rfl, ?_⟩
    have hz := zip_at hn hd
    have n3 := wt_small hk n (List.mem_of_getElem? hn)
    refine ⟨_, rfl, evp_mul (σ := [some (.int k), some (.ref p), some (.int ((((List.zip ws ds).take i).foldl (fun t q => t + q.1 * q.2.heavy) (ownHeavyL.getD k 0) : Nat) : Int)), some (.int (n : Int)), some y]) (evp_var (i := 3) rfl rfl) (evp_heavy T.cl T.nH (evp_var (i := 4) rfl hrd)) ⟨by omega, by omega⟩ _ (Ex.refl _) _ fun v H3 e3 hv => ?_⟩
    have hv : v = .int ((n : Int) * (dd.heavy : Int)) := hv
    subst hv
    refine ⟨_, _, rfl, rfl, some (.int (n : Int)), some y, ?_, (e.trans (Ex.new nT)).trans e3⟩
    rw [foldl_take _ _ _ _ _ hz]
    rfl
  · rintro σ H' ⟨y3, y4, rfl, e⟩
    refine ⟨_, rfl, q _ _ e ?_⟩
    show V.int _ = V.int _
    have el : ((nI ws).map V.int).length = (List.zip ws ds).length := by
      unfold nI
      rw [List.length_map, List.length_map, List.length_zip, hlen, Nat.min_self]
    rw [el, List.take_length]
    rfl
/-! ### numbers_fit -/
def fitB (k : Nat) (l : List Int) : Bool := if k = 0 then decide ((l.getD 0 0).natAbs ≤ 1000) && decide ((l.getD 1 0).natAbs ≤ 1000) else if k = 3 then decide ((l.getD 0 0).natAbs ≤ 100) && (decide (1 ≤ l.getD 1 0) && decide (l.getD 1 0 ≤ 100)) else true
inductive cFit : List Rp → Rp → Prop
  | mk (k : Nat) (l : List Int) : ((k = 0 ∨ k = 3) → l.length = 2) → cFit [rInt k, rInts l] (rV (.bl (fitB k l)))
section
variable {σ : L2.St} {H : Hp} {te tf tg : TE}
theorem evp_abs {i : Int} (h : EvP te σ H (rInt i)) : EvP (tCB (fun xs H Q => ∃ i, xs = [.int i] ∧ Q (.int (if i < 0 then -i else i)) H) (tCons te tNil)) σ H (rInt (i.natAbs : Int)) := fun H1 e Q q => h H1 e _ fun v H2 e2 hv => ⟨i, by rw [show v = .int i from hv], q _ H2 e2 (by
  show V.int _ = V.int _
  congr 1
  split <;> omega)⟩
theorem evp_le {i j : Int} (h1 : EvP te σ H (rInt i)) (h2 : EvP tf σ H (rInt j)) : EvP (tOp (rI0 fun i j => .bl (decide (i ≤ j))) te tf) σ H (rV (.bl (decide (i ≤ j)))) := fun H1 e Q q =>
  h1 H1 e _ fun x H2 e2 hx => h2 H2 (e.trans e2) _ fun y H3 e3 hy => ⟨i, j, hx, hy, q _ H3 (e2.trans e3) rfl⟩
theorem evp_andV {a b : Bool} (h1 : EvP te σ H (rV (.bl a))) (h2 : EvP tf σ H (rV (.bl b))) : EvP (tAndV te tf) σ H (rV (.bl (a && b))) := fun H1 e Q q =>
  h1 H1 e _ fun x H2 e2 hx => ⟨a, hx, by
    cases a with
    | true => exact iteT (h2 H2 (e.trans e2) _ fun y H3 e3 hy => q y H3 (e2.trans e3) hy)
    | false => exact iteF (q _ H2 e2 rfl)⟩
theorem evp_chain {i j k : Int} (h1 : EvP te σ H (rInt i)) (h2 : EvP tf σ H (rInt j)) (h3 : EvP tg σ H (rInt k)) : EvP (tChain (rI0 fun i j => .bl (decide (i ≤ j))) (rI0 fun i j => .bl (decide (i ≤ j))) te tf tg) σ H (rV (.bl (decide (i ≤ j) && decide (j ≤ k)))) := fun H1 e Q q =>
  h1 H1 e _ fun x H2 e2 hx => h2 H2 (e.trans e2) _ fun y H3 e3 hy => ⟨i, j, hx, hy, _, rfl, by
    cases hb : decide (i ≤ j) with
    | true => exact iteT (h3 H3 (e.trans (e2.trans e3)) _ fun z H4 e4 hz => ⟨j, k, hy, hz, q _ H4 (e2.trans (e3.trans e4)) (by rw [hb]; rfl)⟩)
    | false => exact iteF (q _ H3 (e2.trans e3) (by rw [hb]; rfl))⟩
end
inductive cVal : List Rp → Rp → Prop
  | mk (i : Int) : cVal [rInt i] (rV (.bl (decide (i.natAbs ≤ 1000))))
theorem sc_value_fits : FnScope ["number"] ["number"] (defScope s_value_fits) := ⟨rfl, rfl, rfl, by decide +kernel, rfl, by decide +kernel, by decide +kernel⟩
theorem good_value_fits (d : Decl K mg "value_fits" s_value_fits) (iV : IntC mg "MOST_VALUE" 1000) (ma : mg "abs" = none) : Good P w K mg base "value_fits" 1 ["number"] (pf cVal) := by
  refine d.good sc_value_fits (fun _ _ _ _ _ _ us hl => match us, hl with | [_], _ => rfl) (pf_len fun _ _ c => by cases c; rfl) fun f cdv A outer s H vs Q E hr h => ?_
  obtain ⟨Rs, R, c, ha, q⟩ := h
  cases c with
  | mk i =>
  obtain ⟨_, _, rfl, rfl, rfl⟩ := ha
  refine ⟨_, pss_one (ps_ret (pe_cmpR op_le (pe_callB call_abs (by rfl) ma (by decide +kernel) (pa_cons (pv 0) pa_nil)) (pe_ic iV (by rfl)) (nomark _))), ?_⟩
  refine s_st (σ2 := [some (.int i)]) rfl ?_
  refine s_retP (evp_le (evp_abs (evp_var rfl rfl)) (evp_c rfl)) fun v H' e hv => q v H' e ?_
  have hv : v = _ := hv
  rw [hv]
  show V.bl _ = V.bl _
  congr 1
  apply decide_eq_decide.mpr
  omega
theorem sc_numbers_fit : FnScope ["kind", "numbers"] ["kind", "numbers"] (defScope s_numbers_fit) := ⟨rfl, rfl, rfl, by decide +kernel, rfl, by decide +kernel, by decide +kernel⟩
theorem good_numbers_fit (d : Decl K mg "numbers_fit" s_numbers_fit) (iFIXED : IntC mg "FIXED" 0) (iPART : IntC mg "PART" 3) (ma : mg "abs" = none) (g_value_fits : Good P w K mg base "value_fits" 1 ["number"] (pf cVal)) : Good P w K mg base "numbers_fit" 2 ["kind", "numbers"] (pf cFit) := by
  refine d.good sc_numbers_fit (fun _ _ _ _ _ _ us hl => match us, hl with | [_, _], _ => rfl) (pf_len fun _ _ c => by cases c; rfl) fun f cdv A outer s H vs Q E hr h => ?_
  obtain ⟨Rs, R, c, ha, q⟩ := h
  cases c with
  | mk k l hl =>
  obtain ⟨_, _, rfl, rfl, _, _, rfl, ⟨p, rfl, hp⟩, rfl⟩ := ha
  refine ⟨_, pss_cons (ps_if (pt_cmpR op_eq (pv 0) (pe_ic iFIXED (by rfl)) (nomark _)) (pss_one (ps_ret (pe_and (pe_g g_value_fits hr (by rfl) (pa_cons (pe_ix ix_list (pv 1) pe_int (fun _ _ => rfl)) pa_nil)) (pe_one (pe_g g_value_fits hr (by rfl) (pa_cons (pe_ix ix_list (pv 1) pe_int (fun _ _ => rfl)) pa_nil)))))) pss_nil)
    (pss_cons (ps_if (pt_cmpR op_eq (pv 0) (pe_ic iPART (by rfl)) (nomark _)) (pss_one (ps_ret (pe_and (pe_cmpR op_le (pe_callB call_abs (by rfl) ma (by decide +kernel) (pa_cons (pe_ix ix_list (pv 1) pe_int (fun _ _ => rfl)) pa_nil)) pe_int (nomark _)) (pe_one (pe_chain op_le op_le pe_int (pe_ix ix_list (pv 1) pe_int (fun _ _ => rfl)) pe_int))))) pss_nil)
    (pss_one (ps_ret pe_bl))), ?_⟩
  refine s_st (σ2 := [some (.int k), some (.ref p)]) rfl ?_
  have S0 : SqL K H p (l.map V.int) := .inl (.inl hp)
  have at0 : l.length = 2 → l[0]? = some (l.getD 0 0) ∧ l[1]? = some (l.getD 1 0) := fun e => by
    match l, e with
    | [x, y], _ => exact ⟨rfl, rfl⟩
  refine s_ifR (evt_eq (evp_var rfl rfl) (evp_c rfl)) (fun z H1 e1 => ?_) fun z H1 e1 => ?_
  · have ek : k = 0 := by
      have := of_decide_eq_true z
      omega
    obtain ⟨a0, a1⟩ := at0 (hl (.inl ek))
    have S1 := Evl.ex_l e1 S0
    refine s_retP (evp_andV (evp_call (E := E0) (evps_cons (evp_ixS (j := 0) S1 (evp_var rfl rfl) (evp_c rfl) a0) evps_nil) (cVal.mk _)) (evp_call (E := E0) (evps_cons (evp_ixS (j := 1) S1 (evp_var rfl rfl) (evp_c rfl) a1) evps_nil) (cVal.mk _))) fun v H' e hv => q v H' (e1.trans e) ?_
    have hv : v = _ := hv
    rw [hv]
    show V.bl _ = V.bl _
    unfold fitB
    rw [if_pos ek]
  refine s_ifR (evt_eq (evp_var rfl rfl) (evp_c rfl)) (fun y H2 e2 => ?_) fun y H2 e2 => ?_
  · have ek : k = 3 := by
      have := of_decide_eq_true y
      omega
    obtain ⟨a0, a1⟩ := at0 (hl (.inr ek))
    have S2 := Evl.ex_l (e1.trans e2) S0
    refine s_retP (evp_andV (evp_le (evp_abs (evp_ixS (j := 0) S2 (evp_var rfl rfl) (evp_c rfl) a0)) (evp_c rfl)) (evp_chain (evp_c rfl) (evp_ixS (j := 1) S2 (evp_var rfl rfl) (evp_c rfl) a1) (evp_c rfl))) fun v H' e hv => q v H' ((e1.trans e2).trans e) ?_
    have hv : v = _ := hv
    rw [hv]
    show V.bl _ = V.bl _
    unfold fitB
    rw [if_neg (by omega), if_pos ek]
    congr 2
    apply decide_eq_decide.mpr
    omega
  · have e0 : ¬ k = 0 := fun e => of_decide_eq_false z (by omega)
    have e3 : ¬ k = 3 := fun e => of_decide_eq_false y (by omega)
    refine s_retP (evp_c (R := rV (.bl true)) rfl) fun v H' e hv => q v H' ((e1.trans e2).trans e) ?_
    have hv : v = _ := hv
    rw [hv]
    show V.bl _ = V.bl _
    unfold fitB
    rw [if_neg e0, if_neg e3]
end
end Ds
end
section
set_option Elab.async false
set_option linter.all false
set_option maxRecDepth 100000
set_option maxHeartbeats 1000000
namespace Ds
open PySem PySem.Spec PyProof.Rows L2 Su
open Evl (Ex EvT)
open Kh374 (Tri)
/-! ### reach_by -/
def addR (w : Nat) (t : List Nat) (q : Nat × Nat) : List Nat := t.set q.2 (t.getD q.2 0 + w * q.1)
def innerR (w : Nat) (t r : List Nat) : List Nat := r.zipIdx.foldl (addR w) t
def outerR (ws : List Nat) (ds : List PtD) : List Nat := (List.zip ws ds).foldl (fun t q => innerR q.1 t q.2.reach) [0, 0, 0, 0]
def mReach (k : Nat) (ws : List Nat) (ds : List PtD) (first : Nat) : List Nat := (List.range (ownLetL.getD k 0)).foldl (fun t j => t.set (first + j) (t.getD (first + j) 0 + ownReachL.getD k 0)) (outerR ws ds)
theorem addR_len (w : Nat) (t : List Nat) (q : Nat × Nat) : (addR w t q).length = t.length := List.length_set
theorem fold_len {A B : Type} {f : List B → A → List B} (h : ∀ t a, (f t a).length = t.length) : ∀ (l : List A) (t : List B), (l.foldl f t).length = t.length
  | [], _ => rfl
  | a :: l, t => (fold_len h l (f t a)).trans (h t a)
theorem innerR_len (w : Nat) (t r : List Nat) : (innerR w t r).length = t.length := fold_len (addR_len w) _ _
/-- a tuple of whole numbers that is written at the top -/
def rKT (K : PySem.W.Frag) (l : List Int) : Rp := ⟨fun v _ => ∃ r, v = .ref r ∧ ∀ H, SqT K H r (l.map V.int), fun _ h => h⟩
/-- a def that gives a new list -/
def pfN (C : List Rp → List V → Prop) : Sp := fun vs H Q _ => ∃ Rs xs, C Rs xs ∧ All2 Rs vs H ∧ ∀ p H', H p = none → Ex H H' → H' p = some (.lst xs) → Q (.ref p) H'
theorem pfN_len {C : List Rp → List V → Prop} {n : Nat} (hC : ∀ Rs xs, C Rs xs → Rs.length = n) : ∀ vs H Q E, pfN C vs H Q E → vs.length = n := fun vs H Q E ⟨Rs, R, c, ha, _⟩ => ha.len.trans (hC Rs R c)
theorem evl_call {σ : L2.St} {H : Hp} {ta : TA} {Rs : List Rp} {xs : List V} {C : List Rp → List V → Prop} {E : XK} (h : EvPs ta σ H Rs) (c : C Rs xs) : Evl.EvL (tCall (pfN C) [] E ta) σ H xs := fun H1 e Q q =>
  h H1 e _ fun vs H2 e2 rs => by
    show pfN C (vs ++ []) H2 Q E
    rw [List.append_nil]
    exact ⟨Rs, xs, c, rs, fun p H3 np e3 hp => q p H3 (Evl.fresh_back e2 np) (e2.trans e3) hp⟩
/-- x = a new list, then the rest -/
theorem s_setN {u : TS} {D : Ends} {i : Nat} {te : TE} {σ : L2.St} {H : Hp} {xs : List V} {σ2 : V → L2.St} (hs : ∀ v, σ.set i (some v) = σ2 v) (h : Evl.EvL te σ H xs) (k : ∀ p H1, H p = none → Ex H H1 → H1 p = some (.lst xs) → u D (σ2 (.ref p)) H1) : tSeq (tAsg te (gName i)) u D σ H := h H (Ex.refl H) _ fun p H1 np e hp => by
  show u D (σ.set i (some (.ref p))) H1
  rw [hs]
  exact k p H1 np e hp
/-- a def that gives a new thing -/
def pfF (C : List Rp → Rp → Prop) : Sp := fun vs H Q _ => ∃ Rs R, C Rs R ∧ All2 Rs vs H ∧ ∀ p H', H p = none → Ex H H' → R.is (.ref p) H' → Q (.ref p) H'
theorem pfF_len {C : List Rp → Rp → Prop} {n : Nat} (hC : ∀ Rs R, C Rs R → Rs.length = n) : ∀ vs H Q E, pfF C vs H Q E → vs.length = n := fun vs H Q E ⟨Rs, R, c, ha, _⟩ => ha.len.trans (hC Rs R c)
def EvF (te : TE) (σ : L2.St) (H : Hp) (R : Rp) : Prop := ∀ H1, Ex H H1 → ∀ Q : VK, (∀ p H2, H1 p = none → Ex H1 H2 → R.is (.ref p) H2 → Q (.ref p) H2) → te σ H1 Q
theorem EvF.p {te : TE} {σ : L2.St} {H : Hp} {R : Rp} (h : EvF te σ H R) : EvP te σ H R := fun H1 e Q q => h H1 e Q fun p H2 _ e2 r => q _ H2 e2 r
theorem evf_call {σ : L2.St} {H : Hp} {ta : TA} {Rs : List Rp} {R : Rp} {C : List Rp → Rp → Prop} {E : XK} (h : EvPs ta σ H Rs) (c : C Rs R) : EvF (tCall (pfF C) [] E ta) σ H R := fun H1 e Q q =>
  h H1 e _ fun vs H2 e2 rs => by
    show pfF C (vs ++ []) H2 Q E
    rw [List.append_nil]
    exact ⟨Rs, R, c, rs, fun p H3 np e3 hp => q p H3 (Evl.fresh_back e2 np) (e2.trans e3) hp⟩
theorem s_retF {D : Ends} {te : TE} {σ : L2.St} {H0 H : Hp} {R : Rp} (e0 : Ex H0 H) (h : EvF te σ H R) (k : ∀ p H1, H0 p = none → Ex H0 H1 → R.is (.ref p) H1 → D.rt (.ref p) H1) : tRet te D σ H := h H (Ex.refl H) _ fun p H1 np e r => k p H1 (Evl.fresh_back e0 np) (e0.trans e) r
inductive cWR (K : PySem.W.Frag) (C : Addr) : List Rp → List V → Prop
  | mk (ws : List Nat) (ds : List PtD) : ds.length = ws.length → (∀ d ∈ ds, d.reach.length = 4) → (∀ x ∈ ws, x ≤ 3) → cWR K C [rKT K (nI ws), rLst (ds.map (rP C))] ((nI (outerR ws ds)).map V.int)
inductive cReach (C : Addr) : List Rp → Rp → Prop
  | mk (k : Nat) (ws : List Nat) (ds : List PtD) (first : Nat) : weightsL[k]? = some ws → ds.length = ws.length → (∀ d ∈ ds, d.reach.length = 4) → first + ownLetL.getD k 0 ≤ 4 → cReach C [rInt k, rLst (ds.map (rP C)), rInt first] (rInts (nI (mReach k ws ds first)))
inductive cReachIn (C : Addr) : List Rp → Rp → Prop
  | mk (k : Nat) (ws : List Nat) (ds : List PtD) : sayWtL[k]? = some ws → ds.length = ws.length → (∀ d ∈ ds, d.reach.length = 4) → cReachIn C [rInt k, rLst (ds.map (rP C))] (rInts (nI (outerR ws ds)))
theorem swt_small {k : Nat} {ws : List Nat} (h : sayWtL[k]? = some ws) : ∀ x ∈ ws, x ≤ 3 := by
  have e : ∀ ws ∈ sayWtL, ∀ x ∈ ws, x ≤ 3 := by decide
  exact e ws (List.mem_of_getElem? h)
theorem evp_kt {K : PySem.W.Frag} {σ : L2.St} {H : Hp} {tf : TE} {a r : Addr} {rs : List Addr} {k : Nat} {l : List Int} (hT : ∀ H, SqT K H a (rs.map V.ref)) (h : EvP tf σ H (rInt (k : Int))) (hr : rs[k]? = some r) (hl : ∀ H, SqT K H r (l.map V.int)) : EvP (tOp (rIxT K) (tC (.ref a)) tf) σ H (rKT K l) := fun H1 e Q q =>
  evp_wt hT h hr H1 e Q fun v H2 e2 hv => q v H2 e2 ⟨r, hv, hl⟩
theorem for_enum {K : PySem.W.Frag} {a : Addr} {xs : List V} {g : TG} {tb : TS} {D : Ends} {σ : L2.St} {H : Hp} (Pv : Nat → L2.St → Hp → Prop) (h0 : Pv 0 σ H) (hq : ∀ i σ H, Pv i σ H → SqL K H a xs)
    (hs : ∀ (i : Nat) (x : V) (T : Addr) (σ : L2.St) (H : Hp), xs[i]? = some x → Pv i σ H → H T = none → g (.ref T) σ (upd H T (.tup [.int (i : Nat), x])) fun σ2 H2 => tb { D with nx := Pv (i + 1), ct := Pv (i + 1), bk := D.nx } σ2 H2) (hd : ∀ σ H, Pv xs.length σ H → D.nx σ H) :
    ∃ W : Nat → Nat → L2.St → Hp → Prop, (∃ m, W 0 m σ H) ∧ ∀ i m σ H, W i m σ H → ((Ite K a).stop i H ∧ D.nx σ H) ∨ ((Ite K a).go i H ∧ ∃ N : L2.St → Hp → Prop, (∀ σ' H', N σ' H' → ∃ m', m' < m ∧ W (i + 1) m' σ' H') ∧ ∀ x H', (Ite K a).yld i H x H' → g x σ H' fun σ2 H2 => tb { D with nx := N, ct := N, bk := D.nx } σ2 H2) := by
  refine ⟨fun i m σ H => m = xs.length - i ∧ i ≤ xs.length ∧ Pv i σ H, ⟨xs.length, by simp, Nat.zero_le _, h0⟩, ?_⟩
  rintro i m σ H ⟨rfl, hi, p⟩
  have qa := hq i σ H p
  by_cases lt : i < xs.length
  · have eu : xs[i]? = some xs[i] := List.getElem?_eq_getElem lt
    refine .inr ⟨⟨xs, xs[i], qa, eu⟩, Pv (i + 1), fun σ' H' p' => ⟨xs.length - (i + 1), by omega, rfl, lt, p'⟩, fun x H' y => ?_⟩
    obtain ⟨T, x', rfl, nT, rfl, f1⟩ := y
    exact hs i x' T σ H (f1 xs qa) p nT
  · have e : i = xs.length := by omega
    subst e
    exact .inl ⟨⟨xs, qa, Nat.le_refl _⟩, hd σ H p⟩
theorem nI_set (t : List Nat) (i n : Nat) : ((nI t).map V.int).set i (.int (n : Int)) = (nI (t.set i n)).map V.int := by
  unfold nI
  rw [List.map_set, List.map_set]
theorem nI_item {t : List Nat} {i : Nat} (h : i < t.length) : ((nI t).map V.int)[i]? = some (.int ((t.getD i 0 : Nat) : Int)) := by
  unfold nI
  rw [List.map_map, List.getElem?_map, own_at h]
  rfl
theorem zipIdx_at {r : List Nat} {i x : Nat} (h : r[i]? = some x) : r.zipIdx[i]? = some (x, i) := by
  rw [List.getElem?_zipIdx, h]
  simp
theorem ixN_at {n i : Nat} (h : i < n) : ixN n (i : Int) = some i := Evl.ixN_nat h
theorem s_forE {K : PySem.W.Frag} {σ : L2.St} {H : Hp} {te : TE} {g : TG} {tu : TS} {D : Ends} {a : Addr} {xs : List V} (h : EvP te σ H (rV (.ref a))) (hS : SqL K H a xs) (Pv : Nat → L2.St → Hp → Prop) (h0 : ∀ H1, Ex H H1 → Pv 0 σ H1) (hq : ∀ i σ H, Pv i σ H → SqL K H a xs)
    (hs : ∀ (i : Nat) (x : V) (T : Addr) (σ : L2.St) (H : Hp), xs[i]? = some x → Pv i σ H → H T = none → g (.ref T) σ (upd H T (.tup [.int (i : Nat), x])) fun σ2 H2 => tu { D with nx := Pv (i + 1), ct := Pv (i + 1), bk := D.nx } σ2 H2) (hd : ∀ σ H, Pv xs.length σ H → D.nx σ H) :
    tFor (iEnum K (tCons te tNil)) g tu D σ H := h H (Ex.refl H) _ fun v H1 e hv => by
  have hv : v = .ref a := hv
  subst hv
  exact ⟨a, xs, rfl, Evl.ex_l e hS, for_enum Pv (h0 H1 e) hq hs hd⟩
theorem rP_reach {C : Addr} {d : PtD} {y : V} {H : Hp} (h : (rP C d).is y H) : ∃ q dx fs a, y = .ref q ∧ H q = some (.ins C dx fs) ∧ fs.lookup ("reach" : Str) = some (.ref a) ∧ H a = some (.lst ((nI d.reach).map V.int)) := by
  obtain ⟨q, dx, fs, rfl, hq, hf⟩ := h
  obtain ⟨v, hv, a, rfl, ha⟩ := hf.get (n := "reach") (R := rInts (nI d.reach)) lk_reach
  exact ⟨q, dx, fs, a, rfl, hq, hv, ha⟩
/-- totals[index] += .., by what stands in the slots -/
theorem s_bump {K : PySem.W.Frag} {σ : L2.St} {H : Hp} {te : TE} {D : Ends} {tt : Addr} {t : List Nat} {i n : Nat} {j3 j6 : Nat} (h3 : σ[j3]? = some (some (.ref tt))) (h6 : σ[j6]? = some (some (.int (i : Int)))) (ht : H tt = some (.lst ((nI t).map V.int))) (hi : i < t.length) (h : EvP te σ H (rInt (n : Int)))
    (k : ∀ H1, Ex H H1 → D.nx σ (L2.upd H1 tt (.lst ((nI (t.set i (t.getD i 0 + n))).map V.int)))) : tAugS (tVar j3) (tVar j6) te (rIxL K) (ipI fun i j => i + j) rSetL D σ H := by
  refine ⟨_, h3, _, h6, tt, _, _, _, rfl, rfl, .inl (.inl ht), atI_nat (nI_item hi), h H (Ex.refl _) _ fun v H1 e hv => ?_⟩
  have hv : v = .int (n : Int) := hv
  subst hv
  refine ⟨_, _, rfl, rfl, tt, _, _, i, rfl, rfl, e _ _ ht, ixN_at (by unfold nI; rw [List.length_map, List.length_map]; exact hi), ?_⟩
  have en : ((t.getD i 0 : Nat) : Int) + (n : Int) = ((t.getD i 0 + n : Nat) : Int) := by omega
  show D.nx σ (L2.upd H1 tt (.lst (((nI t).map V.int).set i (.int (((t.getD i 0 : Nat) : Int) + (n : Int))))))
  rw [en, nI_set]
  exact k H1 e
section
variable {P : Program} {w : World} {K : PySem.W.Frag} {mg : Str → Option Value} {base : Heap} {C : Addr}
theorem sc_weighted_reach : FnScope ["weights", "sources", "totals", "weight", "point", "index", "power"] ["weights", "sources"] (defScope s_weighted_reach) := ⟨rfl, rfl, rfl, by decide +kernel, rfl, by decide +kernel, by decide +kernel⟩
theorem good_weighted_reach (d : Decl K mg "weighted_reach" s_weighted_reach) (T : LimC K C) (iM : IntC mg "MOST_LETTERS" 4) (mz : mg "zip" = none) (me : mg "enumerate" = none) : Good P w K mg base "weighted_reach" 1 ["weights", "sources"] (pfN (cWR K C)) := by
  refine d.good sc_weighted_reach (fun _ _ _ _ _ _ us hl => match us, hl with | [_, _], _ => rfl) (pfN_len fun _ _ c => by cases c; rfl) fun f cdv A outer s H vs Q E hr h => ?_
  obtain ⟨Rs, R, c, ha, q⟩ := h
  cases c with
  | mk ws ds hlen h4 hw3 =>
  obtain ⟨_, _, rfl, ⟨r, rfl, hr2⟩, _, _, rfl, ⟨p, us, rfl, hp, hus⟩, rfl⟩ := ha
  refine ⟨_, pss_cons (ps_set (i := 2) sc_weighted_reach.nd rfl (.inl rfl) (pe_op op_rep (pe_lst (pa_cons pe_int pa_nil)) (pe_ic iM (by rfl))))
    (pss_cons (ps_for PassesOwn.never rfl (pi_zipM rfl mz (pa_cons (pv 0) (pa_cons (pv 1) pa_nil))) (pg_tup rfl (pgs_cons (pg_name (i := 3) sc_weighted_reach.nd rfl (.inl rfl)) (pgs_cons (pg_name (i := 4) sc_weighted_reach.nd rfl (.inl rfl)) pgs_nil)))
      (pss_one (ps_for PassesOwn.never rfl (pi_enum rfl me (pa_cons (pe_fld (pv 4) rfl) pa_nil)) (pg_tup rfl (pgs_cons (pg_name (i := 5) sc_weighted_reach.nd rfl (.inl rfl)) (pgs_cons (pg_name (i := 6) sc_weighted_reach.nd rfl (.inl rfl)) pgs_nil)))
        (pss_one (ps_augS (pv 2) (pv 5) get_list (pe_op op_mul (pv 3) (pv 6)) ip_add set_list)))))
    (pss_one (ps_ret (pv 2)))), ?_⟩
  refine s_st (σ2 := [some (.ref r), some (.ref p), none, none, none, none, none]) rfl ?_
  -- totals = [0] * MOST_LETTERS
  refine ⟨by show 1 ≤ sizeLine; decide, fun l0 n0 => ⟨l0, 4, _, rfl, rfl, upd_same, by decide, by decide, by show 1 * 4 ≤ sizeLine; decide, fun tt ntt => ?_⟩⟩
  have e0 : Ex H (L2.upd H l0 (.lst [.int 0])) := Ex.new n0
  have nH : H tt = none := Evl.fresh_back e0 ntt
  have e1 := e0.trans (Ex.new (o := .lst ((nI [0, 0, 0, 0]).map V.int)) ntt)
  generalize hH1 : L2.upd (L2.upd H l0 (.lst [.int 0])) tt (.lst ((nI [0, 0, 0, 0]).map V.int)) = H1 at e1
  have t1 : H1 tt = some (.lst ((nI [0, 0, 0, 0]).map V.int)) := by rw [← hH1]; exact upd_same
  have hul : us.length = ds.length := by rw [hus.len, List.length_map]
  have eg : (List.replicate (4 : Int).toNat [V.int 0]).flatten = (nI [0, 0, 0, 0]).map V.int := rfl
  show tSeq _ _ _ [some (.ref r), some (.ref p), some (.ref tt), none, none, none, none] (L2.upd (L2.upd H l0 (.lst [.int 0])) tt (.lst (List.replicate (4 : Int).toNat [V.int 0]).flatten))
  rw [eg, hH1]
  -- the points
  refine s_seq (s_forZ (us := (nI ws).map V.int) (vs := us) (evps_cons (evp_var (i := 0) (R := rV (.ref r)) rfl rfl) (evps_cons (evp_var (i := 1) (R := rV (.ref p)) rfl rfl) evps_nil)) hr2 (.inl (.inl (e1 _ _ hp))) (by unfold nI; rw [List.length_map, List.length_map, hul, hlen])
    (fun i σ H' => ∃ y4 y5 y6 y7, σ = [some (.ref r), some (.ref p), some (.ref tt), y4, y5, y6, y7] ∧ Ex H H' ∧ H' tt = some (.lst ((nI (((List.zip ws ds).take i).foldl (fun t q => innerR q.1 t q.2.reach) [0, 0, 0, 0])).map V.int))) (fun H2 e2 => ⟨none, none, none, none, rfl, e1.trans e2, e2 _ _ t1⟩) (fun i σ H' ⟨_, _, _, _, _, e, _⟩ => .inl (.inl (e _ _ hp))) ?_ ?_)
  · rintro i x y T0 σ H' hx hy ⟨y4, y5, y6, y7, rfl, e, ht⟩ nT
    obtain ⟨n, hn, rfl⟩ := nI_at hx
    have eT := Ex.new (H := H') (o := .tup [.int (n : Int), y]) nT
    obtain ⟨dd, hd, hrd⟩ := all2_at (hus.stay (e.trans eT)) hy
    refine ⟨T0, [.int (n : Int), y], rfl, .inl (.inl upd_same), rfl, _, _, rfl, _, _, rfl, rfl, ?_⟩
    have hz := zip_at hn hd
    have n3 := hw3 n (List.mem_of_getElem? hn)
    have hd4 := h4 dd (List.mem_of_getElem? hd)
    have ht2 := eT _ _ ht
    have eHT := e.trans eT
    generalize ht0 : ((List.zip ws ds).take i).foldl (fun t q => innerR q.1 t q.2.reach) [0, 0, 0, 0] = t0 at ht2
    have l0 : t0.length = 4 := by
      rw [← ht0]
      exact fold_len (fun t q => innerR_len _ _ _) _ _
    generalize L2.upd H' T0 (.tup [.int (n : Int), y]) = H2 at hrd ht2 eHT
    show tFor _ _ _ _ [some (.ref r), some (.ref p), some (.ref tt), some (.int (n : Int)), some y, y6, y7] H2
    obtain ⟨q5, dx5, fs5, a5, rfl, hq5, hl5, ha5⟩ : ∃ q dx fs a, y = .ref q ∧ H q = some (.ins C dx fs) ∧ fs.lookup ("reach" : Str) = some (.ref a) ∧ H a = some (.lst ((nI dd.reach).map V.int)) := by
      obtain ⟨d2, hd2, hr5⟩ := all2_at hus hy
      have e5 : d2 = dd := Option.some.inj (hd2.symm.trans hd)
      subst e5
      exact rP_reach hr5
    have na5 : a5 ≠ tt := ne_of_none ha5 nH
    have ev5 : EvP (tFld K (tVar 4) "reach") [some (.ref r), some (.ref p), some (.ref tt), some (.int (n : Int)), some (.ref q5), y6, y7] H2 (rV (.ref a5)) := fun H3 e3 Q q => ⟨_, rfl, q5, C, dx5, fs5, _, rfl, e3 _ _ (eHT _ _ hq5), T.cl, T.nR, hl5, q _ H3 (Ex.refl _) rfl⟩
    refine s_forE (xs := (nI dd.reach).map V.int) ev5 (.inl (.inl (eHT _ _ ha5))) (fun j σ H' => ∃ y6 y7, σ = [some (.ref r), some (.ref p), some (.ref tt), some (.int (n : Int)), some (.ref q5), y6, y7] ∧ Ex H H' ∧ H' tt = some (.lst ((nI ((dd.reach.zipIdx.take j).foldl (addR n) t0)).map V.int))) (fun H3 e3 => ⟨y6, y7, rfl, eHT.trans e3, e3 _ _ ht2⟩) (fun j σ H' ⟨_, _, _, e, _⟩ => .inl (.inl (e _ _ ha5))) ?_ ?_
    · rintro j x T1 σ H' hx ⟨z6, z7, rfl, e, ht'⟩ nT1
      obtain ⟨m, hm, rfl⟩ := nI_at hx
      have eT1 := Ex.new (H := H') (o := .tup [.int (j : Nat), .int (m : Int)]) nT1
      refine ⟨T1, [.int (j : Nat), .int (m : Int)], rfl, .inl (.inl upd_same), rfl, _, _, rfl, _, _, rfl, rfl, ?_⟩
      show tAugS _ _ _ _ _ _ _ [some (.ref r), some (.ref p), some (.ref tt), some (.int (n : Int)), some (.ref q5), some (.int (j : Nat)), some (.int (m : Int))] _
      have jl : j < 4 := by
        have := (List.getElem?_eq_some_iff.mp hm).1
        omega
      refine s_bump (n := n * m) (i := j) (t := (dd.reach.zipIdx.take j).foldl (addR n) t0) rfl rfl (eT1 _ _ ht') (by rw [fold_len (addR_len n)]; omega) (evp_to (evp_mul (evp_var rfl rfl) (evp_var rfl rfl) ⟨by omega, by omega⟩) (by simp)) fun H3 e3 => ?_
      refine ⟨_, _, rfl, Ex.mut ((e.trans eT1).trans e3) nH, ?_⟩
      rw [upd_same, foldl_take _ _ _ _ _ (zipIdx_at hm)]
      rfl
    · rintro σ H' ⟨z6, z7, rfl, e, ht'⟩
      refine ⟨_, _, _, _, rfl, e, ?_⟩
      rw [ht', foldl_take _ _ _ _ _ hz, ht0]
      have el : ((nI dd.reach).map V.int).length = dd.reach.zipIdx.length := by
        unfold nI
        rw [List.length_map, List.length_map, List.length_zipIdx]
      rw [el, List.take_length]
      rfl
  · rintro σ H' ⟨y4, y5, y6, y7, rfl, e, ht⟩
    have el : ((nI ws).map V.int).length = (List.zip ws ds).length := by
      unfold nI
      rw [List.length_map, List.length_map, List.length_zip, hlen, Nat.min_self]
    rw [el, List.take_length] at ht
    exact ⟨_, rfl, q _ _ nH e ht⟩
theorem sc_reach_by : FnScope ["kind", "sources", "first_letter", "totals", "index"] ["kind", "sources", "first_letter"] (defScope s_reach_by) := ⟨rfl, rfl, rfl, by decide +kernel, rfl, by decide +kernel, by decide +kernel⟩
theorem good_reach_by (d : Decl K mg "reach_by" s_reach_by) (W : WtC K mg) (tL : TupC K mg "OWN_LETTERS" (nI ownLetL)) (tR : TupC K mg "OWN_REACH" (nI ownReachL)) (mr : mg "range" = none) (g_weighted_reach : Good P w K mg base "weighted_reach" 1 ["weights", "sources"] (pfN (cWR K C))) :
    Good P w K mg base "reach_by" 2 ["kind", "sources", "first_letter"] (pfF (cReach C)) := by
  refine d.good sc_reach_by (fun _ _ _ _ _ _ us hl => match us, hl with | [_, _, _], _ => rfl) (pfF_len fun _ _ c => by cases c; rfl) fun f cdv A outer s H vs Q E hr h => ?_
  obtain ⟨Rs, R, c, ha, q⟩ := h
  obtain ⟨aW, rs, mW, sW, _, iW⟩ := W
  obtain ⟨aL, mL, sL⟩ := tL
  obtain ⟨aR, mR, sR⟩ := tR
  cases c with
  | mk k ws ds first hk hlen h4 hfirst =>
  obtain ⟨_, _, rfl, rfl, v1, _, rfl, h1, _, _, rfl, rfl, rfl⟩ := ha
  obtain ⟨r, hr1, hr2⟩ := iW k ws hk
  have hk13 := wt_lt hk
  have hol : ownLetL.getD k 0 ≤ 2 := (by decide : ∀ j : Nat, j < 13 → ownLetL.getD j 0 ≤ 2) k hk13
  refine ⟨_, pss_cons (ps_set (i := 3) sc_reach_by.nd rfl (.inl rfl) (pe_g g_weighted_reach hr (by rfl) (pa_cons (pe_ix ix_tup (pe_glob (v := .ref aW) rfl mW rfl) (pv 0) (fun _ _ => rfl)) (pa_cons (pv 1) pa_nil))))
    (pss_cons (ps_for PassesOwn.never rfl (pi_range2 rfl mr (pa_cons (pv 2) (pa_cons (pe_op op_add (pv 2) (pe_ix ix_tup (pe_glob (v := .ref aL) rfl mL rfl) (pv 0) (fun _ _ => rfl))) pa_nil))) (pg_name (i := 4) sc_reach_by.nd rfl (.inl rfl))
      (pss_one (ps_augS (pv 3) (pv 4) get_list (pe_ix ix_tup (pe_glob (v := .ref aR) rfl mR rfl) (pv 0) (fun _ _ => rfl)) ip_add set_list)))
    (pss_one (ps_ret (pv 3)))), ?_⟩
  refine s_st (σ2 := [some (.int k), some v1, some (.int first), none, none]) rfl ?_
  refine s_setN (σ2 := fun v => [some (.int k), some v1, some (.int first), some v, none]) (fun _ => rfl) (evl_call (E := E0) (evps_cons (evp_kt sW (evp_var (i := 0) rfl rfl) hr1 hr2) (evps_cons (evp_var (i := 1) rfl h1) evps_nil)) (cWR.mk ws ds hlen h4 (wt_small hk))) fun tt H' nH e ht => ?_
  have lo : (outerR ws ds).length = 4 := fold_len (fun t q => innerR_len _ _ _) _ _
  show tSeq _ _ _ [some (.int k), some v1, some (.int first), some (.ref tt), none] H'
  -- the own letters
  have eva : Evl.EvA (tCons (tVar 2) (tCons (tOp (rI0 fun i j => .int (i + j)) (tVar 2) (tOp (rIxT K) (tC (.ref aL)) (tVar 0))) tNil)) [some (.int k), some v1, some (.int first), some (.ref tt), none] H' [.int (first : Int), .int ((first : Int) + ((ownLetL.getD k 0 : Nat) : Int))] := fun H3 e3 Q q =>
    ⟨_, rfl, evp_add (σ := [some (.int k), some v1, some (.int first), some (.ref tt), none]) (evp_var (i := 2) rfl rfl) (evp_ixC sL (evp_var (i := 0) rfl rfl) (nI_get (own_at (l := ownLetL) hk13))) H3 (Ex.refl _) _ fun v H4 e4 hv => by
      rw [show v = _ from hv]
      exact q H4 e4⟩
  refine s_seq (Evl.s_forR2 (lo := (first : Int)) (n := (first : Int) + ((ownLetL.getD k 0 : Nat) : Int)) eva ⟨by omega, by omega, by omega, by omega⟩ (fun j σ H' => ∃ y6, σ = [some (.int k), some v1, some (.int first), some (.ref tt), y6] ∧ Ex H H' ∧
    H' tt = some (.lst ((nI (((List.range (ownLetL.getD k 0)).take j).foldl (fun t j => t.set (first + j) (t.getD (first + j) 0 + ownReachL.getD k 0)) (outerR ws ds))).map V.int))) (fun H3 e3 => ⟨none, rfl, e.trans e3, e3 _ _ ht⟩) ?_ ?_)
  · rintro j σ H2 hj ⟨z6, rfl, e2, ht2⟩
    have hjl : j < ownLetL.getD k 0 := by omega
    have ij : ((first : Int) + (j : Int)) = ((first + j : Nat) : Int) := by omega
    rw [ij]
    show tAugS _ _ _ _ _ _ _ [some (.int k), some v1, some (.int first), some (.ref tt), some (.int ((first + j : Nat) : Int))] _
    refine s_bump (n := ownReachL.getD k 0) (i := first + j) rfl rfl ht2 (by rw [fold_len (fun t j => List.length_set)]; omega) (evp_ixC sR (evp_var (i := 0) rfl rfl) (nI_get (own_at (l := ownReachL) hk13))) fun H3 e3 => ?_
    refine ⟨_, rfl, Ex.mut (e2.trans e3) nH, ?_⟩
    have hrj : (List.range (ownLetL.getD k 0))[j]? = some j := List.getElem?_range hjl
    rw [upd_same, foldl_take _ _ _ _ _ hrj]
  · rintro σ H2 ⟨z6, rfl, e2, ht2⟩
    have en : ((first : Int) + ((ownLetL.getD k 0 : Nat) : Int) - (first : Int)).toNat = ownLetL.getD k 0 := by omega
    rw [en, List.take_of_length_le (by rw [List.length_range]; exact Nat.le_refl _)] at ht2
    exact ⟨_, rfl, q _ _ nH e2 ⟨tt, rfl, ht2⟩⟩
theorem sc_reach_in : FnScope ["kind", "sources"] ["kind", "sources"] (defScope s_reach_in) := ⟨rfl, rfl, rfl, by decide +kernel, rfl, by decide +kernel, by decide +kernel⟩
theorem good_reach_in (d : Decl K mg "reach_in" s_reach_in) (W : WtN K mg "SAYING_WEIGHTS" sayWtL) (g_weighted_reach : Good P w K mg base "weighted_reach" 1 ["weights", "sources"] (pfN (cWR K C))) : Good P w K mg base "reach_in" 2 ["kind", "sources"] (pf (cReachIn C)) := by
  refine d.good sc_reach_in (fun _ _ _ _ _ _ us hl => match us, hl with | [_, _], _ => rfl) (pf_len fun _ _ c => by cases c; rfl) fun f cdv A outer s H vs Q E hr h => ?_
  obtain ⟨Rs, R, c, ha, q⟩ := h
  obtain ⟨aW, rs, mW, sW, _, iW⟩ := W
  cases c with
  | mk k ws ds hk hlen h4 =>
  obtain ⟨_, _, rfl, rfl, v1, _, rfl, h1, rfl⟩ := ha
  obtain ⟨r, hr1, hr2⟩ := iW k ws hk
  refine ⟨_, pss_one (ps_ret (pe_g g_weighted_reach hr (by rfl) (pa_cons (pe_ix ix_tup (pe_glob (v := .ref aW) rfl mW rfl) (pv 0) (fun _ _ => rfl)) (pa_cons (pv 1) pa_nil)))), ?_⟩
  refine s_st (σ2 := [some (.int k), some v1]) rfl ?_
  exact Evl.s_retL (evl_call (E := E0) (evps_cons (evp_kt sW (evp_var (i := 0) rfl rfl) hr1 hr2) (evps_cons (evp_var (i := 1) rfl h1) evps_nil)) (cWR.mk ws ds hlen h4 (swt_small hk))) fun p H1 np e hp => q _ _ e ⟨p, rfl, hp⟩
end
end Ds
end
section
set_option Elab.async false
set_option linter.all false
set_option maxRecDepth 100000
set_option maxHeartbeats 1000000
namespace Ds
open Su
open Kh374 (Tri Fig)
open Kh371 (Step)
open Kh370 (Poly)
/-! ### The program's points and the specification's -/
/-- a point as the program keeps it is the p-th of the figure -/
structure PtR (a : Fig) (i : Nat) (d : PtD) : Prop where
  reach : d.reach = (List.range 4).map fun l => (Kh373.reaches a l).getD i 0
  heavy : d.heavy = (Kh371.weights a).getD i 0
  dx : Dn d.t.x
  dy : Dn d.t.y
  dw : Dn d.t.w
  x : cls d.t.x = pc ((Kh374.points a).getD i (z3 Kh374.polys)).x
  y : cls d.t.y = pc ((Kh374.points a).getD i (z3 Kh374.polys)).y
  w : cls d.t.w = pc ((Kh374.points a).getD i (z3 Kh374.polys)).w
  step : ∃ s, a[i]? = some s ∧ d.kind = Kh371.kind s ∧ d.told = Kh371.numbers s
def FigR (a : Fig) (ds : List PtD) : Prop := ds.length = a.length ∧ ∀ i d, ds[i]? = some d → PtR a i d
/-- the points of a step -/
def srcs (ds : List PtD) (s : Step) : List PtD := (Kh371.args s).map fun i => ds.getD i ptD0
theorem srcs_at {a : Fig} {ds : List PtD} (h : FigR a ds) {i : Nat} (hi : i < a.length) : PtR a i (ds.getD i ptD0) := by
  refine h.2 i _ ?_
  rw [List.getD_eq_getElem?_getD, List.getElem?_eq_getElem (by rw [h.1]; exact hi)]
  rfl
theorem weights_kind (s : Step) : ∃ ws, weightsL[Kh371.kind s]? = some ws ∧ (Kh371.args s).length = ws.length := by
  cases s <;> exact ⟨_, rfl, rfl⟩
def wsOf (s : Step) : List Nat := weightsL.getD (Kh371.kind s) []
theorem wsOf_at (s : Step) : weightsL[Kh371.kind s]? = some (wsOf s) := by cases s <;> rfl
theorem wsOf_len (s : Step) : (wsOf s).length = (Kh371.args s).length := by cases s <;> rfl
theorem own_takes (s : Step) : ownLetL.getD (Kh371.kind s) 0 = Kh371.takes s := by cases s <;> rfl
/-- **How heavy.** -/
theorem hvy_is {a : Fig} {ds : List PtD} (h : FigR a ds) (s : Step) (hs : ∀ i ∈ Kh371.args s, i < a.length) : hvy (Kh371.kind s) (wsOf s) (srcs ds s) = Kh371.weigh (Kh371.weights a) s := by
  have g : ∀ i ∈ Kh371.args s, (ds.getD i ptD0).heavy = (Kh371.weights a).getD i 0 := fun i hi => (srcs_at h (hs i hi)).heavy
  cases s <;> simp only [Kh371.args, List.mem_cons, List.not_mem_nil, or_false, forall_eq_or_imp, forall_eq, false_implies, implies_true] at g <;> simp only [hvy, wsOf, weightsL, Kh371.kind, srcs, Kh371.args, ownHeavyL, List.map_cons, List.map_nil, List.zip_cons_cons, List.zip_nil_right, List.foldl_cons, List.foldl_nil, Kh371.weigh, List.getD_cons_zero, List.getD_cons_succ, List.zip, List.zipWith, g] <;> omega
theorem innerR4 (w t0 t1 t2 t3 r0 r1 r2 r3 : Nat) : innerR w [t0, t1, t2, t3] [r0, r1, r2, r3] = [t0 + w * r0, t1 + w * r1, t2 + w * r2, t3 + w * r3] := rfl
def rv (a : Fig) (i : Nat) : List Nat := [(Kh373.reaches a 0).getD i 0, (Kh373.reaches a 1).getD i 0, (Kh373.reaches a 2).getD i 0, (Kh373.reaches a 3).getD i 0]
theorem rv_eq (a : Fig) (i : Nat) : (List.range 4).map (fun l => (Kh373.reaches a l).getD i 0) = rv a i := rfl
theorem ownF {f c : Nat} {t0 t1 t2 t3 : Nat} (m : Nat) (hm : m ≤ 2) (hf : f + m ≤ 4) : (List.range m).foldl (fun (t : List Nat) j => t.set (f + j) (t.getD (f + j) 0 + c)) [t0, t1, t2, t3] =
    [t0 + if f ≤ 0 ∧ 0 < f + m then c else 0, t1 + if f ≤ 1 ∧ 1 < f + m then c else 0, t2 + if f ≤ 2 ∧ 2 < f + m then c else 0, t3 + if f ≤ 3 ∧ 3 < f + m then c else 0] := by
  match m, hm with
  | 0, _ =>
    simp only [List.range_zero, List.foldl_nil]
    rw [if_neg (by omega), if_neg (by omega), if_neg (by omega), if_neg (by omega)]
    rfl
  | 1, _ =>
    match f, hf with
    | 0, _ => rfl
    | 1, _ => rfl
    | 2, _ => rfl
    | 3, _ => rfl
  | 2, _ =>
    match f, hf with
    | 0, _ => rfl
    | 1, _ => rfl
    | 2, _ => rfl
theorem l4 {x0 x1 x2 x3 y0 y1 y2 y3 : Nat} (h0 : x0 = y0) (h1 : x1 = y1) (h2 : x2 = y2) (h3 : x3 = y3) : [x0, x1, x2, x3] = [y0, y1, y2, y3] := by rw [h0, h1, h2, h3]
/-- **How far each letter reaches.** -/
theorem reach_is {a : Fig} {ds : List PtD} (h : FigR a ds) (s : Step) (hs : ∀ i ∈ Kh371.args s, i < a.length) (hl : Kh373.lettersOf (a ++ [s]) ≤ 4) : mReach (Kh371.kind s) (wsOf s) (srcs ds s) (Kh373.lettersOf a) = (List.range 4).map fun l => Kh373.reach1 (Kh373.reaches a l) (mineL a s l) s := by
  have g : ∀ i ∈ Kh371.args s, (ds.getD i ptD0).reach = rv a i := fun i hi => (srcs_at h (hs i hi)).reach
  rw [letters_snoc] at hl
  have et : ∀ l, mineL a s l = decide (Kh373.lettersOf a ≤ l ∧ l < Kh373.lettersOf a + Kh371.takes s) := fun l => rfl
  have eo := own_takes s
  have key : ∀ t0 t1 t2 t3, outerR (wsOf s) (srcs ds s) = [t0, t1, t2, t3] → mReach (Kh371.kind s) (wsOf s) (srcs ds s) (Kh373.lettersOf a) = [t0 + if mineL a s 0 = true then ownReachL.getD (Kh371.kind s) 0 else 0, t1 + if mineL a s 1 = true then ownReachL.getD (Kh371.kind s) 0 else 0, t2 + if mineL a s 2 = true then ownReachL.getD (Kh371.kind s) 0 else 0, t3 + if mineL a s 3 = true then ownReachL.getD (Kh371.kind s) 0 else 0] := by
    intro t0 t1 t2 t3 e
    unfold mReach
    rw [e, eo, ownF _ (by cases s <;> simp [Kh371.takes]) hl]
    simp only [et, decide_eq_true_eq]
  show _ = [Kh373.reach1 (Kh373.reaches a 0) (mineL a s 0) s, Kh373.reach1 (Kh373.reaches a 1) (mineL a s 1) s, Kh373.reach1 (Kh373.reaches a 2) (mineL a s 2) s, Kh373.reach1 (Kh373.reaches a 3) (mineL a s 3) s]
  have z0 : ∀ b : Bool, (if b = true then 0 else 0 : Nat) = 0 := fun b => by cases b <;> rfl
  cases s <;> simp only [Kh371.args, List.mem_cons, List.not_mem_nil, or_false, forall_eq_or_imp, forall_eq, false_implies, implies_true] at g <;>
    (refine (key _ _ _ _ (by simp only [outerR, wsOf, weightsL, Kh371.kind, srcs, Kh371.args, List.map_cons, List.map_nil, List.zip, List.zipWith, List.foldl_cons, List.foldl_nil, List.getD_cons_zero, List.getD_cons_succ, g, rv, innerR4] <;> rfl)).trans ?_) <;>
    simp only [Kh371.kind, ownReachL, List.getD_cons_zero, List.getD_cons_succ, Kh373.reach1, z0] <;> exact l4 (by omega) (by omega) (by omega) (by omega)
/-- **The grid's places.** -/
theorem places_is (b : Nat → Nat) : mPlaces ((List.range 4).map b) = prod4 b := by
  show 1 * (b 0 + 1) * (b 1 + 1) * (b 2 + 1) * (b 3 + 1) = (b 0 + 1) * ((b 1 + 1) * ((b 2 + 1) * (b 3 + 1)))
  simp only [Nat.one_mul, Nat.mul_assoc]
/-- **The numbers that fit.** -/
def numsOf : Step → List Int
  | .fixed a b => [a, b]
  | .part _ _ m n => [m, n]
  | _ => []
theorem fit_is (s : Step) : fitB (Kh371.kind s) (numsOf s) = Kh371.okStep s := by
  cases s with
  | fixed a b =>
    show (decide (a.natAbs ≤ 1000) && decide (b.natAbs ≤ 1000)) = Kh371.okStep (.fixed a b)
    simp only [Kh371.okStep, Kh371.okNumber]
    rw [Bool.eq_iff_iff]
    simp only [Bool.and_eq_true, decide_eq_true_eq]
    omega
  | part a b m n =>
    show (decide (m.natAbs ≤ 100) && (decide (1 ≤ n) && decide (n ≤ 100))) = Kh371.okStep (.part a b m n)
    simp only [Kh371.okStep]
    rw [Bool.eq_iff_iff]
    simp only [Bool.and_eq_true, decide_eq_true_eq]
    omega
  | _ => rfl
/-! ### The new point -/
def letD (L : Nat) : List Raw := (List.range (4 - L)).map fun j => mLet (L + j)
theorem mLet_raw (i : Nat) : mLet i = raw (Kh370.letter 4 i) := rfl
theorem mLet_dn (i : Nat) : Dn (mLet i) := ⟨nodup_one _, fun t ht => by rw [List.mem_singleton.mp ht]; exact (by decide : (1 : Int) ≠ 0)⟩
def newT (a : Fig) (ds : List PtD) (s : Step) : Tri Raw := mStep dOps (ds.map (·.t)) (letD (Kh373.lettersOf a)) s
def pcT (t : Tri Poly) : Tri L := ⟨pc t.x, pc t.y, pc t.w⟩
/-- **What the program draws is what the document tells.** -/
theorem new_is {a : Fig} {ds : List PtD} (ok : FigOk a) (h : FigR a ds) (s : Step) :
    (Dn (newT a ds s).x ∧ Dn (newT a ds s).y ∧ Dn (newT a ds s).w) ∧ cls (newT a ds s).x = pc (Kh374.place Kh374.polys (Kh374.points a) (lets.drop (Kh373.lettersOf a)) s).x ∧ cls (newT a ds s).y = pc (Kh374.place Kh374.polys (Kh374.points a) (lets.drop (Kh373.lettersOf a)) s).y ∧ cls (newT a ds s).w = pc (Kh374.place Kh374.polys (Kh374.points a) (lets.drop (Kh373.lettersOf a)) s).w := by
  let Lt := Kh373.lettersOf a
  let qs : List (Tri L) := (List.range a.length).map fun i => pcT ((Kh374.points a).getD i (z3 Kh374.polys))
  let ms : List L := (List.range (4 - Lt)).map fun j => pc (Kh370.letter 4 (Lt + j))
  have l4 : Lt ≤ 4 := ok.letters
  have r1 : TR RingD (newT a ds s) (mStep ringOps qs ms s) := by
    refine mStep_rel ringD_rel (fun i => ?_) (fun i => ?_) s
    · show TR RingD ((ds.map (·.t)).getD i (z3 dOps)) (((List.range a.length).map fun i => pcT ((Kh374.points a).getD i (z3 Kh374.polys))).getD i (z3 ringOps))
      rw [getD_map_range]
      by_cases hi : i < a.length
      · have hd : ds[i]? = some (ds[i]'(by rw [h.1]; exact hi)) := List.getElem?_eq_getElem _
        have p := h.2 i _ hd
        rw [if_pos hi, List.getD_eq_getElem?_getD, List.getElem?_map, hd]
        exact ⟨⟨p.dx, p.x⟩, ⟨p.dy, p.y⟩, ⟨p.dw, p.w⟩⟩
      · rw [if_neg hi, getD_out _ _ (by rw [List.length_map, h.1]; omega)]
        exact ⟨ringD_rel.number 0, ringD_rel.number 0, ringD_rel.number 0⟩
    · show RingD (((List.range (4 - Lt)).map fun j => mLet (Lt + j)).getD i (dOps.number 0)) (((List.range (4 - Lt)).map fun j => pc (Kh370.letter 4 (Lt + j))).getD i (ringOps.number 0))
      rw [getD_map_range, getD_map_range]
      by_cases hi : i < 4 - Lt
      · rw [if_pos hi, if_pos hi]
        exact ⟨mLet_dn _, rfl⟩
      · rw [if_neg hi, if_neg hi]
        exact ringD_rel.number 0
  have r2 : TR RingR (Kh374.place Kh374.polys (Kh374.points a) (lets.drop Lt) s) (Kh374.place ringOps qs ms s) := by
    refine place_rel ring_rel (fun i => ?_) (fun i => ?_) s
    · show TR RingR ((Kh374.points a).getD i (z3 Kh374.polys)) (((List.range a.length).map fun i => pcT ((Kh374.points a).getD i (z3 Kh374.polys))).getD i (z3 ringOps))
      rw [getD_map_range]
      by_cases hi : i < a.length
      · rw [if_pos hi]
        have b := ok.bound i
        exact ⟨⟨b.x.w, rfl⟩, ⟨b.y.w, rfl⟩, ⟨b.w.w, rfl⟩⟩
      · rw [if_neg hi, getD_out _ _ (by rw [points_len]; omega)]
        exact ⟨ring_rel.number 0, ring_rel.number 0, ring_rel.number 0⟩
    · show RingR ((lets.drop Lt).getD i (Kh374.polys.number 0)) (((List.range (4 - Lt)).map fun j => pc (Kh370.letter 4 (Lt + j))).getD i (ringOps.number 0))
      rw [getD_map_range, List.getD_eq_getElem?_getD, List.getElem?_drop, ← List.getD_eq_getElem?_getD]
      by_cases hi : i < 4 - Lt
      · rw [if_pos hi, lets_get _ (by omega)]
        exact ⟨G.letter.w, rfl⟩
      · rw [if_neg hi, getD_out _ _ (show lets.length ≤ _ by show 4 ≤ _; omega)]
        exact ring_rel.number 0
  rw [mStep_ring] at r1
  exact ⟨⟨r1.x.1, r1.y.1, r1.w.1⟩, r1.x.2.trans r2.x.2.symm, r1.y.2.trans r2.y.2.symm, r1.w.2.trans r2.w.2.symm⟩
/-- **One more point**: where the specification takes the step, the program's point is the new one. -/
theorem FigR.snoc {a : Fig} {ds : List PtD} (ok : FigOk a) (h : FigR a ds) {s : Step} (hs : ∀ i ∈ Kh371.args s, i < a.length) (hl : Kh373.lettersOf (a ++ [s]) ≤ 4) : FigR (a ++ [s]) (ds ++ [⟨newT a ds s, mReach (Kh371.kind s) (wsOf s) (srcs ds s) (Kh373.lettersOf a), hvy (Kh371.kind s) (wsOf s) (srcs ds s), Kh371.kind s, Kh371.numbers s⟩]) := by
  refine ⟨by rw [List.length_append, List.length_append, h.1]; rfl, fun i d hd => ?_⟩
  by_cases hi : i < ds.length
  · rw [List.getElem?_append_left hi] at hd
    have p := h.2 i d hd
    have hi2 : i < a.length := by rw [← h.1]; exact hi
    have ep : (Kh374.points (a ++ [s])).getD i (z3 Kh374.polys) = (Kh374.points a).getD i (z3 Kh374.polys) := by rw [points_snoc, getD_old _ _ _ (by rw [points_len]; exact hi2)]
    refine ⟨?_, ?_, p.dx, p.dy, p.dw, by rw [ep]; exact p.x, by rw [ep]; exact p.y, by rw [ep]; exact p.w, by rw [List.getElem?_append_left hi2]; exact p.step⟩
    · rw [p.reach]
      refine List.map_congr_left fun l _ => ?_
      rw [reaches_snoc, getD_old _ _ _ (by rw [reaches_len]; exact hi2)]
    · rw [p.heavy, weights_snoc, getD_old _ _ _ (by rw [weights_len]; exact hi2)]
  · have hi2 : i = ds.length := by
      have := (List.getElem?_eq_some_iff.mp hd).1
      rw [List.length_append] at this
      have : i < ds.length + 1 := this
      omega
    subst hi2
    rw [List.getElem?_append_right (Nat.le_refl _), Nat.sub_self] at hd
    have ed : _ = d := Option.some.inj hd
    subst ed
    obtain ⟨⟨n1, n2, n3⟩, c1, c2, c3⟩ := new_is ok h s
    have ep : (Kh374.points (a ++ [s])).getD ds.length (z3 Kh374.polys) = Kh374.place Kh374.polys (Kh374.points a) (lets.drop (Kh373.lettersOf a)) s := by rw [points_snoc, getD_new _ _ _ (by rw [points_len]; exact h.1)]
    refine ⟨?_, ?_, n1, n2, n3, by rw [ep]; exact c1, by rw [ep]; exact c2, by rw [ep]; exact c3, s, by rw [h.1, List.getElem?_append_right (Nat.le_refl _), Nat.sub_self]; rfl, rfl, rfl⟩
    · show mReach _ _ _ _ = _
      rw [reach_is h s hs hl]
      refine List.map_congr_left fun l _ => ?_
      rw [reaches_snoc, getD_new _ _ _ (by rw [reaches_len]; exact h.1)]
    · show hvy _ _ _ = _
      rw [hvy_is h s hs, weights_snoc, getD_new _ _ _ (by rw [weights_len]; exact h.1)]
/-- out: the last point is gone -/
theorem FigR.drop {a : Fig} {s : Step} {ds : List PtD} {d : PtD} (h : FigR (a ++ [s]) (ds ++ [d])) : FigR a ds := by
  have hl : ds.length = a.length := by
    have := h.1
    rw [List.length_append, List.length_append] at this
    have : ds.length + 1 = a.length + 1 := this
    omega
  refine ⟨hl, fun i e he => ?_⟩
  have hi : i < ds.length := (List.getElem?_eq_some_iff.mp he).1
  have hi2 : i < a.length := by omega
  have p := h.2 i e (by rw [List.getElem?_append_left hi]; exact he)
  have ep : (Kh374.points (a ++ [s])).getD i (z3 Kh374.polys) = (Kh374.points a).getD i (z3 Kh374.polys) := by rw [points_snoc, getD_old _ _ _ (by rw [points_len]; exact hi2)]
  refine ⟨?_, ?_, p.dx, p.dy, p.dw, by rw [← ep]; exact p.x, by rw [← ep]; exact p.y, by rw [← ep]; exact p.w, by rw [← List.getElem?_append_left (l₂ := [s]) hi2]; exact p.step⟩
  · rw [p.reach]
    refine List.map_congr_left fun l _ => ?_
    rw [reaches_snoc, getD_old _ _ _ (by rw [reaches_len]; exact hi2)]
  · rw [p.heavy, weights_snoc, getD_old _ _ _ (by rw [weights_len]; exact hi2)]
/-- **A point's dicts hold just its sums' terms.** -/
theorem PtR.rep {a : Fig} (ok : FigOk a) {i : Nat} {d : PtD} (p : PtR a i d) : d.t.x.Perm (raw ((Kh374.points a).getD i (z3 Kh374.polys)).x) ∧ d.t.y.Perm (raw ((Kh374.points a).getD i (z3 Kh374.polys)).y) ∧ d.t.w.Perm (raw ((Kh374.points a).getD i (z3 Kh374.polys)).w) := by
  have b := ok.bound i
  have lt := lt1000 (ok.small i) (reachB_far ok.letters i)
  exact ⟨rep_of b.x lt p.dx p.x, rep_of b.y lt p.dy p.y, rep_of b.w lt p.dw p.w⟩
/-- and keep to their bounds -/
theorem gd_of {b : Bd} {n : Nat} {p : Poly} {d : Raw} (h : G b n p) (hd : Dn d) (hp : d.Perm (raw p)) : GD b n d := by
  refine ⟨hd, fun t ht => ?_, ?_⟩
  · obtain ⟨u, hu, rfl⟩ := List.mem_map.mp (hp.mem_iff.mp ht)
    exact ⟨u.2, h.w u hu, h.d u hu, rfl⟩
  · have e : nrmD d = nrm p := by
      unfold nrmD nrm
      rw [(hp.map _).sum_nat]
      unfold raw
      rw [List.map_map]
      rfl
    rw [e]
    exact h.z
theorem PtR.gp {a : Fig} (ok : FigOk a) {i : Nat} {d : PtD} (p : PtR a i d) : Gp (reachB a i) (heavyN a i) d.t := by
  have b := ok.bound i
  obtain ⟨p1, p2, p3⟩ := p.rep ok
  exact ⟨gd_of b.x p.dx p1, gd_of b.y p.dy p2, gd_of b.w p.dw p3⟩
end Ds
end
section
set_option Elab.async false
set_option linter.all false
set_option maxRecDepth 100000
set_option maxHeartbeats 1000000
namespace Ds
open Su PySem L2
open Kh374 (Tri Fig)

open Kh370 (Poly)
/-! ### What drawn is handed, and what it gives -/
abbrev pd (ds : List PtD) (i : Nat) : PtD := ds.getD i ptD0
def toldR (C : Addr) (a : Fig) (ds : List PtD) (s : Kh371.Step) : List Rp := (srcs ds s).map (rP C) ++ ((numsOf s).map (fun c => rD (dOps.number c)) ++ (List.range (Kh371.takes s)).map fun j => rD (mLet (Kh373.lettersOf a + j)))
theorem pd_t {a : Fig} {ds : List PtD} (h : FigR a ds) {i : Nat} (hi : i < a.length) : (ds.map (·.t)).getD i ⟨dOps.number 0, dOps.number 0, dOps.number 0⟩ = (pd ds i).t := by
  have hd : ds[i]? = some (ds[i]'(by rw [h.1]; exact hi)) := List.getElem?_eq_getElem _
  rw [List.getD_eq_getElem?_getD, List.getElem?_map, hd]
  show _ = (ds.getD i _).t
  rw [List.getD_eq_getElem?_getD, hd]
  rfl
theorem letD_at {L i : Nat} (h : L + i < 4) : (letD L).getD i (dOps.number 0) = mLet (L + i) := by
  unfold letD
  rw [getD_map_range, if_pos (by omega)]
theorem gd_let (L : Nat) : GD (b1 L) 0 (mLet L) := gd_of G.letter (mLet_dn L) (List.Perm.refl _)
theorem draw_c {C : Addr} {a : Fig} {ds : List PtD} (ok : FigOk a) (h : FigR a ds) {s : Kh371.Step} (hs : ∀ i ∈ Kh371.args s, i < a.length) (hn : Kh371.okStep s = true) (hl : Kh373.lettersOf (a ++ [s]) ≤ 4) (hw : Kh373.many (Kh373.gridAt (a ++ [s]) a.length) ≤ 200) :
    cDrawn C [rInt (Kh371.kind s), rLst (toldR C a ds s)] (rT3 (newT a ds s)) := by
  have hW : Sm (fun l => Kh373.reach1 (Kh373.reaches a l) (mineL a s l) s) := by
    have e : reachB (a ++ [s]) a.length = fun l => Kh373.reach1 (Kh373.reaches a l) (mineL a s l) s := funext fun l => by
      show (Kh373.reaches (a ++ [s]) l).getD a.length 0 = _
      rw [reaches_snoc, getD_new _ _ _ (by rw [reaches_len])]
    rw [gridAt_many hl, e] at hw
    exact hw
  have gp : ∀ i ∈ Kh371.args s, Gp (reachB a i) (heavyN a i) (pd ds i).t := fun i hi => (srcs_at h (hs i hi)).gp ok
  have hv : ∀ i, heavyN a i ≤ 7990 := heavyN_le ok
  rw [letters_snoc] at hl
  have nm := num_ok hn
  have me : ∀ l, (if l = Kh373.lettersOf a then 1 else 0) ≤ (if mineL a s l = true then 1 else 0) ∨ Kh371.takes s = 0 := fun l => by
    by_cases t0 : Kh371.takes s = 0
    · exact .inr t0
    · refine .inl ?_
      by_cases e : l = Kh373.lettersOf a
      · rw [if_pos e, if_pos]
        · exact Nat.le_refl _
        · unfold mineL
          exact decide_eq_true (by omega)
      · rw [if_neg e]
        exact Nat.zero_le _
  cases s with
  | fixed m n => exact .no_ (.fixed_ .mk)
  | free =>
    have hl : Kh373.lettersOf a + 2 ≤ 4 := hl
    have e0 := letD_at (L := Kh373.lettersOf a) (i := 0) (by omega)
    have e1 := letD_at (L := Kh373.lettersOf a) (i := 1) (by omega)
    have en : newT a ds .free = ⟨mLet (Kh373.lettersOf a + 0), mLet (Kh373.lettersOf a + 1), dOps.number 1⟩ := by
      rw [← e0, ← e1]
      rfl
    rw [en]
    exact .no_ (.free_ .mk)
  | on i j =>
    have hl : Kh373.lettersOf a + 1 ≤ 4 := hl
    have e0 := letD_at (L := Kh373.lettersOf a) (i := 0) (by omega)
    have en : newT a ds (.on i j) = mOn dOps (pd ds i).t (pd ds j).t (mLet (Kh373.lettersOf a + 0)) := by
      rw [← e0, ← pd_t h (hs i (by simp [Kh371.args])), ← pd_t h (hs j (by simp [Kh371.args]))]
      rfl
    rw [en]
    refine .two_ (.on_ (.mk (gp i (by simp [Kh371.args])) (gp j (by simp [Kh371.args])) (gd_let _) (sm_of hW fun l => ?_) (by have := hv i; have := hv j; omega)))
    have := me l
    simp only [badd, b1, Kh373.reach1, reachB, Kh371.takes, Nat.add_zero] at this ⊢
    omega
  | part i j m n =>
    have en : newT a ds (.part i j m n) = mPart dOps (pd ds i).t (pd ds j).t (dOps.number m) (dOps.number n) := by
      rw [← pd_t h (hs i (by simp [Kh371.args])), ← pd_t h (hs j (by simp [Kh371.args]))]
      rfl
    rw [en]
    refine .two_ (.part_ (.mk (gp i (by simp [Kh371.args])) (gp j (by simp [Kh371.args])) (gd_const (n := 7) (by have := nm.1; omega)) (gd_const (n := 7) (by have := nm.2; omega)) (sm_of hW fun l => ?_) (by have := hv i; have := hv j; omega)))
    simp only [badd, bmax, b0, Kh373.reach1, reachB]
    omega
  | along i j k =>
    have en : newT a ds (.along i j k) = mAlong dOps (pd ds i).t (pd ds j).t (pd ds k).t := by
      rw [← pd_t h (hs i (by simp [Kh371.args])), ← pd_t h (hs j (by simp [Kh371.args])), ← pd_t h (hs k (by simp [Kh371.args]))]
      rfl
    rw [en]
    refine .three_ (.along_ (.mk (gp i (by simp [Kh371.args])) (gp j (by simp [Kh371.args])) (gp k (by simp [Kh371.args])) (sm_of hW fun l => ?_) (by have := hv i; have := hv j; have := hv k; omega)))
    simp only [badd, bmax, b0, Kh373.reach1, reachB]
    omega
  | meet i j k o =>
    have en : newT a ds (.meet i j k o) = mMeet dOps (pd ds i).t (pd ds j).t (pd ds k).t (pd ds o).t := by
      rw [← pd_t h (hs i (by simp [Kh371.args])), ← pd_t h (hs j (by simp [Kh371.args])), ← pd_t h (hs k (by simp [Kh371.args])), ← pd_t h (hs o (by simp [Kh371.args]))]
      rfl
    rw [en]
    refine .meet_ (.mk (gp i (by simp [Kh371.args])) (gp j (by simp [Kh371.args])) (gp k (by simp [Kh371.args])) (gp o (by simp [Kh371.args])) (sm_of hW fun l => ?_) (by have := hv i; have := hv j; have := hv k; have := hv o; omega))
    simp only [badd, bmax, b0, Kh373.reach1, reachB]
    omega
  | foot i j k =>
    have en : newT a ds (.foot i j k) = mFoot dOps (pd ds i).t (pd ds j).t (pd ds k).t := by
      rw [← pd_t h (hs i (by simp [Kh371.args])), ← pd_t h (hs j (by simp [Kh371.args])), ← pd_t h (hs k (by simp [Kh371.args]))]
      rfl
    rw [en]
    refine .three_ (.foot_ (.mk (gp i (by simp [Kh371.args])) (gp j (by simp [Kh371.args])) (gp k (by simp [Kh371.args])) (sm_of hW fun l => ?_) (by have := hv i; have := hv j; have := hv k; omega)))
    simp only [badd, bmax, b0, Kh373.reach1, reachB]
    omega
  | mirror i j k =>
    have en : newT a ds (.mirror i j k) = mMirror dOps (pd ds i).t (pd ds j).t (pd ds k).t := by
      rw [← pd_t h (hs i (by simp [Kh371.args])), ← pd_t h (hs j (by simp [Kh371.args])), ← pd_t h (hs k (by simp [Kh371.args]))]
      rfl
    rw [en]
    refine .three_ (.mirror_ (.mk (gp i (by simp [Kh371.args])) (gp j (by simp [Kh371.args])) (gp k (by simp [Kh371.args])) (sm_of hW fun l => ?_) (by have := hv i; have := hv j; have := hv k; omega)))
    simp only [badd, bmax, b0, Kh373.reach1, reachB]
    omega
  | turn i j =>
    have en : newT a ds (.turn i j) = mTurn dOps (pd ds i).t (pd ds j).t := by
      rw [← pd_t h (hs i (by simp [Kh371.args])), ← pd_t h (hs j (by simp [Kh371.args]))]
      rfl
    rw [en]
    refine .two_ (.turn_ (.mk (gp i (by simp [Kh371.args])) (gp j (by simp [Kh371.args])) (sm_of hW fun l => ?_) (by have := hv i; have := hv j; omega)))
    simp only [badd, bmax, b0, Kh373.reach1, reachB]
    omega
  | centre i j k =>
    have en : newT a ds (.centre i j k) = mCentre dOps (pd ds i).t (pd ds j).t (pd ds k).t := by
      rw [← pd_t h (hs i (by simp [Kh371.args])), ← pd_t h (hs j (by simp [Kh371.args])), ← pd_t h (hs k (by simp [Kh371.args]))]
      rfl
    rw [en]
    refine .three_ (.centre_ (.mk (gp i (by simp [Kh371.args])) (gp j (by simp [Kh371.args])) (gp k (by simp [Kh371.args])) (sm_of hW fun l => ?_) (by have := hv i; have := hv j; have := hv k; omega)))
    simp only [badd, bmax, b0, Kh373.reach1, reachB]
    omega
  | second i j k =>
    have en : newT a ds (.second i j k) = mSecond dOps (pd ds i).t (pd ds j).t (pd ds k).t := by
      rw [← pd_t h (hs i (by simp [Kh371.args])), ← pd_t h (hs j (by simp [Kh371.args])), ← pd_t h (hs k (by simp [Kh371.args]))]
      rfl
    rw [en]
    refine .three_ (.second_ (.mk (gp i (by simp [Kh371.args])) (gp j (by simp [Kh371.args])) (gp k (by simp [Kh371.args])) (sm_of hW fun l => ?_) (by have := hv i; have := hv j; have := hv k; omega)))
    simp only [badd, bmax, b0, Kh373.reach1, reachB]
    omega
  | round i j =>
    have hl : Kh373.lettersOf a + 1 ≤ 4 := hl
    have e0 := letD_at (L := Kh373.lettersOf a) (i := 0) (by omega)
    have en : newT a ds (.round i j) = mRound dOps (pd ds i).t (pd ds j).t (mLet (Kh373.lettersOf a + 0)) := by
      rw [← e0, ← pd_t h (hs i (by simp [Kh371.args])), ← pd_t h (hs j (by simp [Kh371.args]))]
      rfl
    rw [en]
    refine .two_ (.round_about_ (.mk (gp i (by simp [Kh371.args])) (gp j (by simp [Kh371.args])) (gd_let _) (sm_of hW fun l => ?_) (by have := hv i; have := hv j; omega)))
    have := me l
    simp only [badd, b1, Kh373.reach1, reachB, Kh371.takes, Nat.add_zero] at this ⊢
    cases hm : mineL a (.round i j) l <;> simp only [hm, if_true, Bool.false_eq_true, if_false] at this ⊢ <;> omega
  | inverse i j k =>
    have en : newT a ds (.inverse i j k) = mInverse dOps (pd ds i).t (pd ds j).t (pd ds k).t := by
      rw [← pd_t h (hs i (by simp [Kh371.args])), ← pd_t h (hs j (by simp [Kh371.args])), ← pd_t h (hs k (by simp [Kh371.args]))]
      rfl
    rw [en]
    refine .three_ (.inverse_ (.mk (gp i (by simp [Kh371.args])) (gp j (by simp [Kh371.args])) (gp k (by simp [Kh371.args])) (sm_of hW fun l => ?_) (by have := hv i; have := hv j; have := hv k; omega)))
    simp only [badd, bmax, b0, Kh373.reach1, reachB]
    omega
end Ds
end
section
set_option Elab.async false
set_option linter.all false
set_option maxRecDepth 100000
set_option maxHeartbeats 1000000
namespace Ds
open PySem PySem.Spec PyProof.Rows L2 Su
open Evl (Ex EvT)
/-! ### Methods -/
def GoodM (P : Program) (w : World) (K : PySem.W.Frag) (mg : Str → Option Value) (base : Heap) (C : Addr) (m : Str) (k : Nat) (ps : List Str) (sp : Sp) : Prop :=
  ∃ f fd, Meth K C m f ∧ Binds K fd ps [] ∧ FnOk P w K mg base CX0 k f fd ps sp
def DeclM (K : PySem.W.Frag) (C : Addr) (cn m qual : Str) (st : Stmt) : Prop := ∃ f fd, FnP K m qual st f fd ∧ Meth K C m f
theorem pe_gm {X : Cx} {C : Addr} {m : Str} {k : Nat} {ps : List Str} {sp : Sp} {o e : Expr} {es : List Expr} {ta : TE} {t : TA} {apos pos : Pos} {pl : Sem Bool} (g : GoodM X.prog X.w X.K X.mg X.base C m k ps sp) (c : Cls X.K C) (hr : Room k X.A) (ho : PE X o ta) (ha : PA X (e :: es) t)
    (hst : starEach (e :: es) X.env = (false, eval e X.env) :: starEach es X.env := by rfl) (hpl : (backTo pos (starEach es X.env)).any (·.1) = false := by rfl)
    (ht : eval (.Call (.Attribute o m apos) (e :: es) [] pos) X.env = (do
      let ov ← eval o X.env
      standAt apos.atName
      let (f, first) ← holding [ov] (getMethod ov m pl)
      callWith pos f first (backTo pos (starEach (e :: es) X.env)) (backToKw pos (keywordEach [] X.env))) := by rfl) : PE X (.Call (.Attribute o m apos) (e :: es) [] pos) (tMeth C m sp [] E0 ta t) := by
  obtain ⟨f, fd, h1, h2, h3⟩ := g
  exact pe_meth ho c h1 h3 hr h2 .nil pass0 ha hst hpl ht
theorem DeclM.good {P : Program} {w : World} {K : PySem.W.Frag} {mg : Str → Option Value} {base : Heap} {C : Addr} {cn m qual : Str} {st : Stmt} {N ps : List Str} {k : Nat} {sp : Sp} (d : DeclM K C cn m qual st) (S : FnScope N ps (defScope st)) (hb : ∀ (kV doc pm : Value) (an : Option Addr) (cdv ct : Value) (us : List Value), us.length = ps.length → bindArgs (PySem.W.fnOf m qual (defArgs st) (defBody st) (defScope st) .none kV doc pm an cdv ct) ⟨us, []⟩ = pure (ps.zip us))
    (len : ∀ vs H Q E, sp vs H Q E → vs.length = ps.length) (hbody : ∀ (f : Addr) (cdv : Value) (A : Around) (outer : List Env) (s : Shared) (H : Hp) (vs : List V) (Q : VK) (E : XK), Room k (A.deeper (envOfC qual (defScope st) s.heap.objs.size f cdv)) → sp vs H Q E →
      ∃ t, PSs (cxOf CX0 P w K mg base N qual (defScope st) f cdv A outer s H E).nox (defBody st) t ∧ t { nx := fun _ H' => Q .non H', rt := Q } (start N vs) H) : GoodM P w K mg base C m (k + 1) ps sp := by
  obtain ⟨f, fd, F, hm⟩ := d
  refine ⟨f, fd, hm, F.bindsN hb, F.ok S len fun cdv A outer s H vs Q E hr h => ?_⟩
  obtain ⟨t, h1, h2⟩ := hbody f cdv A outer s H vs Q E hr h
  exact ⟨t, PSs.nox h1, h2⟩
theorem FldAt.none_ {H : Hp} {n : Str} : ∀ {rs : List (Str × Rp)} {fs : List (Str × V)}, FldAt rs fs H → rs.lookup n = none → fs.lookup n = none
  | [], _, h, _ => by
    rw [show _ = [] from h]
    rfl
  | (m, S) :: rs, fs, ⟨v, r, h1, h2, h3⟩, h => by
    rw [h1]
    rw [List.lookup_cons] at h ⊢
    cases e : n == m with
    | true =>
      rw [e] at h
      cases h
    | false =>
      rw [e] at h
      exact FldAt.none_ h3 h
theorem evp_meth {σ : L2.St} {H : Hp} {te : TE} {ta : TA} {C : Addr} {m : Str} {rs : List (Str × Rp)} {Rs : List Rp} {R : Rp} {D : List Rp → Rp → Prop} {E : XK} (h : EvP te σ H (rIns C rs)) (hm : rs.lookup m = none) (ha : EvPs ta σ H Rs) (c : D (rIns C rs :: Rs) R) : EvP (tMeth C m (pf D) [] E te ta) σ H R := fun H1 e Q q =>
  h H1 e _ fun v H2 e2 hv => by
    have hv' := hv
    obtain ⟨p, dx, fs, rfl, hp, hf⟩ := hv
    refine ⟨p, dx, fs, rfl, hp, hf.none_ hm, ha H2 (e.trans e2) _ fun vs H3 e3 hvs => ?_⟩
    show pf D (.ref p :: (vs ++ [])) H3 Q E
    rw [List.append_nil]
    exact ⟨rIns C rs :: Rs, R, c, ⟨_, _, rfl, Rp.stay _ e3 hv', hvs⟩, fun v' H4 e4 r => q v' H4 (e2.trans (e3.trans e4)) r⟩
/-! ### The figure, as it is looked at -/
def rFig (CF C : Addr) (bg : Bool) (ds : List PtD) (L : Nat) : Rp := rIns CF [("begun", rV (.bl bg)), ("points", rLst (ds.map (rP C))), ("letters", rInt L)]
structure FigC (K : PySem.W.Frag) (CF : Addr) : Prop where
  cl : Cls K CF
  nB : NoAttr K CF "begun"
  nP : NoAttr K CF "points"
  nL : NoAttr K CF "letters"
section
variable {K : PySem.W.Frag} {σ : L2.St} {H : Hp} {te : TE} {CF C : Addr} {bg : Bool} {ds : List PtD} {L : Nat}
theorem evp_pts (T : FigC K CF) (h : EvP te σ H (rFig CF C bg ds L)) : EvP (tFld K te "points") σ H (rLst (ds.map (rP C))) := evp_fld T.cl T.nP h (by
  have e1 : (("points" : Str) == "begun") = false := by decide +kernel
  simp only [List.lookup, e1, beq_self_eq_true])
theorem evp_lts (T : FigC K CF) (h : EvP te σ H (rFig CF C bg ds L)) : EvP (tFld K te "letters") σ H (rInt L) := evp_fld T.cl T.nL h (by
  have e1 : (("letters" : Str) == "begun") = false := by decide +kernel
  have e2 : (("letters" : Str) == "points") = false := by decide +kernel
  simp only [List.lookup, e1, e2, beq_self_eq_true])
theorem evp_lenL {Rs : List Rp} (h : EvP te σ H (rLst Rs)) : EvP (tCB (fun ys H Q => ∃ p zs, ys = [.ref p] ∧ (SqL K H p zs ∨ SqT K H p zs) ∧ Q (.int zs.length) H) (tCons te tNil)) σ H (rInt Rs.length) := fun H1 e Q q =>
  h H1 e _ fun v H2 e2 ⟨p, vs, hv, hp, ha⟩ => ⟨p, vs, by rw [hv], .inl (.inl (.inl hp)), q _ H2 e2 (by rw [ha.len]; rfl)⟩
theorem evp_lt {i j : Int} {tf : TE} (h1 : EvP te σ H (rInt i)) (h2 : EvP tf σ H (rInt j)) : EvP (tOp (rI0 fun i j => .bl (decide (i < j))) te tf) σ H (rV (.bl (decide (i < j)))) := fun H1 e Q q =>
  h1 H1 e _ fun x H2 e2 hx => h2 H2 (e.trans e2) _ fun y H3 e3 hy => ⟨i, j, hx, hy, q _ H3 (e2.trans e3) rfl⟩
theorem evp_chainLt {i j k : Int} {tf tg : TE} (h1 : EvP te σ H (rInt i)) (h2 : EvP tf σ H (rInt j)) (h3 : EvP tg σ H (rInt k)) : EvP (tChain (rI0 fun i j => .bl (decide (i ≤ j))) (rI0 fun i j => .bl (decide (i < j))) te tf tg) σ H (rV (.bl (decide (i ≤ j) && decide (j < k)))) := fun H1 e Q q =>
  h1 H1 e _ fun x H2 e2 hx => h2 H2 (e.trans e2) _ fun y H3 e3 hy => ⟨i, j, hx, hy, _, rfl, by
    cases hb : decide (i ≤ j) with
    | true => exact iteT (h3 H3 (e.trans (e2.trans e3)) _ fun z H4 e4 hz => ⟨j, k, hy, hz, q _ H4 (e2.trans (e3.trans e4)) (by rw [hb]; rfl)⟩)
    | false => exact iteF (q _ H3 (e2.trans e3) (by rw [hb]; rfl))⟩
end
section
variable {P : Program} {w : World} {K : PySem.W.Frag} {mg : Str → Option Value} {base : Heap} {CF C : Addr}
inductive cHasPt (CF C : Addr) : List Rp → Rp → Prop
  | mk (bg : Bool) (ds : List PtD) (L : Nat) (p : Int) : cHasPt CF C [rFig CF C bg ds L, rInt p] (rV (.bl (decide (0 ≤ p) && decide (p < ds.length))))
theorem sc_has_point : FnScope ["self", "p"] ["self", "p"] (defScope s_Figure_has_point) := ⟨rfl, rfl, rfl, by decide +kernel, rfl, by decide +kernel, by decide +kernel⟩
theorem good_has_point (d : DeclM K CF "Figure" "has_point" "Figure.has_point" s_Figure_has_point) (T : FigC K CF) (ml : mg "len" = none) : GoodM P w K mg base CF "has_point" 1 ["self", "p"] (pf (cHasPt CF C)) := by
  refine d.good sc_has_point (fun _ _ _ _ _ _ us hl => match us, hl with | [_, _], _ => rfl) (pf_len fun _ _ c => by cases c; rfl) fun f cdv A outer s H vs Q E hr h => ?_
  obtain ⟨Rs, R, c, ha, q⟩ := h
  cases c with
  | mk bg ds L p =>
  obtain ⟨v0, _, rfl, h0, _, _, rfl, rfl, rfl⟩ := ha
  refine ⟨_, pss_one (ps_ret (pe_chain op_le op_lt pe_int (pv 1) (pe_callB call_len_seq (by rfl) ml PySem.boot_len (pa_cons (pe_fld (pv 0) rfl) pa_nil)))), ?_⟩
  refine s_st (σ2 := [some v0, some (.int p)]) rfl ?_
  refine s_retP (evp_chainLt (evp_c rfl) (evp_var rfl rfl) (evp_lenL (evp_pts T (evp_var rfl h0)))) fun v H' e hv => q v H' e ?_
  rw [List.length_map] at hv
  exact hv
inductive cHasRoom (CF C : Addr) : List Rp → Rp → Prop
  | mk (bg : Bool) (ds : List PtD) (L k : Nat) : k < 13 → cHasRoom CF C [rFig CF C bg ds L, rInt k] (rV (.bl (decide (ds.length < 12) && decide (L + ownLetL.getD k 0 ≤ 4))))
theorem sc_has_room : FnScope ["self", "kind"] ["self", "kind"] (defScope s_Figure_has_room) := ⟨rfl, rfl, rfl, by decide +kernel, rfl, by decide +kernel, by decide +kernel⟩
theorem good_has_room (d : DeclM K CF "Figure" "has_room" "Figure.has_room" s_Figure_has_room) (T : FigC K CF) (ml : mg "len" = none) (iP : IntC mg "MOST_POINTS" 12) (iM : IntC mg "MOST_LETTERS" 4) (tL : TupC K mg "OWN_LETTERS" (nI ownLetL)) : GoodM P w K mg base CF "has_room" 1 ["self", "kind"] (pf (cHasRoom CF C)) := by
  refine d.good sc_has_room (fun _ _ _ _ _ _ us hl => match us, hl with | [_, _], _ => rfl) (pf_len fun _ _ c => by cases c; rfl) fun f cdv A outer s H vs Q E hr h => ?_
  obtain ⟨Rs, R, c, ha, q⟩ := h
  obtain ⟨aL, mL, sL⟩ := tL
  cases c with
  | mk bg ds L k hk =>
  obtain ⟨v0, _, rfl, h0, _, _, rfl, rfl, rfl⟩ := ha
  refine ⟨_, pss_one (ps_ret (pe_and (pe_cmpR op_lt (pe_callB call_len_seq (by rfl) ml PySem.boot_len (pa_cons (pe_fld (pv 0) rfl) pa_nil)) (pe_ic iP (by rfl)) (nomark _)) (pe_one (pe_cmpR op_le (pe_op op_add (pe_fld (pv 0) rfl) (pe_ix ix_tup (pe_glob (v := .ref aL) rfl mL rfl) (pv 1) (fun _ _ => rfl))) (pe_ic iM (by rfl)) (nomark _))))), ?_⟩
  refine s_st (σ2 := [some v0, some (.int k)]) rfl ?_
  refine s_retP (evp_andV (evp_lt (evp_lenL (evp_pts T (evp_var rfl h0))) (evp_c rfl)) (evp_le (evp_add (evp_lts T (evp_var rfl h0)) (evp_ixC sL (evp_var rfl rfl) (nI_get (own_at (l := ownLetL) hk)))) (evp_c rfl))) fun v H' e hv => q v H' e ?_
  have hv : v = _ := hv
  rw [hv]
  show V.bl _ = V.bl _
  rw [List.length_map]
  congr 2 <;> (apply decide_eq_decide.mpr; omega)
inductive cHasLet (CF C : Addr) : List Rp → Rp → Prop
  | mk (bg : Bool) (ds : List PtD) (L : Nat) (p : Int) : cHasLet CF C [rFig CF C bg ds L, rInt p] (rV (.bl (decide (0 ≤ p) && decide (p < L))))
theorem sc_has_letter : FnScope ["self", "index"] ["self", "index"] (defScope s_Figure_has_letter) := ⟨rfl, rfl, rfl, by decide +kernel, rfl, by decide +kernel, by decide +kernel⟩
theorem good_has_letter (d : DeclM K CF "Figure" "has_letter" "Figure.has_letter" s_Figure_has_letter) (T : FigC K CF) : GoodM P w K mg base CF "has_letter" 1 ["self", "index"] (pf (cHasLet CF C)) := by
  refine d.good sc_has_letter (fun _ _ _ _ _ _ us hl => match us, hl with | [_, _], _ => rfl) (pf_len fun _ _ c => by cases c; rfl) fun f cdv A outer s H vs Q E hr h => ?_
  obtain ⟨Rs, R, c, ha, q⟩ := h
  cases c with
  | mk bg ds L p =>
  obtain ⟨v0, _, rfl, h0, _, _, rfl, rfl, rfl⟩ := ha
  refine ⟨_, pss_one (ps_ret (pe_chain op_le op_lt pe_int (pv 1) (pe_fld (pv 0) rfl))), ?_⟩
  refine s_st (σ2 := [some v0, some (.int p)]) rfl ?_
  exact s_retP (evp_chainLt (evp_c rfl) (evp_var rfl rfl) (evp_lts T (evp_var rfl h0))) fun v H' e hv => q v H' e hv
end
end Ds
end
section
set_option Elab.async false
set_option linter.all false
set_option maxRecDepth 100000
set_option maxHeartbeats 1000000
namespace Ds
open PySem PySem.Spec PyProof.Rows L2 Su
open Evl (Ex EvT)
/-! ### Comprehensions: a list of things that are what they are apart from it -/
def Apart (R : Rp) : Prop := ∀ v H D us, R.is v H → H D = some (.lst us) → R.is v (er D H)
theorem apart_v (x : V) : Apart (rV x) := fun _ _ _ _ h _ => h
theorem apart_d (d : Raw) : Apart (rD d) := fun v H D us ⟨p, h1, h2⟩ hD => ⟨p, h1, by
  rw [er_ne (fun z => by rw [z, hD] at h2; cases h2)]
  exact h2⟩
def Lw (H : Hp) (Rf : Nat → Rp) (D : Addr) (i : Nat) (H' : Hp) : Prop := H D = none ∧ Ex H (er D H') ∧ ∃ us, H' D = some (.lst us) ∧ All2 ((List.range i).map Rf) us (er D H')
theorem lw_start {H : Hp} {Rf : Nat → Rp} {D : Addr} (nD : H D = none) : Lw H Rf D 0 (L2.upd H D (.lst [])) := by
  refine ⟨nD, fun a o h => ?_, [], upd_same, rfl⟩
  have ne := ne_of_none h nD
  rw [er_ne ne, upd_ne ne]
  exact h
theorem lw_turn {H H' : Hp} {Rf : Nat → Rp} {D : Addr} {i : Nat} {σ2 : L2.St} {te : TE} (p : Lw H Rf D i H') (hi : i < 1000) (he : EvP te σ2 H' (Rf i)) (ap : Apart (Rf i)) :
    tYes σ2 H' fun b H3 => if b = true then te σ2 H3 fun y H4 => ∃ acc, H4 D = some (.lst acc) ∧ acc.length < sizeLine ∧ Lw H Rf D (i + 1) (L2.upd H4 D (.lst (acc ++ [y]))) else Lw H Rf D (i + 1) H3 := by
  obtain ⟨p1, p2, us, p3, p4⟩ := p
  show te σ2 H' fun y H4 => ∃ acc, H4 D = some (.lst acc) ∧ acc.length < sizeLine ∧ Lw H Rf D (i + 1) (L2.upd H4 D (.lst (acc ++ [y])))
  refine he H' (Ex.refl _) _ fun v H4 e4 hv => ⟨us, e4 _ _ p3, ?_, p1, ?_, us ++ [v], upd_same, ?_⟩
  · rw [p4.len, List.length_map, List.length_range]
    exact Nat.lt_trans hi (by decide)
  · rw [er_upd]
    exact p2.trans (er_mono e4)
  · rw [er_upd, List.range_succ, List.map_append]
    exact all2_snoc (p4.stay (er_mono e4)) (ap v H4 D us hv (e4 _ _ p3))
section
variable {K : PySem.W.Frag} {σ : L2.St} {H : Hp} {te tl : TE} {ta : TA}
theorem evp_lcR {lo hi : Int} {n : Nat} {j : Nat} {vs : List Nat} (Rf : Nat → Rp) (hA : Evl.EvA ta σ H [.int lo, .int hi]) (hb : 0 ≤ lo ∧ lo ≤ 100000 ∧ hi ≤ 100000 ∧ -100000 ≤ hi) (hn : n = (hi - lo).toNat) (h1000 : n ≤ 1000) (hw : ∀ x, wipe ((wipe σ vs).set j (some x)) vs = wipe σ vs)
    (he : ∀ (i : Nat) H1, Ex H H1 → i < n → EvP te ((wipe σ vs).set j (some (.int (lo + i)))) H1 (Rf i)) (ap : ∀ i, Apart (Rf i)) : EvP (tLc (iRng2 ta) (gName j) tYes te vs) σ H (rLst ((List.range n).map Rf)) := fun H0 e Q q => hA H0 e _ fun H1 e1 => by
  subst hn
  refine ⟨lo, hi, rfl, ⟨by omega, by omega, by omega, by omega⟩, fun D nD => lc_range (lo := lo) (n := (hi - lo).toNat) (Lw H1 Rf D) (lw_start nD) (fun i H' hlt p => ?_) fun H' p => ?_⟩
  · show wipe ((wipe σ vs).set j (some (.int (lo + (i : Int))))) vs = wipe σ vs ∧ _
    exact ⟨hw _, lw_turn p (by omega) (he i H' (e.trans (e1.trans (p.2.1.trans (er_ex D H')))) hlt) (ap i)⟩
  · obtain ⟨_, p2, us, p3, p4⟩ := p
    exact q _ H' (e1.trans (p2.trans (er_ex D H'))) ⟨D, us, rfl, p3, p4.stay (er_ex D H')⟩
theorem evp_lcN {xs : List V} {j : Nat} {vs : List Nat} (Rf : Nat → Rp) (hl : Evl.EvL tl σ H xs) (h1000 : xs.length ≤ 1000) (hw : ∀ x, wipe ((wipe σ vs).set j (some x)) vs = wipe σ vs) (he : ∀ (i : Nat) (x : V) H1, Ex H H1 → xs[i]? = some x → EvP te ((wipe σ vs).set j (some x)) H1 (Rf i)) (ap : ∀ i, Apart (Rf i)) :
    EvP (tLc (iList K tl) (gName j) tYes te vs) σ H (rLst ((List.range xs.length).map Rf)) := fun H0 e Q q => hl H0 e _ fun a H1 na e1 hx =>
  ⟨a, rfl, ⟨xs, .inl (.inl hx)⟩, fun D nD => lc_list (xs := xs) (Lw H1 Rf D) (lw_start nD) (fun i H' _ p => .inl (.inl (er_ex D H' _ _ (p.2.1 a _ hx)))) (fun i x H' hi p => by
    show wipe ((wipe σ vs).set j (some x)) vs = wipe σ vs ∧ _
    exact ⟨hw _, lw_turn p (by have := (List.getElem?_eq_some_iff.mp hi).1; omega) (he i x H' (e.trans (e1.trans (p.2.1.trans (er_ex D H')))) hi) (ap i)⟩) fun H' p => by
    obtain ⟨_, p2, us, p3, p4⟩ := p
    exact q _ H' (e1.trans (p2.trans (er_ex D H'))) ⟨D, us, rfl, p3, p4.stay (er_ex D H')⟩⟩
end
section
variable {P : Program} {w : World} {K : PySem.W.Frag} {mg : Str → Option Value} {base : Heap} {CF C : Addr}
inductive cNextL (CF C : Addr) : List Rp → Rp → Prop
  | mk (bg : Bool) (ds : List PtD) (L k : Nat) : k < 13 → L + ownLetL.getD k 0 ≤ 4 → cNextL CF C [rFig CF C bg ds L, rInt k] (rLst ((List.range (ownLetL.getD k 0)).map fun j => rD (mLet (L + j))))
theorem sc_next_letters : FnScope ["self", "kind", "index"] ["self", "kind"] (defScope s_Figure_next_letters) := ⟨rfl, rfl, rfl, by decide +kernel, rfl, by decide +kernel, by decide +kernel⟩
theorem good_next_letters (d : DeclM K CF "Figure" "next_letters" "Figure.next_letters" s_Figure_next_letters) (T : FigC K CF) (mr : mg "range" = none) (tL : TupC K mg "OWN_LETTERS" (nI ownLetL)) (g_letter : Good P w K mg base "letter" 1 ["index"] (pf cLetter)) : GoodM P w K mg base CF "next_letters" 2 ["self", "kind"] (pf (cNextL CF C)) := by
  refine d.good sc_next_letters (fun _ _ _ _ _ _ us hl => match us, hl with | [_, _], _ => rfl) (pf_len fun _ _ c => by cases c; rfl) fun f cdv A outer s H vs Q E hr h => ?_
  obtain ⟨Rs, R, c, ha, q⟩ := h
  obtain ⟨aL, mL, sL⟩ := tL
  cases c with
  | mk bg ds L k hk hL =>
  obtain ⟨v0, _, rfl, h0, _, _, rfl, rfl, rfl⟩ := ha
  refine ⟨_, pss_one (ps_ret (pe_lc (own := [("index", 2)]) (g := gName 2) (by rfl) sc_next_letters.nd (pi_range2 rfl mr (pa_cons (pe_fld (pv 0) rfl) (pa_cons (pe_op op_add (pe_fld (pv 0) rfl) (pe_ix ix_tup (pe_glob (v := .ref aL) rfl mL rfl) (pv 1) (fun _ _ => rfl))) pa_nil)))
    (blkOk_by (own := [("index", 2)]) (N := ["self", "kind", "index"]) (sc := defScope s_Figure_next_letters) (by decide +kernel)) (fun _ _ _ _ _ => pg_name (i := 2) sc_next_letters.nd rfl (Or.inl rfl)) (fun _ _ _ _ _ => pts_nil) (fun _ _ _ _ _ => pe_g g_letter hr (by rfl) (pa_cons (pv 2) pa_nil)))), ?_⟩
  refine s_st (σ2 := [some v0, some (.int k), none]) rfl ?_
  have eva : Evl.EvA (tCons (tFld K (tVar 0) "letters") (tCons (tOp (rI0 fun i j => .int (i + j)) (tFld K (tVar 0) "letters") (tOp (rIxT K) (tC (.ref aL)) (tVar 1))) tNil)) [some v0, some (.int k), none] H [.int (L : Int), .int ((L : Int) + ((ownLetL.getD k 0 : Nat) : Int))] := fun H3 e3 Q q =>
    evp_lts T (evp_var (i := 0) rfl h0) H3 e3 _ fun v H4 e4 hv => by
      rw [show v = .int (L : Int) from hv]
      exact evp_add (evp_lts T (evp_var (i := 0) rfl h0)) (evp_ixC sL (evp_var (i := 1) rfl rfl) (nI_get (own_at (l := ownLetL) hk))) H4 (e3.trans e4) _ fun u H5 e5 hu => by
        rw [show u = _ from hu]
        exact q H5 (e4.trans e5)
  refine s_retP (evp_lcR (n := ownLetL.getD k 0) (fun j => rD (mLet (L + j))) eva ⟨by omega, by omega, by omega, by omega⟩ (by omega) (by omega) (fun _ => rfl) (fun i H1 e1 hi => ?_) fun i => apart_d _) q
  exact evp_call (E := E0) (evps_cons (evp_to (evp_var rfl rfl) (by show (L : Int) + (i : Int) = ((L + i : Nat) : Int); omega)) evps_nil) (cLetter.mk (L + i) (by omega))
end
end Ds
end
section
set_option Elab.async false
set_option linter.all false
set_option maxRecDepth 100000
set_option maxHeartbeats 1000000
/-! Rules that the layer lacks: max(xs, default=d) of whole numbers; xs.extend(a tuple); t[i](..), a def out of a tuple. -/
namespace Ds
open PySem PySem.Spec PyProof.Rows L2
open Evl (Ex EvT)
def maxDef (d : Int) : List Int → Int
  | [] => d
  | n :: r => r.foldl max n
def rMaxDef (K : PySem.W.Frag) : List V → List V → Hp → VK → Prop := fun vs zs H Q => ∃ (a : Addr) (ns : List Int) (d : Int), vs = [V.ref a] ∧ zs = [.int d] ∧ SqL K H a (ns.map V.int) ∧ Q (.int (maxDef d ns)) H
theorem dp_ints {K : PySem.W.Frag} {H : Hp} : ∀ ns : List Int, DpAll K H (ns.map V.int) (ns.map PyData.int)
  | [] => .nil
  | n :: r => .cons (.int n) (dp_ints r)
theorem depth_ints : ∀ ns : List Int, PyData.depthAll (ns.map PyData.int) = 0
  | [] => by unfold PyData.depthAll; rfl
  | n :: r => by
    show PyData.depthAll (PyData.int n :: r.map PyData.int) = 0
    unfold PyData.depthAll
    rw [depth_ints r]
    unfold PyData.depth
    rfl
theorem alike_ints (ns : List Int) : PySem.W.AlikeAll (ns.map PyData.int) := by
  refine ⟨fun x hx y hy => ?_, fun x hx => ?_⟩
  · obtain ⟨i, _, rfl⟩ := List.mem_map.mp hx
    obtain ⟨j, _, rfl⟩ := List.mem_map.mp hy
    rfl
  · obtain ⟨i, _, rfl⟩ := List.mem_map.mp hx
    exact fun z => by cases z
theorem cr_maxDef {X : Cx} (calm : X.calm = true) (hu : X.A.units + 1 < PySem.cLine) : CallRK X (.builtin "max") [Str.ofString "default"] (rMaxDef X.K) := by
  intro pins s σ H vs zs us ws Q J r rz ⟨a, ns, d, ev, ez, hS, q⟩
  subst ev ez
  obtain rfl := Vals.ref1 r
  obtain ⟨w1, rfl, e1⟩ := vals1 rz
  obtain ⟨t, rfl⟩ : ∃ t, w1 = Value.int d t := e1
  obtain ⟨its, rv, hl, _⟩ := J.list hS
  obtain ⟨as, hr⟩ := Dp.readsAll J (ns.map PyData.int) (ns.map V.int) its (dp_ints ns) rv
  refine PySem.W.max_list_default (vs := its.toArray) (J.ok.hd calm) hl.isList (by simpa using hr) (alike_ints ns) (by rw [depth_ints]; exact hu) (fun e h' tk hk => ?_) fun y ys i v h' tk bs e hv hrd hk => ?_
  · have e0 : ns = [] := List.map_eq_nil_iff.mp e
    subst e0
    exact ⟨.int d, H, J.kept hk, ⟨_, rfl⟩, q⟩
  · cases ns with
    | nil => cases e
    | cons n r =>
      obtain ⟨e1, e2⟩ := List.cons.inj e
      rw [← e1, ← e2, PySem.W.maxD_ints] at hrd
      cases hrd
      exact ⟨.int _, H, J.kept hk, ⟨_, rfl⟩, q⟩
/-- max of none or of numbers from 0 on, default 0 -/
theorem maxDef_fold : ∀ (l : List Int), (∀ x ∈ l, 0 ≤ x) → maxDef 0 l = l.foldl max 0
  | [], _ => rfl
  | n :: r, h => by
    have h0 := h n List.mem_cons_self
    show r.foldl max n = r.foldl max (max 0 n)
    rw [show max 0 n = n by omega]
/-! ### xs.extend(t), t a tuple -/
def rExtendT (K : PySem.W.Frag) : V → List V → Hp → VK → Prop := fun x vs H Q => ∃ l b xs zs, x = .ref l ∧ vs = [.ref b] ∧ H l = some (.lst xs) ∧ H b = some (.tup zs) ∧ xs.length + zs.length ≤ sizeLine ∧ Q .non (upd H l (.lst (xs ++ zs)))
set_option maxRecDepth 8000 in
theorem extend_tuple (l : Addr) (items : Array Value) (n : Nat) (b : Addr) (items2 : Array Value) (n2 : Nat) (dd : Option Addr) (ss : Array (Option Value)) (hs0 : ¬(!items.isEmpty && Builtin.List.listTooLong (items.size + items2.size)) = true) (hs1 : items.size ≤ sizeLine) (hs2 : items.size + items2.size ≤ sizeLine + 1) :
    Meets (Builtin.«list.extend» ⟨[.ref l, .ref b], []⟩) (fun _ R s => s.heap.get? l = some { cls := .type "list", dict := none, data := .seq items n, slots := #[] } ∧ s.heap.get? b = some { cls := .type "tuple", dict := dd, data := .seq items2 n2, slots := ss } ∧ R (.ok (.ret Value.none)) { s with heap := s.heap.update l (Obj.mapSeq fun x => x ++ items2), toks := s.toks }) :=
  .of_wp fun prog w A R s h => by
    obtain ⟨hp, g, d, tk, os⟩ := s; obtain ⟨hl, hb, h⟩ := h; have f1 := AutoSeq1.idx_int; have f2 := AutoSeq1.sub_tuple_tuple; have f3 := AutoSeq1.sub_list_list; have f4 := AutoSeq1.sub_tuple_list; have f5 := AutoSeq1.sub_list_tuple;
    have hz' : (items ++ items2).size ≤ sizeLine + 1 := by rw [Array.size_append]; exact hs2
    wp_walk using (wpAny_updateSeq hl rfl (hz := hs1) (_hz' := hz')), AutoSeq1.wpAny_loadPart' hl, AutoSeq1.wpAny_loadPart' hb; exact ⟨_, rfl, h⟩
theorem mt_extendT {X : Cx} : MtM X "list.extend" (rExtendT X.K) := by
  intro pins sh slots H recv given v us Q inv rr rg
  rintro ⟨l, t, have_, more, rfl, rfl, atL, atT, room, next⟩
  cases rr
  obtain ⟨u, rfl, ru⟩ := rg.one
  cases ru
  -- the list's own items, and the tuple's
  obtain ⟨_, own, n, relO, lenO, getL⟩ := inv.lstM atL
  obtain ⟨add, relA, ⟨o, getT, clsT, n2, datT⟩, _⟩ := inv.tuple (SqT.of atT)
  have lenA := relA.length
  have fits : own.toArray.size + add.toArray.size ≤ sizeLine := by
    rw [List.size_toArray, List.size_toArray]
    omega
  have short : ¬ (!own.toArray.isEmpty && Builtin.List.listTooLong (own.toArray.size + add.toArray.size)) = true := fun z => by
    rw [notLongL fits, Bool.and_false] at z
    cases z
  obtain ⟨cls, dd, data, ss⟩ := o
  obtain rfl : cls = .type "tuple" := clsT
  obtain rfl : data = .seq add.toArray n2 := datT
  have runs := extend_tuple l own.toArray n t add.toArray n2 dd ss short (by omega) (by omega)
  refine call_meets F.slot_list_extend ⟨_, getL, rfl⟩ F.entry_list_extend (F.args_list_extend_2 _ _) runs ⟨getL, getT, .non, _, inv.lset (its' := own ++ add) atL getL (by simp) (relO.append relA) ?_, rfl, next⟩
  rw [List.length_append]
  omega
/-! ### t[i](e, ..): the def that stands in a tuple -/
def tCallT (P : Program) (w : World) (K : PySem.W.Frag) (mg : Str → Option Value) (base : Heap) (k : Nat) (tf : TE) (t : TA) : TE := fun σ H Q => tf σ H fun v H1 => ∃ f fd ps sp, v = .ref f ∧ PySem.W.keepIn K (.ref f) = true ∧ Binds K fd ps [] ∧ FnOk P w K mg base CX0 k f fd ps sp ∧ t σ H1 fun vs H2 => sp vs H2 Q E0
theorem pe_callT {X : Cx} {k : Nat} {a b e : Expr} {es : List Expr} {spos pos : Pos} {tf : TE} {t : TA} (hf : PE X (.Subscript a b spos) tf) (hr : Room k X.A) (ha : PA X (e :: es) t)
    (hst : starEach (e :: es) X.env = (false, eval e X.env) :: starEach es X.env := by rfl) (hpl : (backTo pos (starEach es X.env)).any (·.1) = false := by rfl)
    (he : eval (.Call (.Subscript a b spos) (e :: es) [] pos) X.env = (do callWith pos (← eval (.Subscript a b spos) X.env) [] (backTo pos (starEach (e :: es) X.env)) (backToKw pos (keywordEach [] X.env))) := by rfl) :
    PE X (.Call (.Subscript a b spos) (e :: es) [] pos) (tCallT X.prog X.w X.K X.mg X.base k tf t) := by
  refine ⟨fun pins s σ H Q I h => ?_⟩
  rw [he]
  refine wpAny_bind (thn (hf.run pins s σ H _ I h) fun u s1 ⟨v, H1, I1, r1, q1⟩ => ?_)
  obtain ⟨f, fd, ps, sp, rfl, hk, hb, F, ht⟩ := q1
  cases r1
  refine PySem.W.callWith_K (h₀ := X.base) I.ok.mod.kin hk (thn (ha.run pos pins s1 σ _ _ I1 ht) fun us s2 ⟨vs, H2, I2, r, q⟩ => ⟨I2.kIn, ?_⟩) hst hpl
  refine run_fn (dvs := []) (ds := []) F hr hb .nil pass0 I2 r ?_
  rw [List.append_nil]
  exact q
end Ds
end
section
set_option Elab.async false
set_option linter.all false
set_option maxRecDepth 100000
set_option maxHeartbeats 1000000
/-! sorted(d, reverse=True) of a dict whose keys are whole numbers, however many: the one form that the layer has no row for. -/
namespace Ds
open PySem PySem.Spec PyProof.Rows L2
def rSortD (b : Bool) : List V → List V → Hp → VK → Prop := fun vs zs H Q => ∃ (a : Addr) (kvs : List (Key × V)) (ks : List Int), vs = [V.ref a] ∧ zs = [.bl b] ∧ Rd H a (.dK kvs) ∧ kvs.map (·.1) = ks.map Sum.inl ∧ ks.length ≤ 100000 ∧
  ∀ (ys : List Int) (p : Addr), ys.Perm ks → OrdB b ys → H p = none → Q (.ref p) (upd H p (.lst (ys.map V.int)))
theorem cr_sortDRev {X : Cx} {b : Bool} (calm : X.calm = true) : CallRK X (.builtin "sorted") [Str.ofString "reverse"] (rSortD b) := by
  intro pins s σ H vs zs us ws Q J r rz ⟨a, kvs, ks, ev, ez, rd, eks, few, q⟩
  subst ev ez; obtain rfl := Vals.ref1 r; obtain ⟨w1, rfl, e1⟩ := vals1 rz; obtain rfl : w1 = Value.bool b := e1
  obtain ⟨z, lo, es, rel, dd⟩ := dk_rd J.hok rd; obtain ⟨ep, hat⟩ := dd.dictAt
  have keys : es.map (·.1) = ks.map Sum.inl := rel.keys.symm.trans eks
  have len : es.length = ks.length := by have e := congrArg List.length keys; rw [List.length_map, List.length_map] at e; exact e
  have small : ks.length ≤ sizeLine := Nat.le_trans few (by decide)
  refine call_function_entry_kw kind_sorted plain_sorted entry_sorted (args_sorted_rev _ _) ?_
  unfold Builtin.«sorted»; refine wpAny_bind (m := checkCount "sorted" 1 1 _) (wpAny_pure ?_)
  refine wpAny_bind (PySem.W.kdu_collect (A := X.A.in1) (PySem.W.kdl_dict (knd := mixKind X.prog X.w) (kvs := es) (ep := ep) lo) (J.ok.hd calm) hat (by rw [len]; exact small) fun g tk acc hk hacc => ?_)
  have al : acc.toList.length = ks.length := by rw [Array.length_toList, hacc.1, len]
  have are : IntsAre acc.toList ks := ints_each al fun j v e => by
    obtain ⟨k, x, f1, f2⟩ := hacc.2 j v (by rw [← Array.getElem?_toList]; exact e)
    have f3 : (es.map (·.1))[j]? = some k := by rw [List.getElem?_map, f1]; rfl
    rw [keys, List.getElem?_map] at f3
    cases f4 : ks[j]? with
    | none => rw [f4] at f3; cases f3
    | some y =>
      rw [f4] at f3; have f5 : Sum.inl y = k := Option.some.inj f3; subst f5
      rcases keyIs_shape (show keyIs (Sum.inl y) v = true from f2) with ⟨i, t, ek, ew⟩ | ⟨i, t, ek, ew⟩ <;> cases ek
      exact ⟨y, t, rfl, ew⟩
  have J1 : Inv X pins σ H { s with heap := g, toks := tk } := J.kept hk
  refine wpAny_bind (wpAny_newList ?_ (by rw [al]; exact small))
  have at_ : (g.push (seqObj "list" acc.toList.toArray 0)).get? g.objs.size = some (seqObj "list" acc.toList.toArray 0) := Heap.get?_push_size _ rfl
  show wpAny _ _ _ _ _ { s with heap := g.push (seqObj "list" acc.toList.toArray 0), toks := tk }
  refine wpAny_bind (wpAny_holding (wpAny_call_entry_kw slot_list_sort ⟨_, at_, rfl⟩ entry_list_sort ?_ (args_list_sort_rev _ _)))
  refine SrtR.list_sort_ordR (s := { s with heap := g.push (seqObj "list" acc.toList.toArray 0), toks := tk }) SrtO.swo_int at_ (by rw [al]; exact small) (fun h2 => SrtO.ints_sortable are h2) fun out g1 g2 => ⟨_, rfl, ?_⟩
  obtain ⟨ys, k1, k2, k3⟩ := SrtR.ints_outR are g1 g2
  obtain ⟨e9, h9⟩ := sortedHeap_at (vs := acc.toList) (out := if b = true then out.toArray.reverse else out.toArray) at_
  have yl : (ys.map V.int).length ≤ sizeLine := by rw [List.length_map, k2.length_eq]; exact small
  refine wpAny_pure ⟨_, rfl, .ref g.objs.size, upd H g.objs.size (.lst (ys.map V.int)), J1.laid (t' := tk) (fun c u e => ?_) (Nat.le_refl _) (show ObjOk X.prog X.w _ _ _ (.lst (ys.map V.int)) from ⟨yl, (if b = true then out.toArray.reverse else out.toArray).toList, e9, vals_of_ints k1, by rw [Array.toArray_toList]; exact h9⟩), rfl, q ys _ k2 k3 (J1.hok.fresh (Nat.le_refl _))⟩
  have cl : c < g.objs.size := Heap.lt_size e
  rw [sortedHeap_old (Nat.ne_of_lt cl) (by rw [size_push']; exact Nat.lt_succ_of_lt cl)]; exact Heap.get?_push_of_some _ e
end Ds
end
section
set_option Elab.async false
set_option linter.all false
set_option maxRecDepth 100000
set_option maxHeartbeats 1000000
namespace Ds
open PySem PySem.Spec PyProof.Rows L2 Su
open Evl (Ex EvT EvL)
/-! ### Readings -/
section
variable {K : PySem.W.Frag} {σ : L2.St} {H : Hp} {te tf : TE}
theorem evp_rI {C : Int → Int → Prop} {g : Int → Int → V} {i j : Int} (h1 : EvP te σ H (rInt i)) (h2 : EvP tf σ H (rInt j)) (hc : C i j) : EvP (tOp (rI C g) te tf) σ H (rV (g i j)) := fun H1 e Q q =>
  h1 H1 e _ fun x H2 e2 hx => h2 H2 (e.trans e2) _ fun y H3 e3 hy => ⟨i, j, hx, hy, hc, q _ H3 (e2.trans e3) rfl⟩
/-- d[k] -/
theorem evp_dget {d : Raw} {k v : Int} (h1 : EvP te σ H (rD d)) (h2 : EvP tf σ H (rInt k)) (hv : get d k = some v) : EvP (tDGet te tf) σ H (rInt v) := fun H1 e Q q =>
  h1 H1 e _ fun x H2 e2 ⟨p, hx, hp⟩ => h2 H2 (e.trans e2) _ fun y H3 e3 hy => by
    have hy : y = .int k := hy
    subst hy
    refine ⟨p, .int v, hx, ?_, q _ H3 (e2.trans e3) rfl⟩
    have g := DGet.k (k := Sum.inl k) (e3 _ _ hp)
    rw [valV_ed, hv] at g
    exact g
/-- d.get(k, 0) -/
theorem evp_dget0 {d : Raw} {k : Int} {tz : TE} (h1 : EvP te σ H (rD d)) (h2 : EvP tf σ H (rInt k)) (h3 : EvP tz σ H (rInt 0)) : EvP (tDGet2 te tf tz) σ H (rInt ((get d k).getD 0)) := fun H1 e Q q =>
  h1 H1 e _ fun x H2 e2 ⟨p, hx, hp⟩ => ⟨p, hx, .inl ⟨_, .inl hp⟩, h2 H2 (e.trans e2) _ fun y H3 e3 hy => h3 H3 (e.trans (e2.trans e3)) _ fun z H4 e4 hz => by
    have hy : y = .int k := hy
    have hz : z = .int 0 := hz
    subst hy hz
    refine ⟨_, DGet.k (k := Sum.inl k) (e4 _ _ (e3 _ _ hp)), ?_⟩
    rw [getD_ed]
    exact q _ H4 (e2.trans (e3.trans e4)) rfl⟩
end
/-- a def that gives a new list of such -/
def pfL (C : List Rp → List Rp → Prop) : Sp := fun vs H Q _ => ∃ Rs Us, C Rs Us ∧ All2 Rs vs H ∧ ∀ p us H', H p = none → Ex H H' → H' p = some (.lst us) → All2 Us us H' → Q (.ref p) H'
theorem pfL_len {C : List Rp → List Rp → Prop} {n : Nat} (hC : ∀ Rs xs, C Rs xs → Rs.length = n) : ∀ vs H Q E, pfL C vs H Q E → vs.length = n := fun vs H Q E ⟨Rs, R, c, ha, _⟩ => ha.len.trans (hC Rs R c)
/-! ### power_in -/
theorem plI_at {i : Nat} (h : i < 4) : placesL[i]? = some (plI i) := by
  match i, h with
  | 0, _ => rfl
  | 1, _ => rfl
  | 2, _ => rfl
  | 3, _ => rfl
theorem plI_ok {i : Nat} (h : i < 4) : 0 < plI i ∧ plI i < 1073741824 := by
  match i, h with
  | 0, _ => exact ⟨by decide, by decide⟩
  | 1, _ => exact ⟨by decide, by decide⟩
  | 2, _ => exact ⟨by decide, by decide⟩
  | 3, _ => exact ⟨by decide, by decide⟩
inductive cPowIn : List Rp → Rp → Prop
  | mk (k : Int) (i : Nat) : i < 4 → cPowIn [rInt k, rInt i] (rInt (powI k i))
section
variable {P : Program} {w : World} {K : PySem.W.Frag} {mg : Str → Option Value} {base : Heap}
theorem sc_power_in : FnScope ["key", "index"] ["key", "index"] (defScope s_power_in) := ⟨rfl, rfl, rfl, by decide +kernel, rfl, by decide +kernel, by decide +kernel⟩
theorem good_power_in (d : Decl K mg "power_in" s_power_in) (tp : TupC K mg "PLACES" placesL) (iB : IntC mg "POWERS_BELOW" 1000) : Good P w K mg base "power_in" 1 ["key", "index"] (pf cPowIn) := by
  refine d.good sc_power_in (fun _ _ _ _ _ _ us hl => match us, hl with | [_, _], _ => rfl) (pf_len fun _ _ c => by cases c; rfl) fun f cdv A outer s H vs Q E hr h => ?_
  obtain ⟨Rs, R, c, ha, q⟩ := h
  obtain ⟨aP, mP, tP⟩ := tp
  cases c with
  | mk k i hi =>
  obtain ⟨_, _, rfl, rfl, _, _, rfl, rfl, rfl⟩ := ha
  refine ⟨_, pss_one (ps_ret (pe_op op_mod (pe_op op_fdiv (pv 0) (pe_ix ix_tup (pe_glob (v := .ref aP) rfl mP rfl) (pv 1) (fun _ _ => rfl))) (pe_ic iB (by rfl)))), ?_⟩
  refine s_st (σ2 := [some (.int k), some (.int i)]) rfl ?_
  exact s_retP (evp_rI (evp_rI (evp_var rfl rfl) (evp_ixC tP (evp_var rfl rfl) (plI_at hi)) (plI_ok hi)) (evp_c rfl) (by decide)) fun v H' e hv => q v H' e hv
/-! ### terms, flat_terms -/
def termI (t : Kh370.Term) : List Int := [t.1, t.2.getD 0 0, t.2.getD 1 0, t.2.getD 2 0, t.2.getD 3 0]
def rTerm (t : Kh370.Term) : Rp := rTup ((termI t).map fun i => rInt i)
theorem ints_all2 {H : Hp} : ∀ l : List Int, All2 (l.map fun i => rInt i) (l.map V.int) H
  | [] => rfl
  | i :: l => ⟨_, _, rfl, rfl, ints_all2 l⟩
theorem rTerm_is {t : Kh370.Term} {v : V} {H : Hp} (h : (rTerm t).is v H) : ∃ a, v = .ref a ∧ H a = some (.tup ((termI t).map V.int)) := by
  obtain ⟨a, vs, h1, h2, h3⟩ := h
  rw [all2_ints h3] at h2
  exact ⟨a, h1, h2⟩
theorem rTerm_mk {t : Kh370.Term} {a : Addr} {H : Hp} (h : H a = some (.tup ((termI t).map V.int))) : (rTerm t).is (.ref a) H := ⟨a, _, rfl, h, ints_all2 _⟩
inductive cTerms : List Rp → List Rp → Prop
  | mk {d : Raw} {p : Kh370.Poly} : Rep d p → cTerms [rD d] (p.map rTerm)
theorem el_sortD {σ : L2.St} {H : Hp} {te : TE} {d : Raw} {p : Kh370.Poly} (h : Rep d p) (hd : EvP te σ H (rD d)) : EvL (tCKw (rSortD true) (tCons te tNil) (tCons (tC (.bl true)) tNil)) σ H (p.map fun t => V.int (pk t.2)) := fun H1 e Q q =>
  hd H1 e _ fun x H2 e2 ⟨a, hx, ha⟩ => by
    obtain ⟨b, n, g, h1, _⟩ := h.b
    refine ⟨a, ed d, d.map (·.1), by rw [hx], rfl, .inl ha, ?_, ?_, fun ys r hp ho nr => ?_⟩
    · unfold ed
      rw [List.map_map, List.map_map]
      rfl
    · rw [List.length_map]
      have := h.short
      omega
    · have hs : ys.Pairwise (· ≥ ·) := ho
      have ey := sorted_keys g h1 h.pm hp hs
      have e3 : ys.map V.int = p.map fun t => V.int (pk t.2) := by
        rw [ey, List.map_map]
        rfl
      rw [e3]
      exact q r _ (Evl.fresh_back e2 nr) (e2.trans (Ex.new nr)) upd_same
theorem rTerm_mut {H : Hp} {q : Addr} {xs ys : List V} (hq : H q = some (.lst xs)) {t : Kh370.Term} {v : V} (h : (rTerm t).is v H) : (rTerm t).is v (L2.upd H q (.lst ys)) := by
  obtain ⟨a, rfl, ha⟩ := rTerm_is h
  exact rTerm_mk (by rw [upd_ne (fun z => by rw [z, hq] at ha; cases ha)]; exact ha)
theorem all2_terms {H : Hp} {q : Addr} {xs ys : List V} (hq : H q = some (.lst xs)) : ∀ {p : List Kh370.Term} {us : List V}, All2 (p.map rTerm) us H → All2 (p.map rTerm) us (L2.upd H q (.lst ys))
  | [], _, h => h
  | t :: p, us, ⟨v, r, h1, h2, h4⟩ => ⟨v, r, h1, rTerm_mut hq h2, all2_terms hq h4⟩
theorem sc_terms : FnScope ["f", "rows", "key"] ["f"] (defScope s_terms) := ⟨rfl, rfl, rfl, by decide +kernel, rfl, by decide +kernel, by decide +kernel⟩
theorem good_terms (d : Decl K mg "terms" s_terms) (ms : mg "sorted" = none) (g_power_in : Good P w K mg base "power_in" 1 ["key", "index"] (pf cPowIn)) : Good P w K mg base "terms" 2 ["f"] (pfL cTerms) := by
  refine d.good sc_terms (fun _ _ _ _ _ _ us hl => match us, hl with | [_], _ => rfl) (pfL_len fun _ _ c => by cases c; rfl) fun f cdv A outer s H vs Q E hr h => ?_
  obtain ⟨Rs, R, c, ha, q⟩ := h
  cases c with
  | @mk d p hR =>
  obtain ⟨v0, _, rfl, h0, rfl⟩ := ha
  have hu := hu_of hr
  refine ⟨_, pss_cons (ps_set (i := 1) sc_terms.nd rfl (.inl rfl) (pe_lst pa_nil))
    (pss_cons (ps_for PassesOwn.never rfl (pi_list (pe_callBK (cr_sortDRev (b := true) rfl) (by rfl) ms (by decide +kernel) (pa_cons (pv 0) pa_nil) (pk_cons pe_bl pk_nil))) (pg_name (i := 2) sc_terms.nd rfl (.inl rfl))
      (pss_one (ps_expr (pe_bm PySem.F.plainAttrs_list PySem.F.slot_list_append PySem.F.type_list_append mt_append (pv 1) (pa_cons (pe_tup (pa_cons (pe_dget hu (pv 0) (pv 2) (fun _ _ => rfl)) (pa_cons (pe_g g_power_in hr (by rfl) (pa_cons (pv 2) (pa_cons pe_int pa_nil))) (pa_cons (pe_g g_power_in hr (by rfl) (pa_cons (pv 2) (pa_cons pe_int pa_nil))) (pa_cons (pe_g g_power_in hr (by rfl) (pa_cons (pv 2) (pa_cons pe_int pa_nil))) (pa_cons (pe_g g_power_in hr (by rfl) (pa_cons (pv 2) (pa_cons pe_int pa_nil))) pa_nil)))))) pa_nil)))))
    (pss_one (ps_ret (pv 1)))), ?_⟩
  refine s_st (σ2 := [some v0, none, none]) rfl ?_
  refine s_setN (σ2 := fun v => [some v0, some v, none]) (fun _ => rfl) (Evl.el_lst Evl.ea_nil (Nat.zero_le _)) fun r H1 nr e1 hr1 => ?_
  refine Evl.q_forNLn (K := K) (el_sortD hR (evp_var rfl (Rp.stay _ e1 h0))) (fun a i σ' H' => ∃ y us, σ' = [some v0, some (.ref r), y] ∧ Ex H H' ∧ H' a = some (.lst (p.map fun t => V.int (pk t.2))) ∧ a ≠ r ∧ H' r = some (.lst us) ∧ All2 ((p.take i).map rTerm) us H') (fun a H2 na e2 ha => ⟨none, [], rfl, e1.trans e2, ha, (ne_of_none hr1 na).symm, e2 _ _ hr1, rfl⟩) (fun a i σ' H' _ ⟨_, _, _, _, ha, _⟩ => .inl (.inl ha)) ?_ ?_
  · rintro a i x σ' H' hx ⟨y, us, rfl, e, ha, nar, hru, hus⟩
    rw [List.getElem?_map] at hx
    obtain ⟨t, ht, rfl⟩ := Option.map_eq_some_iff.mp hx
    have htp := List.mem_of_getElem? ht
    have hm : (pk t.2, t.1) ∈ d := hR.pm.mem_iff.mpr (List.mem_map.mpr ⟨t, htp, rfl⟩)
    have hg := get_of_mem hR.dn.nd hm
    have pw : ∀ i, i < 4 → powI (pk t.2) i = (t.2.getD i 0 : Int) := fun i hi => powI_pk (hR.w4 t htp) (hR.lt t htp) hi
    show tDrop _ _ [some v0, some (.ref r), some (.int (pk t.2))] H'
    have hul : us.length ≤ 200 := by
      rw [hus.len, List.length_map, List.length_take]
      have := hR.short
      have := hR.len
      omega
    have ev : EvP (tTup (tCons (tDGet (tVar 0) (tVar 2)) (tCons (tCall (pf cPowIn) [] E0 (tCons (tVar 2) (tCons (tC (.int 0)) tNil))) (tCons (tCall (pf cPowIn) [] E0 (tCons (tVar 2) (tCons (tC (.int 1)) tNil))) (tCons (tCall (pf cPowIn) [] E0 (tCons (tVar 2) (tCons (tC (.int 2)) tNil))) (tCons (tCall (pf cPowIn) [] E0 (tCons (tVar 2) (tCons (tC (.int 3)) tNil))) tNil)))))) [some v0, some (.ref r), some (.int (pk t.2))] H' (rTerm t) := by
      have cp : ∀ i : Nat, i < 4 → cPowIn [rInt (pk t.2), rInt (i : Int)] (rInt (t.2.getD i 0 : Int)) := fun i hi => by
        rw [← pw i hi]
        exact cPowIn.mk _ i hi
      exact evp_tup (evps_cons (evp_dget (evp_var rfl (Rp.stay _ e h0)) (evp_var rfl rfl) hg) (evps_cons (evp_call (evps_cons (evp_var rfl rfl) (evps_cons (evp_c rfl) evps_nil)) (cp 0 (by decide))) (evps_cons (evp_call (evps_cons (evp_var rfl rfl) (evps_cons (evp_c rfl) evps_nil)) (cp 1 (by decide))) (evps_cons (evp_call (evps_cons (evp_var rfl rfl) (evps_cons (evp_c rfl) evps_nil)) (cp 2 (by decide))) (evps_cons (evp_call (evps_cons (evp_var rfl rfl) (evps_cons (evp_c rfl) evps_nil)) (cp 3 (by decide))) evps_nil))))) (by show 5 ≤ 100; decide)
    refine ⟨_, rfl, .inl ⟨rfl, _, .inl (.inl hru)⟩, ev H' (Ex.refl _) _ fun v H2 e2 hv => ⟨r, us, v, rfl, rfl, e2 _ _ hru, Nat.lt_of_le_of_lt hul (by decide), ?_⟩⟩
    refine ⟨_, us ++ [v], rfl, Ex.mut (e.trans e2) (Evl.fresh_back (Ex.refl _) nr), ?_, nar, upd_same, ?_⟩
    · rw [upd_ne nar]
      exact e2 _ _ ha
    · rw [List.take_add_one, ht, List.map_append]
      exact all2_snoc (all2_terms (e2 _ _ hru) (hus.stay e2)) (rTerm_mut (e2 _ _ hru) hv)
  · rintro a σ' H' ⟨y, us, rfl, e, ha, nar, hru, hus⟩
    rw [List.length_map, List.take_length] at hus
    exact ⟨_, rfl, q r us H' nr e hru hus⟩
end
end Ds
end
section
set_option Elab.async false
set_option linter.all false
set_option maxRecDepth 100000
set_option maxHeartbeats 1000000
namespace Ds
open PySem PySem.Spec PyProof.Rows L2 Su
open Evl (Ex EvT EvL)
/-! ### A comprehension over a dict that is locked meanwhile -/
section
variable {K : PySem.W.Frag} {σ : L2.St} {H : Hp} {te tx : TE}
theorem lock_back {H H' : Hp} {p : Addr} {o : HO} (hp : H p = some o) (h : ∀ a u, H a = some u → a ≠ p → H' a = some u) : Ex H (L2.upd H' p o) := fun a u ha => by
  by_cases e : a = p
  · rw [e, upd_same]
    rw [e, hp] at ha
    exact ha
  · rw [upd_ne e]
    exact h a u ha e
/-- what stands in the comprehension's turns -/
def Kw (H : Hp) (p : Addr) (od : Obj) (d : Raw) (f : Int × Int → Int) (D : Addr) (i : Nat) (H' : Hp) : Prop :=
  H' p = some (.frz od (.dK (ed d))) ∧ H' D = some (.lst ((d.take i).map fun t => V.int (f t))) ∧ ∀ a u, H a = some u → a ≠ p → H' a = some u
theorem kw_turn {p : Addr} {od : Obj} {d : Raw} {f : Int × Int → Int} {D : Addr} {i : Nat} {H' : Hp} {σ2 : L2.St} {t : Int × Int} (nD : H D = none) (npD : p ≠ D) (hp : Kw H p od d f D i H') (ht : d[i]? = some t) (hz : d.length ≤ 1000) (he : ∀ H1, EvP te σ2 H1 (rInt (f t))) :
    tYes σ2 H' fun b H3 => if b = true then te σ2 H3 fun y H4 => ∃ acc, H4 D = some (.lst acc) ∧ acc.length < sizeLine ∧ Kw H p od d f D (i + 1) (L2.upd H4 D (.lst (acc ++ [y]))) else Kw H p od d f D (i + 1) H3 := by
  obtain ⟨h1, h2, h3⟩ := hp
  show te σ2 H' fun y H4 => ∃ acc, H4 D = some (.lst acc) ∧ acc.length < sizeLine ∧ Kw H p od d f D (i + 1) (L2.upd H4 D (.lst (acc ++ [y])))
  refine he H' H' (Ex.refl _) _ fun y H4 e4 hy => ⟨_, e4 _ _ h2, ?_, ?_, ?_, fun a u ha ne => ?_⟩
  · rw [List.length_map, List.length_take]
    exact Nat.lt_of_le_of_lt (Nat.le_trans (Nat.min_le_right _ _) hz) (by decide)
  · rw [upd_ne npD]
    exact e4 _ _ h1
  · rw [upd_same, List.take_add_one, ht, List.map_append, show y = .int (f t) from hy]
    rfl
  · rw [upd_ne (ne_of_none ha nD)]
    exact e4 _ _ (h3 a u ha ne)
theorem el_lcK {d : Raw} {f : Int × Int → Int} {j : Nat} {vs : List Nat} {p : Addr} (hx : ∀ H1, EvP tx σ H1 (rV (.ref p))) (hp : H p = some (.dK (ed d))) (hz : d.length ≤ 1000) (hw : ∀ x, wipe ((wipe σ vs).set j (some x)) vs = wipe σ vs)
    (he : ∀ (i : Nat) (t : Int × Int) H1, d[i]? = some t → EvP te ((wipe σ vs).set j (some (.int t.1))) H1 (rInt (f t))) : EvL (tLockE (tLc (iKeys tx) (gName j) tYes te vs)) σ H (d.map fun t => V.int (f t)) := fun H0 e Q q => by
  have hp0 := e _ _ hp
  refine ⟨p, .dK (ed d), hp0, trivial, fun od => ?_⟩
  refine hx _ _ (Ex.refl _) _ fun v H1 e1 hv => ?_
  have h1p := e1 _ _ (upd_same (H := H0) (a := p) (o := .frz od (.dK (ed d))))
  refine ⟨p, od, hv, .inl ⟨ed d, h1p, fun D nD => ?_⟩⟩
  have keep : ∀ a u, H0 a = some u → a ≠ p → H1 a = some u := fun a u ha ne => e1 _ _ (by rw [upd_ne ne]; exact ha)
  have npD : p ≠ D := ne_of_none h1p nD
  have nD0 : H0 D = none := by
    cases hh : H0 D with
    | none => rfl
    | some u =>
      rw [keep D u hh npD.symm] at nD
      cases nD
  refine lc_it walk_keys (Kw H0 p od d f D) ⟨by rw [upd_ne npD]; exact h1p, by rw [upd_same]; rfl, fun a u ha ne => by rw [upd_ne (ne_of_none ha nD0)]; exact keep a u ha ne⟩ (fun i H' _ h => h.1) (fun i x H' H2 hi hP hY => ?_) fun H' hP => ?_
  · obtain ⟨rfl, k, v, hkv, rfl⟩ := hY
    obtain ⟨t, ht, rfl, rfl⟩ := ed_get hkv
    show wipe ((wipe σ vs).set j (some (.int t.1))) vs = wipe σ vs ∧ _
    exact ⟨hw _, kw_turn nD0 npD hP ht hz fun H1 => he i t H1 ht⟩
  · obtain ⟨g1, g2, g3⟩ := hP
    rw [ed_len, List.take_length] at g2
    refine ⟨g1, q D _ nD0 (lock_back hp0 g3) (by rw [upd_ne npD.symm]; exact g2)⟩
theorem el_lcV {d : Raw} {f : Int × Int → Int} {j : Nat} {vs : List Nat} {p : Addr} (hx : ∀ H1, EvP tx σ H1 (rV (.ref p))) (hp : H p = some (.dK (ed d))) (hz : d.length ≤ 1000) (hw : ∀ x, wipe ((wipe σ vs).set j (some x)) vs = wipe σ vs)
    (he : ∀ (i : Nat) (t : Int × Int) H1, d[i]? = some t → EvP te ((wipe σ vs).set j (some (.int t.2))) H1 (rInt (f t))) : EvL (tLockE (tLc (iVals tx) (gName j) tYes te vs)) σ H (d.map fun t => V.int (f t)) := fun H0 e Q q => by
  have hp0 := e _ _ hp
  refine ⟨p, .dK (ed d), hp0, trivial, fun od => ?_⟩
  refine hx _ _ (Ex.refl _) _ fun v H1 e1 hv => ?_
  have h1p := e1 _ _ (upd_same (H := H0) (a := p) (o := .frz od (.dK (ed d))))
  refine ⟨p, od, ed d, hv, h1p, fun D nD => ?_⟩
  have keep : ∀ a u, H0 a = some u → a ≠ p → H1 a = some u := fun a u ha ne => e1 _ _ (by rw [upd_ne ne]; exact ha)
  have npD : p ≠ D := ne_of_none h1p nD
  have nD0 : H0 D = none := by
    cases hh : H0 D with
    | none => rfl
    | some u =>
      rw [keep D u hh npD.symm] at nD
      cases nD
  refine lc_it walk_values (Kw H0 p od d f D) ⟨by rw [upd_ne npD]; exact h1p, by rw [upd_same]; rfl, fun a u ha ne => by rw [upd_ne (ne_of_none ha nD0)]; exact keep a u ha ne⟩ (fun i H' _ h => h.1) (fun i x H' H2 hi hP hY => ?_) fun H' hP => ?_
  · obtain ⟨rfl, k, hkv⟩ := hY
    obtain ⟨t, ht, rfl, rfl⟩ := ed_get hkv
    show wipe ((wipe σ vs).set j (some (.int t.2))) vs = wipe σ vs ∧ _
    exact ⟨hw _, kw_turn nD0 npD hP ht hz fun H1 => he i t H1 ht⟩
  · obtain ⟨g1, g2, g3⟩ := hP
    rw [ed_len, List.take_length] at g2
    refine ⟨g1, q D _ nD0 (lock_back hp0 g3) (by rw [upd_ne npD.symm]; exact g2)⟩
/-- max([..], default=0) of a new list -/
theorem evp_maxD {l : List Int} (h : EvL te σ H (l.map V.int)) : EvP (tCKw (rMaxDef K) (tCons te tNil) (tCons (tC (.int 0)) tNil)) σ H (rInt (maxDef 0 l)) := fun H1 e Q q => h H1 e _ fun p H2 np e2 hp => ⟨p, l, 0, rfl, rfl, .inl (.inl hp), q _ H2 e2 rfl⟩
end
section
variable {P : Program} {w : World} {K : PySem.W.Frag} {mg : Str → Option Value} {base : Heap}
/-! ### power_of, most_in -/
inductive cPowOf : List Rp → Rp → Prop
  | mk {d : Raw} {p : Kh370.Poly} {i : Nat} : Rep d p → i < 4 → cPowOf [rD d, rInt i] (rInt (Kh370.degree p i : Int))
theorem sc_power_of : FnScope ["f", "index", "key"] ["f", "index"] (defScope s_power_of) := ⟨rfl, rfl, rfl, by decide +kernel, rfl, by decide +kernel, by decide +kernel⟩
theorem good_power_of (d : Decl K mg "power_of" s_power_of) (mm : mg "max" = none) (g_power_in : Good P w K mg base "power_in" 1 ["key", "index"] (pf cPowIn)) : Good P w K mg base "power_of" 2 ["f", "index"] (pf cPowOf) := by
  refine d.good sc_power_of (fun _ _ _ _ _ _ us hl => match us, hl with | [_, _], _ => rfl) (pf_len fun _ _ c => by cases c; rfl) fun f cdv A outer s H vs Q E hr h => ?_
  obtain ⟨Rs, R, c, ha, q⟩ := h
  have hu := hu_of hr
  cases c with
  | @mk d p i hR hi =>
  obtain ⟨_, _, rfl, ⟨a, rfl, hp⟩, _, _, rfl, rfl, rfl⟩ := ha
  refine ⟨_, pss_one (ps_ret (pe_callBK (cr_maxDef rfl hu) (by rfl) mm (by decide +kernel) (pa_cons (pe_lock (pe_lc (own := [("key", 2)]) (g := gName 2) (by rfl) sc_power_of.nd (pi_keys (pv 0))
    (blkOk_by (own := [("key", 2)]) (N := ["f", "index", "key"]) (sc := defScope s_power_of) (by decide +kernel)) (fun _ _ _ _ _ => pg_name (i := 2) sc_power_of.nd rfl (Or.inl rfl)) (fun _ _ _ _ _ => pts_nil) (fun _ _ _ _ _ => pe_g g_power_in hr (by rfl) (pa_cons (pv 2) (pa_cons (pv 1) pa_nil))))) pa_nil) (pk_cons pe_int pk_nil))), ?_⟩
  refine s_st (σ2 := [some (.ref a), some (.int i), none]) rfl ?_
  have el := el_lcK (te := tCall (pf cPowIn) [] E0 (tCons (tVar 2) (tCons (tVar 1) tNil))) (tx := tVar 0) (σ := [some (.ref a), some (.int (i : Int)), none]) (H := H) (d := d) (f := fun t => powI t.1 i) (j := 2) (vs := [2]) (fun H1 => evp_var rfl rfl) hp (Nat.le_trans hR.short (by decide)) (fun _ => rfl) fun j t H1 ht => evp_call (evps_cons (evp_var (v := .int t.1) rfl rfl) (evps_cons (evp_var (v := .int (i : Int)) rfl rfl) evps_nil)) (cPowIn.mk t.1 i hi)
  have em : (d.map fun t => V.int (powI t.1 i)) = (d.map fun t => powI t.1 i).map V.int := by rw [List.map_map]; rfl
  rw [em] at el
  refine s_retP (evp_maxD el) fun v H' e hv => q v H' e ?_
  have hv : v = _ := hv
  rw [hv, maxDef_fold _ (fun x hx => by
    obtain ⟨t, _, rfl⟩ := List.mem_map.mp hx
    exact (powI_lt _ _).1), hR.degree hi]
  rfl
inductive cMost : List Rp → Rp → Prop
  | mk {d : Raw} {p : Kh370.Poly} : Rep d p → cMost [rD d] (rInt (mostD d))
theorem sc_most_in : FnScope ["f", "number"] ["f"] (defScope s_most_in) := ⟨rfl, rfl, rfl, by decide +kernel, rfl, by decide +kernel, by decide +kernel⟩
theorem good_most_in (d : Decl K mg "most_in" s_most_in) (mm : mg "max" = none) (ma : mg "abs" = none) : Good P w K mg base "most_in" 1 ["f"] (pf cMost) := by
  refine d.good sc_most_in (fun _ _ _ _ _ _ us hl => match us, hl with | [_], _ => rfl) (pf_len fun _ _ c => by cases c; rfl) fun f cdv A outer s H vs Q E hr h => ?_
  obtain ⟨Rs, R, c, ha, q⟩ := h
  have hu := hu_of hr
  cases c with
  | @mk d p hR =>
  obtain ⟨_, _, rfl, ⟨a, rfl, hp⟩, rfl⟩ := ha
  refine ⟨_, pss_one (ps_ret (pe_callBK (cr_maxDef rfl hu) (by rfl) mm (by decide +kernel) (pa_cons (pe_lock (pe_lc (own := [("number", 1)]) (g := gName 1) (by rfl) sc_most_in.nd (pi_values (pv 0))
    (blkOk_by (own := [("number", 1)]) (N := ["f", "number"]) (sc := defScope s_most_in) (by decide +kernel)) (fun _ _ _ _ _ => pg_name (i := 1) sc_most_in.nd rfl (Or.inl rfl)) (fun _ _ _ _ _ => pts_nil) (fun _ _ _ _ _ => pe_callB call_abs (by rfl) ma (by decide +kernel) (pa_cons (pv 1) pa_nil)))) pa_nil) (pk_cons pe_int pk_nil))), ?_⟩
  refine s_st (σ2 := [some (.ref a), none]) rfl ?_
  have el := el_lcV (te := tCB (fun xs H Q => ∃ i, xs = [.int i] ∧ Q (.int (if i < 0 then -i else i)) H) (tCons (tVar 1) tNil)) (tx := tVar 0) (σ := [some (.ref a), none]) (H := H) (d := d) (f := fun t => (t.2.natAbs : Int)) (j := 1) (vs := [1]) (fun H1 => evp_var rfl rfl) hp (Nat.le_trans hR.short (by decide)) (fun _ => rfl) fun j t H1 ht => evp_abs (evp_var (v := .int t.2) rfl rfl)
  have em : (d.map fun t => V.int (t.2.natAbs : Int)) = (d.map fun t => (t.2.natAbs : Int)).map V.int := by rw [List.map_map]; rfl
  rw [em] at el
  refine s_retP (evp_maxD el) fun v H' e hv => q v H' e ?_
  have hv : v = _ := hv
  rw [hv, maxDef_fold _ (fun x hx => by
    obtain ⟨t, _, rfl⟩ := List.mem_map.mp hx
    omega)]
  rfl
/-! ### flat_terms -/
inductive cFlat : List Rp → Rp → Prop
  | mk {d : Raw} {p : Kh370.Poly} : Rep d p → cFlat [rD d] (rInts (Kh374.row p))
theorem termI_row {t : Kh370.Term} (h : t.2.length = 4) : termI t = t.1 :: t.2.map Int.ofNat := by
  obtain ⟨a, b, c, d, e⟩ := len4 h
  unfold termI
  rw [e]
  rfl
theorem row_is {p : Kh370.Poly} (h : W4 p) : Kh374.row p = p.flatMap termI := by
  unfold Kh374.row
  have : ∀ t ∈ p, (t.1 :: t.2.map Int.ofNat) = termI t := fun t ht => (termI_row (h t ht)).symm
  clear h
  induction p with
  | nil => rfl
  | cons t r ih => rw [List.flatMap_cons, List.flatMap_cons, this t List.mem_cons_self, ih fun u hu => this u (List.mem_cons_of_mem _ hu)]
theorem sc_flat_terms : FnScope ["f", "row", "term"] ["f"] (defScope s_flat_terms) := ⟨rfl, rfl, rfl, by decide +kernel, rfl, by decide +kernel, by decide +kernel⟩
theorem good_flat_terms (d : Decl K mg "flat_terms" s_flat_terms) (g_terms : Good P w K mg base "terms" 2 ["f"] (pfL cTerms)) : Good P w K mg base "flat_terms" 3 ["f"] (pf cFlat) := by
  refine d.good sc_flat_terms (fun _ _ _ _ _ _ us hl => match us, hl with | [_], _ => rfl) (pf_len fun _ _ c => by cases c; rfl) fun f cdv A outer s H vs Q E hr h => ?_
  obtain ⟨Rs, R, c, ha, q⟩ := h
  cases c with
  | @mk d p hR =>
  obtain ⟨v0, _, rfl, h0, rfl⟩ := ha
  refine ⟨_, pss_cons (ps_set (i := 1) sc_flat_terms.nd rfl (.inl rfl) (pe_lst pa_nil))
    (pss_cons (ps_for PassesOwn.never rfl (pi_list (pe_g g_terms hr (by rfl) (pa_cons (pv 0) pa_nil))) (pg_name (i := 2) sc_flat_terms.nd rfl (.inl rfl))
      (pss_one (ps_expr (pe_bm PySem.F.plainAttrs_list PySem.F.slot_list_extend PySem.F.type_list_extend mt_extendT (pv 1) (pa_cons (pv 2) pa_nil)))))
    (pss_one (ps_ret (pv 1)))), ?_⟩
  refine s_st (σ2 := [some v0, none, none]) rfl ?_
  refine s_setN (σ2 := fun v => [some v0, some v, none]) (fun _ => rfl) (Evl.el_lst Evl.ea_nil (Nat.zero_le _)) fun r H1 nr e1 hr1 => ?_
  refine s_seq ⟨_, rfl, ?_⟩
  refine ⟨_, _, cTerms.mk hR, ⟨v0, [], rfl, Rp.stay _ e1 h0, rfl⟩, fun a us H2 na e2 ha hus => ?_⟩
  have nar : a ≠ r := (ne_of_none hr1 na).symm
  refine ⟨a, rfl, ⟨us, .inl (.inl ha)⟩, for_list (K := K) (xs := us) (fun i σ H' => ∃ y, σ = [some v0, some (.ref r), y] ∧ Ex H H' ∧ H' a = some (.lst us) ∧ H' r = some (.lst (((p.take i).flatMap termI).map V.int)) ∧ All2 (p.map rTerm) us H') ⟨none, rfl, e1.trans e2, ha, e2 _ _ hr1, hus⟩ (fun i σ H' _ ⟨_, _, _, ha, _⟩ => .inl (.inl ha)) ?_ ?_⟩
  · rintro i x σ H' hx ⟨y, rfl, e, ha', hr', hus'⟩
    obtain ⟨t, ht, hxt⟩ := all2_at hus' hx
    obtain ⟨b, rfl, hb⟩ := rTerm_is hxt
    have hlen : ((((p.take i).flatMap termI).map V.int).length) + ((termI t).map V.int).length ≤ sizeLine := by
      have h5 : ∀ l : List Kh370.Term, (l.flatMap termI).length = l.length * 5 := fun l => by
        induction l with
        | nil => rfl
        | cons t r ih =>
          rw [List.flatMap_cons, List.length_append, ih, List.length_cons]
          show 5 + _ = _
          omega
      rw [List.length_map, List.length_map, h5, List.length_take]
      have := hR.short
      have := hR.len
      refine Nat.le_trans ?_ (by decide : 2000 ≤ sizeLine)
      show _ + 5 ≤ 2000
      omega
    refine ⟨_, rfl, .inl ⟨rfl, _, .inl (.inl hr')⟩, _, rfl, r, b, _, _, rfl, rfl, hr', hb, hlen, ?_⟩
    refine ⟨_, rfl, Ex.mut e nr, by rw [upd_ne nar]; exact ha', ?_, all2_terms hr' hus'⟩
    rw [upd_same, List.take_add_one, ht, List.flatMap_append, List.map_append]
    show _ = some (HO.lst (_ ++ (([t].flatMap termI).map V.int)))
    rw [List.flatMap_cons, List.flatMap_nil, List.append_nil]
  · rintro σ H' ⟨y, rfl, e, ha', hr', hus'⟩
    have el : us.length = p.length := by rw [hus.len, List.length_map]
    rw [el, List.take_length, ← row_is hR.w4] at hr'
    exact ⟨_, rfl, q _ _ e ⟨r, rfl, hr'⟩⟩
end
end Ds
end
section
set_option Elab.async false
set_option linter.all false
set_option maxRecDepth 100000
set_option maxHeartbeats 1000000
set_option exponentiation.threshold 1000
namespace Ds
open PySem PySem.Spec PyProof.Rows L2 Su
open Evl (Ex EvT EvL)
section
variable {K : PySem.W.Frag} {σ : L2.St} {H : Hp} {te tf : TE}
theorem evt_ne {i j : Int} (h1 : EvP te σ H (rInt i)) (h2 : EvP tf σ H (rInt j)) : EvT (tTest (tOp rNe te tf)) σ H (!decide (i = j)) := fun H1 e Q q =>
  h1 H1 e _ fun x H2 e2 hx => h2 H2 (e.trans e2) _ fun y H3 e3 hy => by
    have hx : x = .int i := hx
    have hy : y = .int j := hy
    subst hx hy
    refine ⟨rfl, !decide (i = j), ?_, q H3 (e2.trans e3)⟩
    by_cases z : i = j
    · rw [decide_eq_true z, decide_eq_true (congrArg V.int z)]
    · rw [decide_eq_false z, decide_eq_false fun y => z (V.int.inj y)]
end
section
variable {P : Program} {w : World} {K : PySem.W.Frag} {mg : Str → Option Value} {base : Heap}
/-! ### common_of_two, common_in -/
inductive cGcd : List Rp → Rp → Prop
  | mk (a b : Nat) : cGcd [rInt a, rInt b] (rInt (Nat.gcd a b : Int))
theorem sc_common_of_two : FnScope ["number", "other", "rest"] ["number", "other"] (defScope s_common_of_two) := ⟨rfl, rfl, rfl, by decide +kernel, rfl, by decide +kernel, by decide +kernel⟩
theorem good_common_of_two (d : Decl K mg "common_of_two" s_common_of_two) : Good P w K mg base "common_of_two" 1 ["number", "other"] (pf cGcd) := by
  refine d.good sc_common_of_two (fun _ _ _ _ _ _ us hl => match us, hl with | [_, _], _ => rfl) (pf_len fun _ _ c => by cases c; rfl) fun f cdv A outer s H vs Q E hr h => ?_
  obtain ⟨Rs, R, c, ha, q⟩ := h
  cases c with
  | mk a b =>
  obtain ⟨_, _, rfl, rfl, _, _, rfl, rfl, rfl⟩ := ha
  refine ⟨_, pss_cons (ps_while PassesOwn.never (pt_cmpR op_ne (pv 1) pe_int (nomark _))
      (pss_cons (ps_set (i := 2) sc_common_of_two.nd rfl (.inl rfl) (pe_op op_modN (pv 0) (pv 1)))
      (pss_cons (ps_set (i := 0) sc_common_of_two.nd rfl (.inl rfl) (pv 1))
      (pss_one (ps_set (i := 1) sc_common_of_two.nd rfl (.inl rfl) (pv 2))))))
    (pss_one (ps_ret (pv 0))), ?_⟩
  refine s_st (σ2 := [some (.int a), some (.int b), none]) rfl ?_
  refine Evl.q_while (fun m σ' H' => ∃ (x : Nat) (y : Option V), σ' = [some (.int x), some (.int m), y] ∧ Nat.gcd x m = Nat.gcd a b ∧ Ex H H') b ⟨a, none, rfl, rfl, Ex.refl _⟩ ?_
  rintro m σ' H' ⟨x, y, rfl, hg, e⟩
  refine ⟨_, evt_ne (evp_var (i := 1) rfl rfl) (evp_c rfl), fun z H1 e1 => ?_, fun z H1 e1 => ?_⟩
  · have hm : m ≠ 0 := fun h0 => by
      subst h0
      cases z
    refine ⟨fun σ2 H2 => ∃ y, σ2 = [some (.int m), some (.int ((x % m : Nat) : Int)), y] ∧ Ex H H2, fun σ2 H2 ⟨y', h1, h2⟩ => ⟨x % m, Nat.mod_lt _ (by omega), m, y', h1, ?_, h2⟩, ?_⟩
    · rw [Nat.gcd_comm, ← Nat.gcd_rec, Nat.gcd_comm]
      exact hg
    · refine s_set (σ2 := fun v => [some (.int x), some (.int m), some v]) (fun _ => rfl) (evp_rI (evp_var rfl rfl) (evp_var rfl rfl) (by omega)) fun v H2 e2 hv => ?_
      have hv : v = .int (Int.fmod (x : Int) (m : Int)) := hv
      have ef : Int.fmod (x : Int) (m : Int) = ((x % m : Nat) : Int) := by
        rw [Int.fmod_eq_emod_of_nonneg _ (by omega)]
        rfl
      rw [ef] at hv
      subst hv
      exact ⟨_, rfl, _, rfl, _, rfl, e.trans (e1.trans e2)⟩
  · have hm : m = 0 := by
      have := of_decide_eq_true (by simpa using z : decide ((m : Int) = 0) = true)
      omega
    subst hm
    rw [Nat.gcd_zero_right] at hg
    refine s_retP (evp_var (i := 0) (R := rInt (x : Int)) rfl rfl) fun v H2 e2 hv => q v H2 (e.trans (e1.trans e2)) ?_
    rw [← hg]
    exact hv
inductive cComIn : List Rp → Rp → Prop
  | mk {x y w : Raw} {px py pw : Kh370.Poly} : Rep x px → Rep y py → Rep w pw → cComIn [rTup [rD x, rD y, rD w]] (rInt (Kh374.common [px, py, pw] : Int))
theorem gcd_take (d : Raw) (g : Nat) {i : Nat} {t : Int × Int} (h : d[i]? = some t) : gcdD (d.take (i + 1)) g = Nat.gcd (gcdD (d.take i) g) t.2.natAbs := by
  unfold gcdD gcdL
  rw [List.take_add_one, h, List.map_append, List.foldl_append]
  rfl
/-- for number in f.values(): greatest = common_of_two(greatest, abs(number)) -/
theorem com_inner {D : Ends} {v0 : V} {a : Addr} {d : Raw} {g : Nat} {y : Option V} {H : Hp} (ha : H a = some (.dK (ed d))) (k : ∀ y' H', Ex H H' → D.nx [some v0, some (.int (gcdD d g : Nat)), some (.ref a), y'] H') :
    tLock (tFor (iVals (tVar 2)) (gName 3) (tAsg (tCall (pf cGcd) [] E0 (tCons (tVar 1) (tCons (tCB (fun xs H Q => ∃ i, xs = [.int i] ∧ Q (.int (if i < 0 then -i else i)) H) (tCons (tVar 3) tNil)) tNil))) (gName 1))) D [some v0, some (.int (g : Nat)), some (.ref a), y] H := by
  refine ⟨a, .dK (ed d), ha, trivial, fun od => ?_⟩
  refine ⟨_, rfl, a, od, ed d, rfl, upd_same, ?_⟩
  refine for_it walk_values (fun i σ H' => ∃ y, σ = [some v0, some (.int (gcdD (d.take i) g : Nat)), some (.ref a), y] ∧ H' a = some (.frz od (.dK (ed d))) ∧ ∀ b u, H b = some u → b ≠ a → H' b = some u) ⟨y, rfl, upd_same, fun b u hb ne => by rw [upd_ne ne]; exact hb⟩ (fun i σ H' _ ⟨_, _, h, _⟩ => h) ?_ ?_
  · rintro i x σ H' H2 hi ⟨y, rfl, h1, h2⟩ ⟨rfl, k', hkv⟩
    obtain ⟨t, ht, rfl, rfl⟩ := ed_get hkv
    show tAsg _ _ _ [some v0, some (.int (gcdD (d.take i) g : Nat)), some (.ref a), some (.int t.2)] _
    refine evp_call (C := cGcd) (σ := [some v0, some (.int (gcdD (d.take i) g : Nat)), some (.ref a), some (.int t.2)]) (evps_cons (evp_var (i := 1) rfl rfl) (evps_cons (evp_abs (evp_var (i := 3) (v := .int t.2) rfl rfl)) evps_nil)) (cGcd.mk (gcdD (d.take i) g) t.2.natAbs) _ (Ex.refl _) _ fun v H3 e3 hv => ?_
    have hv : v = .int (Nat.gcd (gcdD (d.take i) g) t.2.natAbs : Nat) := hv
    subst hv
    refine ⟨some (.int t.2), ?_, e3 _ _ h1, fun b u hb ne => e3 _ _ (h2 b u hb ne)⟩
    rw [gcd_take d g ht]
    rfl
  · rintro σ H' ⟨y, rfl, h1, h2⟩
    rw [ed_len, List.take_length]
    exact ⟨h1, k y _ (lock_back ha h2)⟩
theorem sc_common_in : FnScope ["sums", "greatest", "f", "number"] ["sums"] (defScope s_common_in) := ⟨rfl, rfl, rfl, by decide +kernel, rfl, by decide +kernel, by decide +kernel⟩
theorem good_common_in (d : Decl K mg "common_in" s_common_in) (ma : mg "abs" = none) (g_common_of_two : Good P w K mg base "common_of_two" 1 ["number", "other"] (pf cGcd)) : Good P w K mg base "common_in" 2 ["sums"] (pf cComIn) := by
  refine d.good sc_common_in (fun _ _ _ _ _ _ us hl => match us, hl with | [_], _ => rfl) (pf_len fun _ _ c => by cases c; rfl) fun f cdv A outer s H vs Q E hr h => ?_
  obtain ⟨Rs, R, c, ha, q⟩ := h
  cases c with
  | @mk x y w px py pw hx hy hw =>
  obtain ⟨_, _, rfl, ⟨a, _, rfl, ha, _, _, rfl, ⟨p1, rfl, h1⟩, _, _, rfl, ⟨p2, rfl, h2⟩, _, _, rfl, ⟨p3, rfl, h3⟩, rfl⟩, rfl⟩ := ha
  refine ⟨_, pss_cons (ps_set (i := 1) sc_common_in.nd rfl (.inl rfl) pe_int)
    (pss_cons (ps_for PassesOwn.never rfl (pi_tup (pv 0)) (pg_name (i := 2) sc_common_in.nd rfl (.inl rfl))
      (pss_one (ps_lock (ps_for PassesOwn.never rfl (pi_values (pv 2)) (pg_name (i := 3) sc_common_in.nd rfl (.inl rfl))
        (pss_one (ps_set (i := 1) sc_common_in.nd rfl (.inl rfl) (pe_g g_common_of_two hr (by rfl) (pa_cons (pv 1) (pa_cons (pe_callB call_abs (by rfl) ma (by decide +kernel) (pa_cons (pv 3) pa_nil)) pa_nil)))))))))
    (pss_one (ps_ret (pv 1)))), ?_⟩
  refine s_st (σ2 := [some (.ref a), none, none, none]) rfl ?_
  show tSeq _ _ _ [some (.ref a), some (.int 0), none, none] H
  let gs : Nat → Nat := fun i => match i with
    | 0 => 0
    | 1 => gcdD x 0
    | 2 => gcdD y (gcdD x 0)
    | _ => gcdD w (gcdD y (gcdD x 0))
  refine s_seq (Evl.s_forT (K := K) (a := a) (xs := [.ref p1, .ref p2, .ref p3]) (ev_of (evp_var rfl rfl)) (.inl (.inl ha)) (fun i σ' H' => ∃ y2 y3, σ' = [some (.ref a), some (.int (gs i : Nat)), y2, y3] ∧ Ex H H') (fun H1 e => ⟨none, none, rfl, e⟩) (fun i σ' H' _ ⟨_, _, _, e⟩ => .inl (.inl (e _ _ ha))) ?_ ?_)
  · rintro i v σ' H' hv ⟨y2, y3, rfl, e⟩
    match i, hv with
    | 0, hv =>
      have hv : V.ref p1 = v := Option.some.inj hv
      subst hv
      exact com_inner (g := 0) (e _ _ h1) fun y' H2 e2 => ⟨_, y', rfl, e.trans e2⟩
    | 1, hv =>
      have hv : V.ref p2 = v := Option.some.inj hv
      subst hv
      exact com_inner (g := gcdD x 0) (e _ _ h2) fun y' H2 e2 => ⟨_, y', rfl, e.trans e2⟩
    | 2, hv =>
      have hv : V.ref p3 = v := Option.some.inj hv
      subst hv
      exact com_inner (g := gcdD y (gcdD x 0)) (e _ _ h3) fun y' H2 e2 => ⟨_, y', rfl, e.trans e2⟩
    | i + 3, hv => cases hv
  · rintro σ' H' ⟨y2, y3, rfl, e⟩
    refine s_retP (evp_var (i := 1) (R := rInt ((gcdD w (gcdD y (gcdD x 0)) : Nat) : Int)) rfl rfl) fun v H2 e2 hv => q v H2 (e.trans e2) ?_
    rw [← Rep.common hx hy hw]
    exact hv
/-! ### raised -/
inductive cRaised : List Rp → Rp → Prop
  | mk (v : Int) (n : Nat) : v.natAbs ≤ 1000 → n < 1000 → cRaised [rInt v, rInt n] (rInt (v ^ n))
theorem sc_raised : FnScope ["v", "power", "product", "factor"] ["v", "power"] (defScope s_raised) := ⟨rfl, rfl, rfl, by decide +kernel, rfl, by decide +kernel, by decide +kernel⟩
theorem good_raised (d : Decl K mg "raised" s_raised) (mr : mg "range" = none) : Good P w K mg base "raised" 1 ["v", "power"] (pf cRaised) := by
  refine d.good sc_raised (fun _ _ _ _ _ _ us hl => match us, hl with | [_, _], _ => rfl) (pf_len fun _ _ c => by cases c; rfl) fun f cdv A outer s H vs Q E hr h => ?_
  obtain ⟨Rs, R, c, ha, q⟩ := h
  cases c with
  | mk v n hv hn =>
  obtain ⟨_, _, rfl, rfl, _, _, rfl, rfl, rfl⟩ := ha
  refine ⟨_, pss_cons (ps_set (i := 2) sc_raised.nd rfl (.inl rfl) pe_int)
    (pss_cons (ps_for PassesOwn.never rfl (pi_range1 rfl mr (pa_cons (pv 1) pa_nil)) (pg_name (i := 3) sc_raised.nd rfl (.inl rfl))
      (pss_one (ps_aug (i := 2) sc_raised.nd rfl (.inl rfl) (pv 0) ip_mulI)))
    (pss_one (ps_ret (pv 2)))), ?_⟩
  refine s_st (σ2 := [some (.int v), some (.int n), none, none]) rfl ?_
  show tSeq _ _ _ [some (.int v), some (.int n), some (.int 1), none] H
  refine s_seq (Evl.s_forR1 (n := (n : Int)) (eva_one (evp_var rfl rfl)) ⟨by omega, by omega⟩ (fun i σ' H' => ∃ y, σ' = [some (.int v), some (.int n), some (.int (v ^ i)), y] ∧ Ex H H') (fun H1 e => ⟨none, by rw [Int.pow_zero], e⟩) ?_ ?_)
  · rintro i σ' H' hi ⟨y, rfl, e⟩
    show tAug _ _ _ _ [some (.int v), some (.int n), some (.int (v ^ i)), some (.int (i : Int))] H'
    refine ⟨_, rfl, _, rfl, _, _, rfl, rfl, .inr ⟨by omega, by omega⟩, some (.int (i : Int)), ?_, e⟩
    rw [Int.pow_succ]
    rfl
  · rintro σ' H' ⟨y, rfl, e⟩
    exact ⟨_, rfl, q _ _ e rfl⟩
/-! ### put -/
inductive cPut : List Rp → Rp → Prop
  | mk {b : Bd} {n : Nat} {d : Raw} {i : Nat} {v : Int} : GD b n d → (∀ i, b i < 1000) → prod4 b ≤ 200 → n ≤ 200000 → i < 4 → v.natAbs ≤ 1000 → cPut [rD d, rInt i, rInt v] (rD (mPut d i v))
theorem put_short {b : Bd} {n : Nat} {d : Raw} (h : GD b n d) (hb : ∀ i, b i < 1000) (h200 : prod4 b ≤ 200) {i : Nat} (hi : i < 4) (v : Int) (j : Nat) : ((d.take j).foldl (putStep i v) []).length ≤ 200 :=
  Nat.le_trans (Bx.len (Bx.putGo hb hi v (fun _ h => absurd h List.not_mem_nil) fun t ht => h.bx t (List.mem_of_mem_take ht)) (putGo_nd i v _ Nd.nil)) h200
theorem two_lt {x n : Nat} (h : x ≤ 2 ^ n) : x < 2 ^ (n + 1) := by
  rw [Nat.pow_succ]
  have : 0 < 2 ^ n := Nat.pow_pos (by decide)
  omega
theorem sc_put : FnScope ["f", "index", "v", "total", "key", "number", "power", "without"] ["f", "index", "v"] (defScope s_put) := ⟨rfl, rfl, rfl, by decide +kernel, rfl, by decide +kernel, by decide +kernel⟩
theorem good_put (d : Decl K mg "put" s_put) (tp : TupC K mg "PLACES" placesL) (g_power_in : Good P w K mg base "power_in" 1 ["key", "index"] (pf cPowIn)) (g_raised : Good P w K mg base "raised" 1 ["v", "power"] (pf cRaised)) (gw : Good P w K mg base "without_noughts" 1 ["f"] (pf cWo)) : Good P w K mg base "put" 2 ["f", "index", "v"] (pf cPut) := by
  refine d.good sc_put (fun _ _ _ _ _ _ us hl => match us, hl with | [_, _, _], _ => rfl) (pf_len fun _ _ c => by cases c; rfl) fun f cdv A outer s H vs Q E hr h => ?_
  obtain ⟨Rs, R, c, ha, q⟩ := h
  obtain ⟨aP, mP, tP⟩ := tp
  have hu := hu_of hr
  cases c with
  | @mk b n d i v g hb h200 hn hi hv =>
  obtain ⟨_, _, rfl, ⟨p, rfl, hp⟩, _, _, rfl, rfl, _, _, rfl, rfl, rfl⟩ := ha
  refine ⟨_, pss_cons (ps_set (i := 3) sc_put.nd rfl (.inl rfl) pe_dnewK)
    (pss_cons (ps_lock (ps_for PassesOwn.never rfl (pi_items (pv 0)) (pg_tup rfl (pgs_cons (pg_name (i := 4) sc_put.nd rfl (.inl rfl)) (pgs_cons (pg_name (i := 5) sc_put.nd rfl (.inl rfl)) pgs_nil)))
      (pss_cons (ps_set (i := 6) sc_put.nd rfl (.inl rfl) (pe_g g_power_in hr (by rfl) (pa_cons (pv 4) (pa_cons (pv 1) pa_nil))))
      (pss_cons (ps_set (i := 7) sc_put.nd rfl (.inl rfl) (pe_op op_sub (pv 4) (pe_op op_mul (pv 6) (pe_ix ix_tup (pe_glob (v := .ref aP) rfl mP rfl) (pv 1) (fun _ _ => rfl)))))
      (pss_one (ps_dput hu (pv 3) (pv 7) (pe_op op_add (pe_dget2 hu (pv 3) (pv 7) pe_int ⟨rfl, rfl, rfl, rfl⟩) (pe_op op_mulW (pv 5) (pe_g g_raised hr (by rfl) (pa_cons (pv 2) (pa_cons (pv 6) pa_nil))))) rfl))))))
    (pss_one (ps_ret (pe_g gw hr (by rfl) (pa_cons (pv 3) pa_nil))))), ?_⟩
  refine s_st (σ2 := [some (.ref p), some (.int i), some (.int v), none, none, none, none, none]) rfl ?_
  intro k nk
  have npk : p ≠ k := ne_of_none hp nk
  show tSeq _ _ _ [some (.ref p), some (.int i), some (.int v), some (.ref k), none, none, none, none] (L2.upd H k (.dK []))
  refine ⟨p, .dK (ed d), by rw [upd_ne npk]; exact hp, trivial, fun od => ?_⟩
  refine ⟨_, rfl, p, od, ed d, rfl, upd_same, ?_⟩
  refine for_items (fun j σ H' => ∃ y4 y5 y6 y7, σ = [some (.ref p), some (.int i), some (.int v), some (.ref k), y4, y5, y6, y7] ∧ H' p = some (.frz od (.dK (ed d))) ∧ H' k = some (.dK (ed ((d.take j).foldl (putStep i v) []))) ∧ ∀ a o, H a = some o → a ≠ p → H' a = some o) ?_ (fun i σ H' ⟨_, _, _, _, _, h, _⟩ => h) ?_ ?_
  · refine ⟨none, none, none, none, rfl, upd_same, ?_, fun a o ha hne => ?_⟩
    · rw [upd_ne npk.symm, upd_same]
      rfl
    · rw [upd_ne hne, upd_ne (ne_of_none ha nk)]
      exact ha
  · rintro j key val T σ H' hj ⟨y4, y5, y6, y7, rfl, hp', hk', hx⟩ nT
    obtain ⟨t, ht, rfl, rfl⟩ := ed_get hj
    have htd := List.mem_of_getElem? ht
    have nTk : k ≠ T := ne_of_none hk' nT
    refine ⟨T, [.int t.1, .int t.2], rfl, .inl (.inl upd_same), rfl, _, _, rfl, _, _, rfl, rfl, ?_⟩
    have eT := Ex.new (H := H') (o := .tup [.int t.1, .int t.2]) nT
    have hp2 := eT _ _ hp'
    have hk2 := eT _ _ hk'
    have hx2 : ∀ a o, H a = some o → a ≠ p → L2.upd H' T (.tup [.int t.1, .int t.2]) a = some o := fun a o ha ne => eT _ _ (hx a o ha ne)
    show tSeq _ _ _ [some (.ref p), some (.int i), some (.int v), some (.ref k), some (.int t.1), some (.int t.2), y6, y7] (L2.upd H' T (.tup [.int t.1, .int t.2]))
    generalize L2.upd H' T (.tup [.int t.1, .int t.2]) = H2 at hp2 hk2 hx2 ⊢
    refine s_set (σ2 := fun u => [some (.ref p), some (.int i), some (.int v), some (.ref k), some (.int t.1), some (.int t.2), some u, y7]) (fun _ => rfl) (evp_call (E := E0) (evps_cons (evp_var rfl rfl) (evps_cons (evp_var rfl rfl) evps_nil)) (cPowIn.mk t.1 i hi)) fun u H3 e3 hu3 => ?_
    have hu3 : u = .int (powI t.1 i) := hu3
    subst hu3
    refine s_set (σ2 := fun u => [some (.ref p), some (.int i), some (.int v), some (.ref k), some (.int t.1), some (.int t.2), some (.int (powI t.1 i)), some u]) (fun _ => rfl) (evp_sub (evp_var rfl rfl) (evp_mul (evp_var rfl rfl) (evp_ixC tP (evp_var rfl rfl) (plI_at hi)) (by have := powI_lt t.1 i; omega))) fun u H4 e4 hu4 => ?_
    have hu4 : u = .int (t.1 - powI t.1 i * plI i) := hu4
    subst hu4
    have e24 := e3.trans e4
    have hk4 := e24 _ _ hk2
    have pw := powI_lt t.1 i
    have ep : powI t.1 i = ((powI t.1 i).toNat : Int) := by omega
    have wide : CMulW t.2 (v ^ (powI t.1 i).toNat) := wide_mul (a := n + 1) (b := 10001) (two_lt (Nat.le_trans (nrmD_mem htd) g.z)) (two_lt (pow_le10 hv _ (by omega))) (by omega) (by omega) (by omega)
    refine evp_add (σ := [some (.ref p), some (.int i), some (.int v), some (.ref k), some (.int t.1), some (.int t.2), some (.int (powI t.1 i)), some (.int (t.1 - powI t.1 i * plI i))]) (evp_dget0 (d := (d.take j).foldl (putStep i v) []) (k := t.1 - powI t.1 i * plI i) (evp_var (i := 3) rfl ⟨k, rfl, hk4⟩) (evp_var (i := 7) rfl rfl) (evp_c rfl)) (evp_rI (i := t.2) (j := v ^ (powI t.1 i).toNat) (evp_var (i := 5) rfl rfl) (evp_call (evps_cons (evp_var (i := 2) (v := .int v) rfl rfl) (evps_cons (evp_to (evp_var (i := 6) rfl rfl) ep) evps_nil)) (cRaised.mk v (powI t.1 i).toNat hv (by omega))) wide) H4 (Ex.refl _) _ fun u H5 e5 hu5 => ?_
    have hu5 : u = .int ((get ((d.take j).foldl (putStep i v) []) (t.1 - powI t.1 i * plI i)).getD 0 + t.2 * v ^ (powI t.1 i).toNat) := hu5
    subst hu5
    refine ⟨_, rfl, _, rfl, k, _, rfl, DPut.k (k := Sum.inl (t.1 - powI t.1 i * plI i)) (e5 _ _ hk4) ?_, ?_⟩
    · rw [ed_len]
      exact Nat.lt_of_le_of_lt (put_short g hb h200 hi v j) (by decide)
    · refine ⟨_, _, _, _, rfl, ?_, ?_, fun a o ha hne => ?_⟩
      · rw [upd_ne npk]
        exact e5 _ _ (e24 _ _ hp2)
      · rw [upd_same, fold_take _ _ _ _ _ ht, putK_ed]
        rfl
      · rw [upd_ne (ne_of_none ha nk)]
        exact e5 _ _ (e24 _ _ (hx2 a o ha hne))
  · rintro σ H' ⟨y4, y5, y6, y7, rfl, hp', hk', hx⟩
    have hk3 : H' k = some (.dK (ed (putT d i v))) := by
      rw [hk', ed_len, List.take_length]
      rfl
    have hs := put_short g hb h200 hi v d.length
    rw [List.take_length] at hs
    refine ⟨hp', _, rfl, ?_⟩
    refine ⟨[rD (putT d i v)], _, cWo.mk _ (putT_nd d i v) (Nat.lt_of_le_of_lt hs (by decide)), ⟨_, _, rfl, ⟨k, rfl, by rw [upd_ne npk.symm]; exact hk3⟩, rfl⟩, fun u H2 e2 hu2 => q _ _ ((lock_back hp hx).trans e2) hu2⟩
/-! ### comes_to -/
inductive cComes : List Rp → Rp → Prop
  | mk {b : Bd} {n : Nat} {d : Raw} {l : List Int} : GD b n d → (∀ i, b i < 1000) → prod4 b ≤ 200 → n ≤ 64000 → l.length ≤ 4 → (∀ v ∈ l, v.natAbs ≤ 1000) → cComes [rD d, rInts l] (rInt (coef (mPuts d 0 l) 0))
theorem sc_comes_to : FnScope ["f", "values", "index", "v"] ["f", "values"] (defScope s_comes_to) := ⟨rfl, rfl, rfl, by decide +kernel, rfl, by decide +kernel, by decide +kernel⟩
theorem good_comes_to (d : Decl K mg "comes_to" s_comes_to) (me : mg "enumerate" = none) (g_put : Good P w K mg base "put" 2 ["f", "index", "v"] (pf cPut)) : Good P w K mg base "comes_to" 3 ["f", "values"] (pf cComes) := by
  refine d.good sc_comes_to (fun _ _ _ _ _ _ us hl => match us, hl with | [_, _], _ => rfl) (pf_len fun _ _ c => by cases c; rfl) fun f cdv A outer s H vs Q E hr h => ?_
  obtain ⟨Rs, R, c, ha, q⟩ := h
  have hu := hu_of hr
  cases c with
  | @mk b n d l g hb h200 hn hl hv =>
  obtain ⟨v0, _, rfl, h0, _, _, rfl, ⟨a, rfl, hp⟩, rfl⟩ := ha
  refine ⟨_, pss_cons (ps_for PassesOwn.never rfl (pi_enum rfl me (pa_cons (pv 1) pa_nil)) (pg_tup rfl (pgs_cons (pg_name (i := 2) sc_comes_to.nd rfl (.inl rfl)) (pgs_cons (pg_name (i := 3) sc_comes_to.nd rfl (.inl rfl)) pgs_nil)))
      (pss_one (ps_set (i := 0) sc_comes_to.nd rfl (.inl rfl) (pe_g g_put hr (by rfl) (pa_cons (pv 0) (pa_cons (pv 2) (pa_cons (pv 3) pa_nil)))))))
    (pss_one (ps_ret (pe_dget2 hu (pv 0) pe_int pe_int ⟨rfl, rfl, rfl, rfl⟩))), ?_⟩
  refine s_st (σ2 := [some v0, some (.ref a), none, none]) rfl ?_
  refine s_seq (s_forE (K := K) (xs := l.map V.int) (evp_var (i := 1) rfl rfl) (.inl (.inl hp)) (fun j σ' H' => ∃ u y2 y3 d', σ' = [some u, some (.ref a), y2, y3] ∧ (rD d').is u H' ∧ GD b (n + 10000 * j) d' ∧ mPuts d' j (l.drop j) = mPuts d 0 l ∧ j ≤ l.length ∧ Ex H H') (fun H1 e => ⟨v0, none, none, d, rfl, Rp.stay _ e h0, g, rfl, Nat.zero_le _, e⟩) (fun j σ' H' ⟨_, _, _, _, _, _, _, _, _, e⟩ => .inl (.inl (e _ _ hp))) ?_ ?_)
  · rintro j x T σ' H' hx ⟨u, y2, y3, d', rfl, hd', g', em, hjl, e⟩ nT
    rw [List.getElem?_map] at hx
    obtain ⟨v, hvj, rfl⟩ := Option.map_eq_some_iff.mp hx
    have jl : j < l.length := (List.getElem?_eq_some_iff.mp hvj).1
    have eT := Ex.new (H := H') (o := .tup [.int (j : Nat), .int v]) nT
    refine ⟨T, [.int (j : Nat), .int v], rfl, .inl (.inl upd_same), rfl, _, _, rfl, _, _, rfl, rfl, ?_⟩
    show tAsg _ _ _ [some u, some (.ref a), some (.int (j : Nat)), some (.int v)] _
    have v1 := hv v (List.mem_of_getElem? hvj)
    refine evp_call (C := cPut) (σ := [some u, some (.ref a), some (.int (j : Nat)), some (.int v)]) (evps_cons (evp_var (i := 0) rfl (Rp.stay _ eT hd')) (evps_cons (evp_var (i := 2) rfl rfl) (evps_cons (evp_var (i := 3) rfl rfl) evps_nil))) (cPut.mk g' hb h200 (by omega) (by omega) v1) _ (Ex.refl _) _ fun u2 H2 e2 hu2 => ?_
    refine ⟨u2, _, _, mPut d' j v, rfl, hu2, (g'.put hb (by omega) v1).mono (fun _ => Nat.le_refl _) (by omega), ?_, jl, e.trans (eT.trans e2)⟩
    rw [← em, List.drop_eq_getElem_cons jl]
    have ev : l[j] = v := by
      rw [List.getElem?_eq_getElem jl] at hvj
      exact Option.some.inj hvj
    rw [ev]
    rfl
  · rintro σ' H' ⟨u, y2, y3, d', rfl, hd', g', em, hjl, e⟩
    rw [List.length_map, List.drop_length] at em
    have em : d' = mPuts d 0 l := em
    refine s_retP (evp_dget0 (d := d') (k := 0) (evp_var (i := 0) rfl hd') (evp_c rfl) (evp_c rfl)) fun v H2 e2 hv => q v H2 (e.trans e2) ?_
    rw [get_coef g'.dn.nd, em] at hv
    exact hv
end
end Ds
end
section
set_option Elab.async false
set_option linter.all false
set_option maxRecDepth 100000
set_option maxHeartbeats 1000000
namespace Ds
open PySem PySem.Spec PyProof.Rows L2 Su
open Evl (Ex EvT EvL)
/-! ### Comprehensions over what stands there -/
def EvS (te : TE) (σ : L2.St) (H : Hp) (xs : List V) : Prop := ∀ H1, Ex H H1 → ∀ Q : VK, (∀ p H2, Ex H1 H2 → H2 p = some (.lst xs) → Q (.ref p) H2) → te σ H1 Q
def EvSt (te : TE) (σ : L2.St) (H : Hp) (xs : List V) : Prop := ∀ H1, Ex H H1 → ∀ Q : VK, (∀ p H2, Ex H1 H2 → H2 p = some (.tup xs) → Q (.ref p) H2) → te σ H1 Q
section
variable {K : PySem.W.Frag} {σ : L2.St} {H : Hp} {te tl : TE}
theorem evs_new {xs : List V} (h : EvL te σ H xs) : EvS te σ H xs := fun H1 e Q q => h H1 e Q fun p H2 _ e2 hp => q p H2 e2 hp
theorem evs_ints {l : List Int} (h : EvP te σ H (rInts l)) : EvS te σ H (l.map V.int) := fun H1 e Q q => h H1 e Q fun v H2 e2 ⟨p, hv, hp⟩ => by
  subst hv
  exact q p H2 e2 hp
theorem evs_at {p : Addr} {xs : List V} (h : EvP te σ H (rV (.ref p))) (hp : H p = some (.lst xs)) : EvS te σ H xs := fun H1 e Q q => h H1 e Q fun v H2 e2 hv => by
  have hv : v = .ref p := hv
  subst hv
  exact q p H2 e2 (e2 _ _ (e _ _ hp))
def pick (l : List α) (F : α → Rp) (i : Nat) : Rp := match l[i]? with
  | some a => F a
  | none => rV .non
theorem pick_map {A : Type} (F : A → Rp) : ∀ (l : List A), (List.range l.length).map (pick l F) = l.map F := by
  intro l
  apply List.ext_getElem?
  intro i
  rw [List.getElem?_map, List.getElem?_map]
  by_cases hi : i < l.length
  · rw [List.getElem?_range hi, List.getElem?_eq_getElem hi]
    show some (pick l F i) = some (F l[i])
    unfold pick
    rw [List.getElem?_eq_getElem hi]
  · rw [List.getElem?_eq_none (by rw [List.length_range]; omega), List.getElem?_eq_none (by omega)]
    rfl
theorem pick_apart {A : Type} {F : A → Rp} (l : List A) (ap : ∀ a ∈ l, Apart (F a)) (i : Nat) : Apart (pick l F i) := by
  unfold pick
  cases e : l[i]? with
  | none => exact apart_v _
  | some a => exact ap a (List.mem_of_getElem? e)
/-- over a list, each item apart from what is made -/
theorem evp_lcS {A : Type} {l : List A} {g : A → V} (F : A → Rp) {j : Nat} {vs : List Nat} (hl : EvS tl σ H (l.map g)) (h1000 : l.length ≤ 1000) (hw : ∀ x, wipe ((wipe σ vs).set j (some x)) vs = wipe σ vs) (he : ∀ a ∈ l, ∀ H1, Ex H H1 → EvP te ((wipe σ vs).set j (some (g a))) H1 (F a)) (ap : ∀ a ∈ l, Apart (F a)) :
    EvP (tLc (iList K tl) (gName j) tYes te vs) σ H (rLst (l.map F)) := fun H0 e Q q => hl H0 e _ fun a H1 e1 hx => by
  refine ⟨a, rfl, ⟨l.map g, .inl (.inl hx)⟩, fun D nD => lc_list (xs := l.map g) (Lw H1 (pick l F) D) (lw_start nD) (fun i H' _ p => .inl (.inl (er_ex D H' _ _ (p.2.1 a _ hx)))) (fun i x H' hi p => ?_) fun H' p => ?_⟩
  · rw [List.getElem?_map] at hi
    obtain ⟨b, hb, rfl⟩ := Option.map_eq_some_iff.mp hi
    show wipe ((wipe σ vs).set j (some (g b))) vs = wipe σ vs ∧ _
    refine ⟨hw _, lw_turn p (by have := (List.getElem?_eq_some_iff.mp hb).1; omega) ?_ (pick_apart l ap i)⟩
    have := he b (List.mem_of_getElem? hb) H' (e.trans (e1.trans (p.2.1.trans (er_ex D H'))))
    unfold pick
    rw [hb]
    exact this
  · obtain ⟨_, p2, us, p3, p4⟩ := p
    rw [List.length_map, pick_map] at p4
    exact q _ H' (e1.trans (p2.trans (er_ex D H'))) ⟨D, us, rfl, p3, p4.stay (er_ex D H')⟩
theorem evp_lcT {A : Type} {l : List A} {g : A → V} (F : A → Rp) {j : Nat} {vs : List Nat} (hl : EvSt tl σ H (l.map g)) (h1000 : l.length ≤ 1000) (hw : ∀ x, wipe ((wipe σ vs).set j (some x)) vs = wipe σ vs) (he : ∀ a ∈ l, ∀ H1, Ex H H1 → EvP te ((wipe σ vs).set j (some (g a))) H1 (F a)) (ap : ∀ a ∈ l, Apart (F a)) :
    EvP (tLc (iTup K tl) (gName j) tYes te vs) σ H (rLst (l.map F)) := fun H0 e Q q => hl H0 e _ fun a H1 e1 hx => by
  refine ⟨a, rfl, ⟨l.map g, .inl (.inl hx)⟩, fun D nD => lc_tup (xs := l.map g) (Lw H1 (pick l F) D) (lw_start nD) (fun i H' _ p => .inl (.inl (er_ex D H' _ _ (p.2.1 a _ hx)))) (fun i x H' hi p => ?_) fun H' p => ?_⟩
  · rw [List.getElem?_map] at hi
    obtain ⟨b, hb, rfl⟩ := Option.map_eq_some_iff.mp hi
    show wipe ((wipe σ vs).set j (some (g b))) vs = wipe σ vs ∧ _
    refine ⟨hw _, lw_turn p (by have := (List.getElem?_eq_some_iff.mp hb).1; omega) ?_ (pick_apart l ap i)⟩
    have := he b (List.mem_of_getElem? hb) H' (e.trans (e1.trans (p.2.1.trans (er_ex D H'))))
    unfold pick
    rw [hb]
    exact this
  · obtain ⟨_, p2, us, p3, p4⟩ := p
    rw [List.length_map, pick_map] at p4
    exact q _ H' (e1.trans (p2.trans (er_ex D H'))) ⟨D, us, rfl, p3, p4.stay (er_ex D H')⟩
theorem all2_vals {H : Hp} {A : Type} {w : A → V} : ∀ {l : List A} {vs : List V}, All2 (l.map fun a => rV (w a)) vs H → vs = l.map w
  | [], _, h => h
  | a :: l, vs, ⟨v, r, h1, h2, h3⟩ => by
    rw [h1, show v = w a from h2, all2_vals h3]
    rfl
theorem all2_of {H : Hp} {A : Type} {w : A → V} {F : A → Rp} : ∀ {l : List A}, (∀ a ∈ l, (F a).is (w a) H) → All2 (l.map F) (l.map w) H
  | [], _ => rfl
  | a :: l, h => ⟨_, _, rfl, h a List.mem_cons_self, all2_of fun b hb => h b (List.mem_cons_of_mem _ hb)⟩
/-- over a list, each item a thing that stood there before -/
theorem evp_lcP {A : Type} {l : List A} {g w : A → V} (F : A → Rp) {j : Nat} {vs : List Nat} (hl : EvS tl σ H (l.map g)) (h1000 : l.length ≤ 1000) (hw : ∀ x, wipe ((wipe σ vs).set j (some x)) vs = wipe σ vs) (hF : ∀ a ∈ l, (F a).is (w a) H) (he : ∀ a ∈ l, ∀ H1, Ex H H1 → EvP te ((wipe σ vs).set j (some (g a))) H1 (rV (w a))) :
    EvP (tLc (iList K tl) (gName j) tYes te vs) σ H (rLst (l.map F)) := fun H1 e Q q =>
  evp_lcS (fun a => rV (w a)) hl h1000 hw he (fun _ _ => apart_v _) H1 e Q fun v H2 e2 ⟨p, us, hv, hp, hus⟩ => q v H2 e2 ⟨p, us, hv, hp, by
    rw [all2_vals hus]
    exact all2_of fun a ha => Rp.stay _ (e.trans e2) (hF a ha)⟩
/-- all([..]) -/
theorem evp_all {bs : List Bool} (h : EvP te σ H (rLst (bs.map fun b => rV (.bl b)))) : EvP (tCB (rAll K) (tCons te tNil)) σ H (rV (.bl (bs.all id))) := fun H1 e Q q => h H1 e _ fun v H2 e2 ⟨p, us, hv, hp, hus⟩ => by
  rw [all2_vals hus] at hp
  exact ⟨p, bs, by rw [hv], .inl (.inl hp), q _ H2 e2 rfl⟩
/-- max([..]) -/
theorem evp_max {l : List Int} (h : EvP te σ H (rLst (l.map fun i => rInt i))) (hl : 0 < l.length) (h0 : ∀ x ∈ l, 0 ≤ x) : EvP (tCB (rMax K) (tCons te tNil)) σ H (rInt (l.foldl max 0)) := fun H1 e Q q => h H1 e _ fun v H2 e2 ⟨p, us, hv, hp, hus⟩ => by
  rw [all2_ints hus] at hp
  refine ⟨p, l, by rw [hv], .inl (.inl hp), hl, fun m hm hy => q _ H2 e2 ?_⟩
  show V.int m = V.int _
  have h1 : l.foldl max 0 ≤ m := (fmax_le l 0 m).mpr ⟨h0 m hm, hy⟩
  have h2 := ((fmax_le l 0 (l.foldl max 0)).mp (Int.le_refl _)).2 m hm
  rw [show m = l.foldl max 0 by omega]
/-- a test by a value -/
theorem evt_val {b : Bool} (h : EvP te σ H (rV (.bl b))) : EvT (tTest te) σ H b := fun H1 e Q q => h H1 e _ fun x H2 e2 hx => ⟨b, hx, q H2 e2⟩
theorem evp_rI0 {g : Int → Int → V} {tf : TE} {i j : Int} (h1 : EvP te σ H (rInt i)) (h2 : EvP tf σ H (rInt j)) : EvP (tOp (rI0 g) te tf) σ H (rV (g i j)) := fun H1 e Q q =>
  h1 H1 e _ fun x H2 e2 hx => h2 H2 (e.trans e2) _ fun y H3 e3 hy => ⟨i, j, hx, hy, q _ H3 (e2.trans e3) rfl⟩
/-- xs[lo:], xs[:hi] of a list of whole numbers: new lists -/
theorem el_from {l : List Int} {i : Nat} {ti : TE} (h : EvP te σ H (rInts l)) (hi : EvP ti σ H (rInt (i : Int))) (hl : i ≤ l.length) : EvL (tSl (rSlL K) te (tPart ti) tNoPart) σ H ((l.drop i).map V.int) := fun H1 e Q q =>
  h H1 e _ fun v H2 e2 ⟨p, hv, hp⟩ => hi H2 (e.trans e2) _ fun u H3 e3 hu => ⟨i, hu, p, _, hv, .inl (.inl (e3 _ _ hp)), fun r nr => by
    have ec : cutV (l.map V.int) (some (i : Int)) none = (l.drop i).map V.int := by
      unfold cutV
      rw [HT.sIx_nat, HT.sIx_none, List.length_map, Nat.min_eq_left hl, List.map_drop, List.take_of_length_le (by rw [List.length_drop, List.length_map]; exact Nat.le_refl _)]
    rw [ec]
    exact q r _ (Evl.fresh_back (e2.trans e3) nr) (e2.trans (e3.trans (Ex.new nr))) upd_same⟩
theorem el_upto {l : List Int} {i : Nat} {ti : TE} (h : EvP te σ H (rInts l)) (hi : EvP ti σ H (rInt (i : Int))) (hl : i ≤ l.length) : EvL (tSl (rSlL K) te tNoPart (tPart ti)) σ H ((l.take i).map V.int) := fun H1 e Q q =>
  h H1 e _ fun v H2 e2 ⟨p, hv, hp⟩ => hi H2 (e.trans e2) _ fun u H3 e3 hu => ⟨i, hu, p, _, hv, .inl (.inl (e3 _ _ hp)), fun r nr => by
    have ec : cutV (l.map V.int) none (some (i : Int)) = (l.take i).map V.int := by
      unfold cutV
      rw [HT.sIx_nat, HT.sIx_none, List.length_map, Nat.min_eq_left hl, List.drop_zero, Nat.sub_zero, List.map_take]
    rw [ec]
    exact q r _ (Evl.fresh_back (e2.trans e3) nr) (e2.trans (e3.trans (Ex.new nr))) upd_same⟩
theorem evp_new {l : List Int} (h : EvL te σ H (l.map V.int)) : EvP te σ H (rInts l) := fun H1 e Q q => h H1 e Q fun p H2 _ e2 hp => q _ H2 e2 ⟨p, rfl, hp⟩
end
end Ds
end
section
set_option Elab.async false
set_option linter.all false
set_option maxRecDepth 100000
set_option maxHeartbeats 1000000
namespace Ds
open PySem PySem.Spec PyProof.Rows L2 Su
open Evl (Ex EvT EvL)
open Kh374 (Tri)
section
variable {P : Program} {w : World} {K : PySem.W.Frag} {mg : Str → Option Value} {base : Heap} {C : Addr}
/-! ### points_in_saying, saying_fits -/
inductive cPtsIn : List Rp → Rp → Prop
  | mk (k : Nat) : k < 13 → cPtsIn [rInt k] (rInt (sayCnt k : Int))
theorem swt_at {k : Nat} (h : k < 13) : ∃ ws, sayWtL[k]? = some ws ∧ ws.length = sayCnt k := (by decide : ∀ k : Nat, k < 13 → ∃ ws, sayWtL[k]? = some ws ∧ ws.length = sayCnt k) k h
theorem sc_points_in_saying : FnScope ["kind"] ["kind"] (defScope s_points_in_saying) := ⟨rfl, rfl, rfl, by decide +kernel, rfl, by decide +kernel, by decide +kernel⟩
theorem good_points_in_saying (d : Decl K mg "points_in_saying" s_points_in_saying) (W : WtN K mg "SAYING_WEIGHTS" sayWtL) (ml : mg "len" = none) : Good P w K mg base "points_in_saying" 1 ["kind"] (pf cPtsIn) := by
  refine d.good sc_points_in_saying (fun _ _ _ _ _ _ us hl => match us, hl with | [_], _ => rfl) (pf_len fun _ _ c => by cases c; rfl) fun f cdv A outer s H vs Q E hr h => ?_
  obtain ⟨Rs, R, c, ha, q⟩ := h
  obtain ⟨aW, rs, mW, sW, _, iW⟩ := W
  cases c with
  | mk k hk =>
  obtain ⟨_, _, rfl, rfl, rfl⟩ := ha
  obtain ⟨ws, hws, hlen⟩ := swt_at hk
  obtain ⟨r, hr1, hr2⟩ := iW k ws hws
  refine ⟨_, pss_one (ps_ret (pe_callB call_len_seq (by rfl) ml PySem.boot_len (pa_cons (pe_ix ix_tup (pe_glob (v := .ref aW) rfl mW rfl) (pv 0) (fun _ _ => rfl)) pa_nil))), ?_⟩
  refine s_st (σ2 := [some (.int k)]) rfl ?_
  refine evp_wt sW (evp_var rfl rfl) hr1 H (Ex.refl _) _ fun v H2 e2 hv => ?_
  have hv : v = .ref r := hv
  subst hv
  refine ⟨r, _, rfl, .inr (hr2 _), q _ _ e2 ?_⟩
  show V.int _ = V.int _
  unfold nI
  rw [List.length_map, List.length_map, hlen]
inductive cSayFit : List Rp → Rp → Prop
  | mk (k : Nat) (l : List Int) : l.length ≤ 1000 → cSayFit [rInt k, rInts l] (rV (.bl (fitS k l)))
theorem sayNum_at {k : Nat} (h : k < 13) : (nI sayNumL)[k]? = some (sayNum k : Int) := (by decide : ∀ k : Nat, k < 13 → (nI sayNumL)[k]? = some (sayNum k : Int)) k h
theorem sc_saying_fits : FnScope ["kind", "its", "count", "number"] ["kind", "its"] (defScope s_saying_fits) := ⟨rfl, rfl, rfl, by decide +kernel, rfl, by decide +kernel, by decide +kernel⟩
theorem good_saying_fits (d : Decl K mg "saying_fits" s_saying_fits) (W : WtN K mg "SAYING_WEIGHTS" sayWtL) (tN : TupC K mg "SAYING_NUMBERS" (nI sayNumL)) (ml : mg "len" = none) (mall : mg "all" = none) (g_points_in_saying : Good P w K mg base "points_in_saying" 1 ["kind"] (pf cPtsIn)) : Good P w K mg base "saying_fits" 2 ["kind", "its"] (pf cSayFit) := by
  refine d.good sc_saying_fits (fun _ _ _ _ _ _ us hl => match us, hl with | [_, _], _ => rfl) (pf_len fun _ _ c => by cases c; rfl) fun f cdv A outer s H vs Q E hr h => ?_
  obtain ⟨Rs, R, c, ha, q⟩ := h
  obtain ⟨aW, rs, mW, sW, lW, iW⟩ := W
  obtain ⟨aN, mN, sN⟩ := tN
  cases c with
  | mk k l hl =>
  obtain ⟨_, _, rfl, rfl, v1, _, rfl, h1, rfl⟩ := ha
  refine ⟨_, pss_cons (ps_if (pt_not (pt_chain op_le op_lt pe_int (pv 0) (pe_callB call_len_seq (by rfl) ml PySem.boot_len (pa_cons (pe_glob (v := .ref aW) rfl mW rfl) pa_nil)))) (pss_one (ps_ret pe_bl)) pss_nil)
    (pss_cons (ps_set (i := 2) sc_saying_fits.nd rfl (.inl rfl) (pe_g g_points_in_saying hr (by rfl) (pa_cons (pv 0) pa_nil)))
    (pss_cons (ps_if (pt_cmpR op_ne (pe_callB call_len_seq (by rfl) ml PySem.boot_len (pa_cons (pv 1) pa_nil)) (pe_op op_add (pv 2) (pe_ix ix_tup (pe_glob (v := .ref aN) rfl mN rfl) (pv 0) (fun _ _ => rfl))) (nomark _)) (pss_one (ps_ret pe_bl)) pss_nil)
    (pss_one (ps_ret (pe_callB (cr_all rfl) (by rfl) mall (by decide +kernel) (pa_cons (pe_lc (own := [("number", 3)]) (g := gName 3) (by rfl) sc_saying_fits.nd (pi_list (pe_slice sl_list (pv 1) (po_some (pv 2)) po_none))
      (blkOk_by (own := [("number", 3)]) (N := ["kind", "its", "count", "number"]) (sc := defScope s_saying_fits) (by decide +kernel)) (fun _ _ _ _ _ => pg_name (i := 3) sc_saying_fits.nd rfl (Or.inl rfl)) (fun _ _ _ _ _ => pts_nil) (fun _ _ _ _ _ => pe_chain op_le op_le pe_int (pv 3) pe_int)) pa_nil)))))), ?_⟩
  refine s_st (σ2 := [some (.int k), some v1, none, none]) rfl ?_
  have elen : EvP (tCB (fun ys H Q => ∃ p zs, ys = [.ref p] ∧ (SqL K H p zs ∨ SqT K H p zs) ∧ Q (.int zs.length) H) (tCons (tC (.ref aW)) tNil)) [some (.int k), some v1, none, none] H (rInt 13) := fun H1 e Q q => ⟨aW, _, rfl, .inr (sW _), q _ H1 (Ex.refl _) (by
    show V.int _ = V.int _
    rw [List.length_map, lW]
    rfl)⟩
  refine s_ifR (Evl.et_not (evt_val (evp_chainLt (evp_c rfl) (evp_var (i := 0) rfl rfl) elen))) (fun z H1 e1 => ?_) fun z H1 e1 => ?_
  · have hk : ¬ k < 13 := fun hk => by
      rw [decide_eq_true (show (0 : Int) ≤ (k : Int) by omega), decide_eq_true (show (k : Int) < 13 by omega)] at z
      cases z
    refine s_retP (evp_c (R := rV (.bl false)) rfl) fun v H' e hv => q v H' (e1.trans e) ?_
    unfold fitS
    rw [decide_eq_false hk]
    exact hv
  have hk : k < 13 := by
    have h2 : (decide ((0 : Int) ≤ (k : Int)) && decide ((k : Int) < 13)) = true := by simpa using z
    rw [Bool.and_eq_true, decide_eq_true_eq, decide_eq_true_eq] at h2
    omega
  refine s_set (σ2 := fun v => [some (.int k), some v1, some v, none]) (fun _ => rfl) (evp_call (E := E0) (evps_cons (evp_var rfl rfl) evps_nil) (cPtsIn.mk k hk)) fun v H2 e2 hv => ?_
  have hv : v = .int (sayCnt k : Int) := hv
  subst hv
  have h12 := Rp.stay _ (e1.trans e2) h1
  have eln : EvP (tCB (fun ys H Q => ∃ p zs, ys = [.ref p] ∧ (SqL K H p zs ∨ SqT K H p zs) ∧ Q (.int zs.length) H) (tCons (tVar 1) tNil)) [some (.int k), some v1, some (.int (sayCnt k : Int)), none] H2 (rInt (l.length : Int)) := fun H3 e3 Q q => by
    obtain ⟨p, hp1, hp2⟩ := Rp.stay _ e3 h12
    exact ⟨v1, rfl, p, _, by rw [hp1], .inl (.inl (.inl hp2)), q _ H3 (Ex.refl _) (by rw [List.length_map]; rfl)⟩
  refine s_ifR (evt_ne eln (evp_add (evp_var (i := 2) rfl rfl) (evp_ixC sN (evp_var (i := 0) rfl rfl) (sayNum_at hk)))) (fun y H3 e3 => ?_) fun y H3 e3 => ?_
  · have hne : ¬ l.length = sayCnt k + sayNum k := fun he => by
      rw [decide_eq_true (show (l.length : Int) = (sayCnt k : Int) + (sayNum k : Int) by omega)] at y
      cases y
    refine s_retP (evp_c (R := rV (.bl false)) rfl) fun v H' e hv => q v H' (e1.trans (e2.trans (e3.trans e))) ?_
    unfold fitS
    rw [decide_eq_false hne, Bool.false_and, Bool.and_false]
    exact hv
  have heq : l.length = sayCnt k + sayNum k := by
    have h2 : decide ((l.length : Int) = (sayCnt k : Int) + (sayNum k : Int)) = true := by simpa using y
    have := of_decide_eq_true h2
    omega
  have lc := evp_lcS (K := K) (σ := [some (.int k), some v1, some (.int (sayCnt k : Int)), none]) (H := H3) (l := l.drop (sayCnt k)) (g := V.int) (j := 3) (vs := [3]) (tl := tSl (rSlL K) (tVar 1) (tPart (tVar 2)) tNoPart) (te := tChain (rI0 fun i j => .bl (decide (i ≤ j))) (rI0 fun i j => .bl (decide (i ≤ j))) (tC (.int 1)) (tVar 3) (tC (.int 1000))) (fun x => rV (.bl (decide (1 ≤ x) && decide (x ≤ 1000)))) (evs_new (el_from (evp_var (i := 1) rfl (Rp.stay _ e3 h12)) (evp_var (i := 2) rfl rfl) (by omega))) (by rw [List.length_drop]; omega) (fun _ => rfl) (fun x _ H4 _ => evp_chain (evp_c rfl) (evp_var (i := 3) rfl rfl) (evp_c rfl)) (fun _ _ => apart_v _)
  have em : ((l.drop (sayCnt k)).map fun x => rV (.bl (decide (1 ≤ x) && decide (x ≤ 1000)))) = ((l.drop (sayCnt k)).map fun x => decide (1 ≤ x) && decide (x ≤ 1000)).map fun b => rV (.bl b) := by rw [List.map_map]; rfl
  rw [em] at lc
  refine s_retP (evp_all lc) fun v H' e hv => q v H' (e1.trans (e2.trans (e3.trans e))) ?_
  have hv : v = _ := hv
  rw [hv]
  show V.bl _ = V.bl _
  unfold fitS
  rw [decide_eq_true hk, decide_eq_true heq, List.all_map]
  rfl
end
end Ds
end
section
set_option Elab.async false
set_option linter.all false
set_option maxRecDepth 100000
set_option maxHeartbeats 1000000
namespace Ds
open PySem PySem.Spec PyProof.Rows L2 Su
open Evl (Ex EvT EvL)
open Kh374 (Tri)
/-! ### left: the saying out of the table -/
def SayT (K : PySem.W.Frag) (mg : Str → Option Value) : Prop := ∃ (a : Addr) (fs : List Addr), mg "SAYINGS" = some (.ref a) ∧ (∀ H, SqT K H a (fs.map V.ref)) ∧ ∀ (i : Nat) (x : Str), sayNames[i]? = some x → ∃ f, fs[i]? = some f ∧ mg x = some (.ref f)
def sayC (C : Addr) (k : Nat) : List Rp → Rp → Prop := match k with
  | 0 => cSame C
  | 1 => cOneLine C
  | 2 => cParallel C
  | 3 => cRight C
  | 4 => cEqual C
  | 5 => cMany C
  | 6 => cCircle C
  | 7 => cAngles C
  | 8 => cAreas C
  | 9 => cThrough C
  | 10 => cMiddle C
  | 11 => cTouches C
  | 12 => cAlike C
  | _ => fun _ _ => False
theorem sayC_len {C : Addr} {k : Nat} {Rs : List Rp} {R : Rp} (h : sayC C k Rs R) : (Rs.length = 2 ∨ Rs.length = 3 ∨ Rs.length = 4 ∨ Rs.length = 6) := by
  match k, h with
  | 0, h => cases h; exact .inl rfl
  | 1, h => cases h; exact .inr (.inl rfl)
  | 2, h => cases h; exact .inr (.inr (.inl rfl))
  | 3, h => cases h; exact .inr (.inr (.inl rfl))
  | 4, h => cases h; exact .inr (.inr (.inl rfl))
  | 5, h => cases h; exact .inr (.inr (.inr rfl))
  | 6, h => cases h; exact .inr (.inr (.inl rfl))
  | 7, h => cases h; exact .inr (.inr (.inr rfl))
  | 8, h => cases h; exact .inr (.inr (.inr rfl))
  | 9, h => cases h; exact .inr (.inr (.inr rfl))
  | 10, h => cases h; exact .inr (.inl rfl)
  | 11, h => cases h; exact .inr (.inr (.inl rfl))
  | 12, h => cases h; exact .inr (.inr (.inr rfl))
  | k + 13, h => exact h.elim
inductive cLeft (C : Addr) : List Rp → Rp → Prop
  | mk {k : Nat} {Rs : List Rp} {R : Rp} : sayC C k Rs R → cLeft C [rInt k, rLst Rs] R
section
variable {P : Program} {w : World} {K : PySem.W.Frag} {mg : Str → Option Value} {base : Heap} {C : Addr}
/-- the def of each saying, where it stands -/
structure SayG (P : Program) (w : World) (K : PySem.W.Frag) (mg : Str → Option Value) (base : Heap) (C : Addr) : Prop where
  same : Good P w K mg base "same" 10 ["a", "b"] (pf (cSame C))
  on_one_line : Good P w K mg base "on_one_line" 10 ["a", "b", "c"] (pf (cOneLine C))
  parallel : Good P w K mg base "parallel" 10 ["a", "b", "c", "d"] (pf (cParallel C))
  right : Good P w K mg base "right" 10 ["a", "b", "c", "d"] (pf (cRight C))
  equal : Good P w K mg base "equal" 10 ["a", "b", "c", "d"] (pf (cEqual C))
  so_many_times : Good P w K mg base "so_many_times" 10 ["a", "b", "c", "d", "m", "n"] (pf (cMany C))
  circle : Good P w K mg base "circle" 10 ["a", "b", "c", "d"] (pf (cCircle C))
  angles : Good P w K mg base "angles" 10 ["a", "b", "c", "d", "e", "f"] (pf (cAngles C))
  areas : Good P w K mg base "areas" 10 ["a", "b", "c", "d", "e", "f"] (pf (cAreas C))
  through : Good P w K mg base "through" 10 ["a", "b", "c", "d", "e", "f"] (pf (cThrough C))
  middle : Good P w K mg base "middle" 10 ["a", "b", "c"] (pf (cMiddle C))
  touches : Good P w K mg base "touches" 10 ["a", "b", "c", "d"] (pf (cTouches C))
  alike : Good P w K mg base "alike" 10 ["a", "b", "c", "d", "e", "f"] (pf (cAlike C))
theorem Good.mono {x : Str} {k j : Nat} {ps : List Str} {sp : Sp} (g : Good P w K mg base x k ps sp) (h : k ≤ j) : Good P w K mg base x j ps sp := by
  obtain ⟨f, fd, h1, h2, h3, h4⟩ := g
  exact ⟨f, fd, h1, h2, h3, h4.mono h⟩
theorem SayG.at_ (G : SayG P w K mg base C) {k : Nat} {Rs : List Rp} {R : Rp} (h : sayC C k Rs R) : ∃ x ps, sayNames[k]? = some x ∧ Good P w K mg base x 10 ps (pf (sayC C k)) := by
  match k, h with
  | 0, _ => exact ⟨_, _, rfl, G.same⟩
  | 1, _ => exact ⟨_, _, rfl, G.on_one_line⟩
  | 2, _ => exact ⟨_, _, rfl, G.parallel⟩
  | 3, _ => exact ⟨_, _, rfl, G.right⟩
  | 4, _ => exact ⟨_, _, rfl, G.equal⟩
  | 5, _ => exact ⟨_, _, rfl, G.so_many_times⟩
  | 6, _ => exact ⟨_, _, rfl, G.circle⟩
  | 7, _ => exact ⟨_, _, rfl, G.angles⟩
  | 8, _ => exact ⟨_, _, rfl, G.areas⟩
  | 9, _ => exact ⟨_, _, rfl, G.through⟩
  | 10, _ => exact ⟨_, _, rfl, G.middle⟩
  | 11, _ => exact ⟨_, _, rfl, G.touches⟩
  | 12, _ => exact ⟨_, _, rfl, G.alike⟩
  | k + 13, h => exact h.elim
theorem evp_say {σ : L2.St} {H : Hp} {ta : TA} {tf : TE} {a : Addr} {fs : List Addr} {k : Nat} {Rs : List Rp} {R : Rp} (G : SayG P w K mg base C) (hT : ∀ H, SqT K H a (fs.map V.ref)) (hf : ∀ (i : Nat) (x : Str), sayNames[i]? = some x → ∃ f, fs[i]? = some f ∧ mg x = some (.ref f)) (h : sayC C k Rs R) (hk : EvP tf σ H (rInt (k : Int))) (ha : EvPs ta σ H Rs) :
    EvP (tCallT P w K mg base 10 (tOp (rIxT K) (tC (.ref a)) tf) ta) σ H R := fun H1 e Q q => by
  obtain ⟨x, ps, hx, g⟩ := G.at_ h
  obtain ⟨f, hf1, hf2⟩ := hf k x hx
  obtain ⟨f', fd, g1, g2, g3, g4⟩ := g
  have ef : f' = f := Value.ref.inj (Option.some.inj (g1.symm.trans hf2))
  subst ef
  refine evp_wt hT hk hf1 H1 e _ fun v H2 e2 hv => ⟨f', fd, ps, _, hv, g2, g3, g4, ha H2 (e.trans e2) _ fun vs H3 e3 hvs => ⟨Rs, R, h, hvs, fun v' H4 e4 r => q v' H4 (e2.trans (e3.trans e4)) r⟩⟩
theorem sc_left : FnScope ["kind", "told"] ["kind", "told"] (defScope s_left) := ⟨rfl, rfl, rfl, by decide +kernel, rfl, by decide +kernel, by decide +kernel⟩
theorem good_left (d : Decl K mg "left" s_left) (S : SayT K mg) (G : SayG P w K mg base C) (ml : mg "len" = none) : Good P w K mg base "left" 11 ["kind", "told"] (pf (cLeft C)) := by
  refine d.good sc_left (fun _ _ _ _ _ _ us hl => match us, hl with | [_, _], _ => rfl) (pf_len fun _ _ c => by cases c; rfl) fun f cdv A outer s H vs Q E hr h => ?_
  obtain ⟨Rs, R, c, ha, q⟩ := h
  obtain ⟨aS, fs, mS, sS, iS⟩ := S
  cases c with
  | @mk k Rs _ hc =>
  obtain ⟨_, _, rfl, rfl, v1, _, rfl, h1, rfl⟩ := ha
  refine ⟨_, pss_cons (ps_if (pt_cmpR op_eq (pe_callB call_len_seq (by rfl) ml PySem.boot_len (pa_cons (pv 1) pa_nil)) pe_int (nomark _)) (pss_one (ps_ret (pe_callT (pe_ix ix_tup (pe_glob (v := .ref aS) rfl mS rfl) (pv 0) (fun _ _ => rfl)) hr (pa_cons (pe_ix ix_list (pv 1) pe_int (fun _ _ => rfl)) (pa_cons (pe_ix ix_list (pv 1) pe_int (fun _ _ => rfl)) pa_nil))))) pss_nil)
    (pss_cons (ps_if (pt_cmpR op_eq (pe_callB call_len_seq (by rfl) ml PySem.boot_len (pa_cons (pv 1) pa_nil)) pe_int (nomark _)) (pss_one (ps_ret (pe_callT (pe_ix ix_tup (pe_glob (v := .ref aS) rfl mS rfl) (pv 0) (fun _ _ => rfl)) hr (pa_cons (pe_ix ix_list (pv 1) pe_int (fun _ _ => rfl)) (pa_cons (pe_ix ix_list (pv 1) pe_int (fun _ _ => rfl)) (pa_cons (pe_ix ix_list (pv 1) pe_int (fun _ _ => rfl)) pa_nil)))))) pss_nil)
    (pss_cons (ps_if (pt_cmpR op_eq (pe_callB call_len_seq (by rfl) ml PySem.boot_len (pa_cons (pv 1) pa_nil)) pe_int (nomark _)) (pss_one (ps_ret (pe_callT (pe_ix ix_tup (pe_glob (v := .ref aS) rfl mS rfl) (pv 0) (fun _ _ => rfl)) hr (pa_cons (pe_ix ix_list (pv 1) pe_int (fun _ _ => rfl)) (pa_cons (pe_ix ix_list (pv 1) pe_int (fun _ _ => rfl)) (pa_cons (pe_ix ix_list (pv 1) pe_int (fun _ _ => rfl)) (pa_cons (pe_ix ix_list (pv 1) pe_int (fun _ _ => rfl)) pa_nil))))))) pss_nil)
    (pss_one (ps_ret (pe_callT (pe_ix ix_tup (pe_glob (v := .ref aS) rfl mS rfl) (pv 0) (fun _ _ => rfl)) hr (pa_cons (pe_ix ix_list (pv 1) pe_int (fun _ _ => rfl)) (pa_cons (pe_ix ix_list (pv 1) pe_int (fun _ _ => rfl)) (pa_cons (pe_ix ix_list (pv 1) pe_int (fun _ _ => rfl)) (pa_cons (pe_ix ix_list (pv 1) pe_int (fun _ _ => rfl)) (pa_cons (pe_ix ix_list (pv 1) pe_int (fun _ _ => rfl)) (pa_cons (pe_ix ix_list (pv 1) pe_int (fun _ _ => rfl)) pa_nil))))))))))), ?_⟩
  refine s_st (σ2 := [some (.int k), some v1]) rfl ?_
  have hl := sayC_len hc
  have step : ∀ (n : Nat) (H1 : Hp), Ex H H1 → EvT (tTest (tOp rEq (tCB (fun ys H Q => ∃ p zs, ys = [.ref p] ∧ (SqL K H p zs ∨ SqT K H p zs) ∧ Q (.int zs.length) H) (tCons (tVar 1) tNil)) (tC (.int (n : Int))))) [some (.int k), some v1] H1 (decide ((Rs.length : Int) = (n : Int))) := fun n H1 e1 => evt_eq (evp_lenL (evp_var (i := 1) rfl (Rp.stay _ e1 h1))) (evp_c rfl)
  refine s_ifR (step 2 H (Ex.refl _)) (fun z H1 e1 => ?_) fun z H1 e1 => ?_
  · have z := of_decide_eq_true z
    match Rs, (show Rs.length = 2 by omega), hc, h1 with
    | [R0, R1], _, hc, h1 =>
      have hv := Rp.stay _ e1 h1
      exact s_retP (evp_say G sS iS hc (evp_var (i := 0) rfl rfl) (evps_cons (evp_ixL (j := 0) (evp_var (i := 1) rfl hv) (evp_c rfl) rfl) (evps_cons (evp_ixL (j := 1) (evp_var (i := 1) rfl hv) (evp_c rfl) rfl) evps_nil))) fun v H' e r => q v H' (e1.trans e) r
  have z := of_decide_eq_false z
  refine s_ifR (step 3 H1 e1) (fun y H2 e2 => ?_) fun y H2 e2 => ?_
  · have y := of_decide_eq_true y
    match Rs, (show Rs.length = 3 by omega), hc, h1 with
    | [R0, R1, R2], _, hc, h1 =>
      have hv := Rp.stay _ (e1.trans e2) h1
      exact s_retP (evp_say G sS iS hc (evp_var (i := 0) rfl rfl) (evps_cons (evp_ixL (j := 0) (evp_var (i := 1) rfl hv) (evp_c rfl) rfl) (evps_cons (evp_ixL (j := 1) (evp_var (i := 1) rfl hv) (evp_c rfl) rfl) (evps_cons (evp_ixL (j := 2) (evp_var (i := 1) rfl hv) (evp_c rfl) rfl) evps_nil)))) fun v H' e r => q v H' ((e1.trans e2).trans e) r
  have y := of_decide_eq_false y
  refine s_ifR (step 4 H2 (e1.trans e2)) (fun x H3 e3 => ?_) fun x H3 e3 => ?_
  · have x := of_decide_eq_true x
    match Rs, (show Rs.length = 4 by omega), hc, h1 with
    | [R0, R1, R2, R3], _, hc, h1 =>
      have hv := Rp.stay _ ((e1.trans e2).trans e3) h1
      exact s_retP (evp_say G sS iS hc (evp_var (i := 0) rfl rfl) (evps_cons (evp_ixL (j := 0) (evp_var (i := 1) rfl hv) (evp_c rfl) rfl) (evps_cons (evp_ixL (j := 1) (evp_var (i := 1) rfl hv) (evp_c rfl) rfl) (evps_cons (evp_ixL (j := 2) (evp_var (i := 1) rfl hv) (evp_c rfl) rfl) (evps_cons (evp_ixL (j := 3) (evp_var (i := 1) rfl hv) (evp_c rfl) rfl) evps_nil))))) fun v H' e r => q v H' (((e1.trans e2).trans e3).trans e) r
  have x := of_decide_eq_false x
  have hl6 : Rs.length = 6 := by omega
  match Rs, hl6, hc, h1 with
  | [R0, R1, R2, R3, R4, R5], _, hc, h1 =>
    have hv := Rp.stay _ ((e1.trans e2).trans e3) h1
    exact s_retP (evp_say G sS iS hc (evp_var (i := 0) rfl rfl) (evps_cons (evp_ixL (j := 0) (evp_var (i := 1) rfl hv) (evp_c rfl) rfl) (evps_cons (evp_ixL (j := 1) (evp_var (i := 1) rfl hv) (evp_c rfl) rfl) (evps_cons (evp_ixL (j := 2) (evp_var (i := 1) rfl hv) (evp_c rfl) rfl) (evps_cons (evp_ixL (j := 3) (evp_var (i := 1) rfl hv) (evp_c rfl) rfl) (evps_cons (evp_ixL (j := 4) (evp_var (i := 1) rfl hv) (evp_c rfl) rfl) (evps_cons (evp_ixL (j := 5) (evp_var (i := 1) rfl hv) (evp_c rfl) rfl) evps_nil))))))) fun v H' e r => q v H' (((e1.trans e2).trans e3).trans e) r
end
end Ds
end
section
set_option Elab.async false
set_option linter.all false
set_option maxRecDepth 100000
set_option maxHeartbeats 1000000
namespace Ds
open Su PySem L2
open Kh374 (Tri Fig)
open Kh370 (Poly)
/-! ### What left is handed, and what it gives (its cases printed) -/
def leftD (ds : List PtD) (k : Nat) (l : List Nat) : List Raw := mSay dOps k ((Kh373.pointsIn k l).map fun i => (pd ds i).t) (l.getD 4 0 : Nat) (l.getD 5 0 : Nat)
def toldS (C : Addr) (ds : List PtD) (k : Nat) (l : List Nat) : List Rp := ((l.take (sayCnt k)).map fun i => rP C (pd ds i)) ++ ((l.drop (sayCnt k)).map fun n : Nat => rInt (n : Int))
theorem sayR0 (R : Nat → Nat) (i0 i1 : Nat) : Kh373.sayReach 0 ((Kh373.pointsIn 0 [i0, i1]).map R) = R i0 + R i1 + 0 + 0 + 0 + 0 := rfl
theorem sayR1 (R : Nat → Nat) (i0 i1 i2 : Nat) : Kh373.sayReach 1 ((Kh373.pointsIn 1 [i0, i1, i2]).map R) = R i0 + R i1 + R i2 + 0 + 0 + 0 := rfl
theorem sayR2 (R : Nat → Nat) (i0 i1 i2 i3 : Nat) : Kh373.sayReach 2 ((Kh373.pointsIn 2 [i0, i1, i2, i3]).map R) = R i0 + R i1 + R i2 + R i3 + 0 + 0 := rfl
theorem sayR3 (R : Nat → Nat) (i0 i1 i2 i3 : Nat) : Kh373.sayReach 3 ((Kh373.pointsIn 3 [i0, i1, i2, i3]).map R) = R i0 + R i1 + R i2 + R i3 + 0 + 0 := rfl
theorem sayR4 (R : Nat → Nat) (i0 i1 i2 i3 : Nat) : Kh373.sayReach 4 ((Kh373.pointsIn 4 [i0, i1, i2, i3]).map R) = 2 * (R i0 + R i1 + R i2 + R i3) := rfl
theorem sayR5 (R : Nat → Nat) (i0 i1 i2 i3 m n : Nat) : Kh373.sayReach 5 ((Kh373.pointsIn 5 [i0, i1, i2, i3, m, n]).map R) = 2 * (R i0 + R i1 + R i2 + R i3) := rfl
theorem sayR6 (R : Nat → Nat) (i0 i1 i2 i3 : Nat) : Kh373.sayReach 6 ((Kh373.pointsIn 6 [i0, i1, i2, i3]).map R) = 2 * (R i0 + R i1 + R i2 + R i3) := rfl
theorem sayR7 (R : Nat → Nat) (i0 i1 i2 i3 i4 i5 : Nat) : Kh373.sayReach 7 ((Kh373.pointsIn 7 [i0, i1, i2, i3, i4, i5]).map R) = R i0 + 2 * R i1 + R i2 + R i3 + 2 * R i4 + R i5 := rfl
theorem sayR8 (R : Nat → Nat) (i0 i1 i2 i3 i4 i5 : Nat) : Kh373.sayReach 8 ((Kh373.pointsIn 8 [i0, i1, i2, i3, i4, i5]).map R) = R i0 + R i1 + R i2 + R i3 + R i4 + R i5 := rfl
theorem sayR9 (R : Nat → Nat) (i0 i1 i2 i3 i4 i5 : Nat) : Kh373.sayReach 9 ((Kh373.pointsIn 9 [i0, i1, i2, i3, i4, i5]).map R) = R i0 + R i1 + R i2 + R i3 + R i4 + R i5 := rfl
theorem sayR10 (R : Nat → Nat) (i0 i1 i2 : Nat) : Kh373.sayReach 10 ((Kh373.pointsIn 10 [i0, i1, i2]).map R) = R i0 + R i1 + R i2 + 0 + 0 + 0 := rfl
theorem sayR11 (R : Nat → Nat) (i0 i1 i2 i3 : Nat) : Kh373.sayReach 11 ((Kh373.pointsIn 11 [i0, i1, i2, i3]).map R) = 2 * (R i0 + R i1 + R i2 + R i3) := rfl
theorem sayR12 (R : Nat → Nat) (i0 i1 i2 i3 i4 i5 : Nat) : Kh373.sayReach 12 ((Kh373.pointsIn 12 [i0, i1, i2, i3, i4, i5]).map R) = R i0 + R i1 + R i2 + R i3 + R i4 + R i5 := rfl
theorem say_c' {C : Addr} {a : Fig} {ds : List PtD} (gp : ∀ i, i < a.length → Gp (reachB a i) (heavyN a i) (pd ds i).t) (hv : ∀ i, heavyN a i ≤ 7990) : ∀ (k : Nat), k < 13 → ∀ (l : List Nat), l.length = sayCnt k + sayNum k → (∀ i ∈ Kh373.pointsIn k l, i < a.length) → (k = 5 → l.getD 4 0 ≤ 1000 ∧ l.getD 5 0 ≤ 1000) → Sm (sayB a k l) → sayC C k (toldS C ds k l) (rLst ((leftD ds k l).map rD))
  | 0, _, [i0, i1], _, hp, hm, hW => by
    have e : rLst ((leftD ds 0 [i0, i1]).map rD) = rLst [rD (mCross dOps (pd ds i0).t.x (pd ds i1).t.w (pd ds i1).t.x (pd ds i0).t.w), rD (mCross dOps (pd ds i0).t.y (pd ds i1).t.w (pd ds i1).t.y (pd ds i0).t.w)] := rfl
    rw [e]
    have bi0 := hv i0
    have bi1 := hv i1
    exact cSame.mk (gp i0 (hp i0 (by simp [Kh373.pointsIn, Kh372.pointsOf, Kh372.sizes]))) (gp i1 (hp i1 (by simp [Kh373.pointsIn, Kh372.pointsOf, Kh372.sizes]))) (sm_of hW fun x => by simp only [badd, reachB, sayB, sayR0]; omega) (by omega)
  | 1, _, [i0, i1, i2], _, hp, hm, hW => by
    have e : rLst ((leftD ds 1 [i0, i1, i2]).map rD) = rLst [rD (mArea dOps (pd ds i0).t (pd ds i1).t (pd ds i2).t)] := rfl
    rw [e]
    have bi0 := hv i0
    have bi1 := hv i1
    have bi2 := hv i2
    exact cOneLine.mk (gp i0 (hp i0 (by simp [Kh373.pointsIn, Kh372.pointsOf, Kh372.sizes]))) (gp i1 (hp i1 (by simp [Kh373.pointsIn, Kh372.pointsOf, Kh372.sizes]))) (gp i2 (hp i2 (by simp [Kh373.pointsIn, Kh372.pointsOf, Kh372.sizes]))) (sm_of hW fun x => by simp only [badd, reachB, sayB, sayR1]; omega) (by omega)
  | 2, _, [i0, i1, i2, i3], _, hp, hm, hW => by
    have e : rLst ((leftD ds 2 [i0, i1, i2, i3]).map rD) = rLst [rD (mCrossed dOps (mWay dOps (pd ds i0).t (pd ds i1).t) (mWay dOps (pd ds i2).t (pd ds i3).t))] := rfl
    rw [e]
    have bi0 := hv i0
    have bi1 := hv i1
    have bi2 := hv i2
    have bi3 := hv i3
    exact cParallel.mk (gp i0 (hp i0 (by simp [Kh373.pointsIn, Kh372.pointsOf, Kh372.sizes]))) (gp i1 (hp i1 (by simp [Kh373.pointsIn, Kh372.pointsOf, Kh372.sizes]))) (gp i2 (hp i2 (by simp [Kh373.pointsIn, Kh372.pointsOf, Kh372.sizes]))) (gp i3 (hp i3 (by simp [Kh373.pointsIn, Kh372.pointsOf, Kh372.sizes]))) (sm_of hW fun x => by simp only [badd, reachB, sayB, sayR2]; omega) (by omega)
  | 3, _, [i0, i1, i2, i3], _, hp, hm, hW => by
    have e : rLst ((leftD ds 3 [i0, i1, i2, i3]).map rD) = rLst [rD (mMatched dOps (mWay dOps (pd ds i0).t (pd ds i1).t) (mWay dOps (pd ds i2).t (pd ds i3).t))] := rfl
    rw [e]
    have bi0 := hv i0
    have bi1 := hv i1
    have bi2 := hv i2
    have bi3 := hv i3
    exact cRight.mk (gp i0 (hp i0 (by simp [Kh373.pointsIn, Kh372.pointsOf, Kh372.sizes]))) (gp i1 (hp i1 (by simp [Kh373.pointsIn, Kh372.pointsOf, Kh372.sizes]))) (gp i2 (hp i2 (by simp [Kh373.pointsIn, Kh372.pointsOf, Kh372.sizes]))) (gp i3 (hp i3 (by simp [Kh373.pointsIn, Kh372.pointsOf, Kh372.sizes]))) (sm_of hW fun x => by simp only [badd, reachB, sayB, sayR3]; omega) (by omega)
  | 4, _, [i0, i1, i2, i3], _, hp, hm, hW => by
    have e : rLst ((leftD ds 4 [i0, i1, i2, i3]).map rD) = rLst [rD (mMany dOps (pd ds i0).t (pd ds i1).t (pd ds i2).t (pd ds i3).t 1 1)] := rfl
    rw [e]
    have bi0 := hv i0
    have bi1 := hv i1
    have bi2 := hv i2
    have bi3 := hv i3
    exact cEqual.mk (gp i0 (hp i0 (by simp [Kh373.pointsIn, Kh372.pointsOf, Kh372.sizes]))) (gp i1 (hp i1 (by simp [Kh373.pointsIn, Kh372.pointsOf, Kh372.sizes]))) (gp i2 (hp i2 (by simp [Kh373.pointsIn, Kh372.pointsOf, Kh372.sizes]))) (gp i3 (hp i3 (by simp [Kh373.pointsIn, Kh372.pointsOf, Kh372.sizes]))) (sm_of hW fun x => by simp only [badd, reachB, sayB, sayR4]; omega) (by omega)
  | 5, _, [i0, i1, i2, i3, m, n], _, hp, hm, hW => by
    have e : rLst ((leftD ds 5 [i0, i1, i2, i3, m, n]).map rD) = rLst [rD (mMany dOps (pd ds i0).t (pd ds i1).t (pd ds i2).t (pd ds i3).t (m : Int) (n : Int))] := rfl
    rw [e]
    have bi0 := hv i0
    have bi1 := hv i1
    have bi2 := hv i2
    have bi3 := hv i3
    exact cMany.mk (gp i0 (hp i0 (by simp [Kh373.pointsIn, Kh372.pointsOf, Kh372.sizes]))) (gp i1 (hp i1 (by simp [Kh373.pointsIn, Kh372.pointsOf, Kh372.sizes]))) (gp i2 (hp i2 (by simp [Kh373.pointsIn, Kh372.pointsOf, Kh372.sizes]))) (gp i3 (hp i3 (by simp [Kh373.pointsIn, Kh372.pointsOf, Kh372.sizes]))) (by have := (hm rfl).1; simp only [List.getD_cons_succ, List.getD_cons_zero] at this; omega) (by have := (hm rfl).2; simp only [List.getD_cons_succ, List.getD_cons_zero] at this; omega) (sm_of hW fun x => by simp only [badd, reachB, sayB, sayR5]; omega) (by omega)
  | 6, _, [i0, i1, i2, i3], _, hp, hm, hW => by
    have e : rLst ((leftD ds 6 [i0, i1, i2, i3]).map rD) = rLst [rD (mCircle dOps (pd ds i0).t (pd ds i1).t (pd ds i2).t (pd ds i3).t)] := rfl
    rw [e]
    have bi0 := hv i0
    have bi1 := hv i1
    have bi2 := hv i2
    have bi3 := hv i3
    exact cCircle.mk (gp i0 (hp i0 (by simp [Kh373.pointsIn, Kh372.pointsOf, Kh372.sizes]))) (gp i1 (hp i1 (by simp [Kh373.pointsIn, Kh372.pointsOf, Kh372.sizes]))) (gp i2 (hp i2 (by simp [Kh373.pointsIn, Kh372.pointsOf, Kh372.sizes]))) (gp i3 (hp i3 (by simp [Kh373.pointsIn, Kh372.pointsOf, Kh372.sizes]))) (sm_of hW fun x => by simp only [badd, reachB, sayB, sayR6]; omega) (by omega)
  | 7, _, [i0, i1, i2, i3, i4, i5], _, hp, hm, hW => by
    have e : rLst ((leftD ds 7 [i0, i1, i2, i3, i4, i5]).map rD) = rLst [rD (mAngles dOps (pd ds i0).t (pd ds i1).t (pd ds i2).t (pd ds i3).t (pd ds i4).t (pd ds i5).t)] := rfl
    rw [e]
    have bi0 := hv i0
    have bi1 := hv i1
    have bi2 := hv i2
    have bi3 := hv i3
    have bi4 := hv i4
    have bi5 := hv i5
    exact cAngles.mk (gp i0 (hp i0 (by simp [Kh373.pointsIn, Kh372.pointsOf, Kh372.sizes]))) (gp i1 (hp i1 (by simp [Kh373.pointsIn, Kh372.pointsOf, Kh372.sizes]))) (gp i2 (hp i2 (by simp [Kh373.pointsIn, Kh372.pointsOf, Kh372.sizes]))) (gp i3 (hp i3 (by simp [Kh373.pointsIn, Kh372.pointsOf, Kh372.sizes]))) (gp i4 (hp i4 (by simp [Kh373.pointsIn, Kh372.pointsOf, Kh372.sizes]))) (gp i5 (hp i5 (by simp [Kh373.pointsIn, Kh372.pointsOf, Kh372.sizes]))) (sm_of hW fun x => by simp only [badd, reachB, sayB, sayR7]; omega) (by omega)
  | 8, _, [i0, i1, i2, i3, i4, i5], _, hp, hm, hW => by
    have e : rLst ((leftD ds 8 [i0, i1, i2, i3, i4, i5]).map rD) = rLst [rD (mAreas dOps (pd ds i0).t (pd ds i1).t (pd ds i2).t (pd ds i3).t (pd ds i4).t (pd ds i5).t)] := rfl
    rw [e]
    have bi0 := hv i0
    have bi1 := hv i1
    have bi2 := hv i2
    have bi3 := hv i3
    have bi4 := hv i4
    have bi5 := hv i5
    exact cAreas.mk (gp i0 (hp i0 (by simp [Kh373.pointsIn, Kh372.pointsOf, Kh372.sizes]))) (gp i1 (hp i1 (by simp [Kh373.pointsIn, Kh372.pointsOf, Kh372.sizes]))) (gp i2 (hp i2 (by simp [Kh373.pointsIn, Kh372.pointsOf, Kh372.sizes]))) (gp i3 (hp i3 (by simp [Kh373.pointsIn, Kh372.pointsOf, Kh372.sizes]))) (gp i4 (hp i4 (by simp [Kh373.pointsIn, Kh372.pointsOf, Kh372.sizes]))) (gp i5 (hp i5 (by simp [Kh373.pointsIn, Kh372.pointsOf, Kh372.sizes]))) (sm_of hW fun x => by simp only [badd, reachB, sayB, sayR8]; omega) (by omega)
  | 9, _, [i0, i1, i2, i3, i4, i5], _, hp, hm, hW => by
    have e : rLst ((leftD ds 9 [i0, i1, i2, i3, i4, i5]).map rD) = rLst [rD (mThrough dOps (pd ds i0).t (pd ds i1).t (pd ds i2).t (pd ds i3).t (pd ds i4).t (pd ds i5).t)] := rfl
    rw [e]
    have bi0 := hv i0
    have bi1 := hv i1
    have bi2 := hv i2
    have bi3 := hv i3
    have bi4 := hv i4
    have bi5 := hv i5
    exact cThrough.mk (gp i0 (hp i0 (by simp [Kh373.pointsIn, Kh372.pointsOf, Kh372.sizes]))) (gp i1 (hp i1 (by simp [Kh373.pointsIn, Kh372.pointsOf, Kh372.sizes]))) (gp i2 (hp i2 (by simp [Kh373.pointsIn, Kh372.pointsOf, Kh372.sizes]))) (gp i3 (hp i3 (by simp [Kh373.pointsIn, Kh372.pointsOf, Kh372.sizes]))) (gp i4 (hp i4 (by simp [Kh373.pointsIn, Kh372.pointsOf, Kh372.sizes]))) (gp i5 (hp i5 (by simp [Kh373.pointsIn, Kh372.pointsOf, Kh372.sizes]))) (sm_of hW fun x => by simp only [badd, reachB, sayB, sayR9]; omega) (by omega)
  | 10, _, [i0, i1, i2], _, hp, hm, hW => by
    have e : rLst ((leftD ds 10 [i0, i1, i2]).map rD) = rLst [rD (mMidX dOps (pd ds i0).t (pd ds i1).t (pd ds i2).t), rD (mMidY dOps (pd ds i0).t (pd ds i1).t (pd ds i2).t)] := rfl
    rw [e]
    have bi0 := hv i0
    have bi1 := hv i1
    have bi2 := hv i2
    exact cMiddle.mk (gp i0 (hp i0 (by simp [Kh373.pointsIn, Kh372.pointsOf, Kh372.sizes]))) (gp i1 (hp i1 (by simp [Kh373.pointsIn, Kh372.pointsOf, Kh372.sizes]))) (gp i2 (hp i2 (by simp [Kh373.pointsIn, Kh372.pointsOf, Kh372.sizes]))) (sm_of hW fun x => by simp only [badd, reachB, sayB, sayR10]; omega) (by omega)
  | 11, _, [i0, i1, i2, i3], _, hp, hm, hW => by
    have e : rLst ((leftD ds 11 [i0, i1, i2, i3]).map rD) = rLst [rD (mTouch dOps (pd ds i0).t (pd ds i1).t (pd ds i2).t (pd ds i3).t)] := rfl
    rw [e]
    have bi0 := hv i0
    have bi1 := hv i1
    have bi2 := hv i2
    have bi3 := hv i3
    exact cTouches.mk (gp i0 (hp i0 (by simp [Kh373.pointsIn, Kh372.pointsOf, Kh372.sizes]))) (gp i1 (hp i1 (by simp [Kh373.pointsIn, Kh372.pointsOf, Kh372.sizes]))) (gp i2 (hp i2 (by simp [Kh373.pointsIn, Kh372.pointsOf, Kh372.sizes]))) (gp i3 (hp i3 (by simp [Kh373.pointsIn, Kh372.pointsOf, Kh372.sizes]))) (sm_of hW fun x => by simp only [badd, reachB, sayB, sayR11]; omega) (by omega)
  | 12, _, [i0, i1, i2, i3, i4, i5], _, hp, hm, hW => by
    have e : rLst ((leftD ds 12 [i0, i1, i2, i3, i4, i5]).map rD) = rLst [rD (mAlikeX dOps (pd ds i0).t (pd ds i1).t (pd ds i2).t (pd ds i3).t (pd ds i4).t (pd ds i5).t), rD (mAlikeY dOps (pd ds i0).t (pd ds i1).t (pd ds i2).t (pd ds i3).t (pd ds i4).t (pd ds i5).t)] := rfl
    rw [e]
    have bi0 := hv i0
    have bi1 := hv i1
    have bi2 := hv i2
    have bi3 := hv i3
    have bi4 := hv i4
    have bi5 := hv i5
    exact cAlike.mk (gp i0 (hp i0 (by simp [Kh373.pointsIn, Kh372.pointsOf, Kh372.sizes]))) (gp i1 (hp i1 (by simp [Kh373.pointsIn, Kh372.pointsOf, Kh372.sizes]))) (gp i2 (hp i2 (by simp [Kh373.pointsIn, Kh372.pointsOf, Kh372.sizes]))) (gp i3 (hp i3 (by simp [Kh373.pointsIn, Kh372.pointsOf, Kh372.sizes]))) (gp i4 (hp i4 (by simp [Kh373.pointsIn, Kh372.pointsOf, Kh372.sizes]))) (gp i5 (hp i5 (by simp [Kh373.pointsIn, Kh372.pointsOf, Kh372.sizes]))) (sm_of hW fun x => by simp only [badd, reachB, sayB, sayR12]; omega) (by omega)
  | k + 13, hk, _, _, _, _, _ => absurd hk (by omega)
end Ds
end
section
set_option Elab.async false
set_option linter.all false
set_option maxRecDepth 100000
set_option maxHeartbeats 1000000
namespace Ds
open Su PySem L2
open Kh374 (Tri Fig)
open Kh370 (Poly)
theorem say_c {C : Addr} {a : Fig} {ds : List PtD} (ok : FigOk a) (h : FigR a ds) {k : Nat} {l : List Nat} (hk : k < 13) (hl : l.length = sayCnt k + sayNum k) (hp : ∀ i ∈ Kh373.pointsIn k l, i < a.length) (hm : k = 5 → l.getD 4 0 ≤ 1000 ∧ l.getD 5 0 ≤ 1000) (hw : Kh373.many (Kh373.gridOf a k l) ≤ 200) :
    sayC C k (toldS C ds k l) (rLst ((leftD ds k l).map rD)) :=
  say_c' (fun i hi => (srcs_at h hi).gp ok) (heavyN_le ok) k hk l hl hp hm (by
    unfold Sm
    rw [← gridOf_many ok.letters]
    exact hw)
theorem LR.of_map {A B D : Type} {R : A → D → Prop} {f : B → D} : ∀ {l : List A} {m : List B}, LR R l (m.map f) → LR (fun a b => R a (f b)) l m
  | _, [], h => by
    cases h
    exact .nil
  | _, b :: m, h => by
    cases h with
    | cons h1 h2 => exact .cons h1 (LR.of_map h2)
theorem LR.imp {A B : Type} {R S : A → B → Prop} : ∀ {l : List A} {m : List B}, LR R l m → (∀ a b, b ∈ m → R a b → S a b) → LR S l m
  | _, _, .nil, _ => .nil
  | _, _, .cons h1 h2, f => .cons (f _ _ List.mem_cons_self h1) (LR.imp h2 fun a b hb => f a b (List.mem_cons_of_mem _ hb))
theorem LR.len {A B : Type} {R : A → B → Prop} : ∀ {l : List A} {m : List B}, LR R l m → l.length = m.length
  | _, _, .nil => rfl
  | _, _, .cons _ h => by rw [List.length_cons, List.length_cons, LR.len h]
theorem LR.get {A B : Type} {R : A → B → Prop} : ∀ {l : List A} {m : List B}, LR R l m → ∀ {i : Nat} {b : B}, m[i]? = some b → ∃ a, l[i]? = some a ∧ R a b
  | _, _, .nil, i, b, h => by cases h
  | _, _, .cons h1 h2, 0, b, h => by
    have e := Option.some.inj h
    subst e
    exact ⟨_, rfl, h1⟩
  | _, _, .cons h1 h2, i + 1, b, h => by
    obtain ⟨a, ha, r⟩ := LR.get h2 (i := i) h
    exact ⟨a, ha, r⟩
theorem LR.mem_l {A B : Type} {R : A → B → Prop} : ∀ {l : List A} {m : List B}, LR R l m → ∀ a ∈ l, ∃ b ∈ m, R a b := fun h a ha => h.mem a ha
/-- **What the program leaves holds just what the document leaves.** -/
theorem left_is {a : Fig} {ds : List PtD} (ok : FigOk a) (h : FigR a ds) {k : Nat} {l : List Nat} (hp : ∀ i ∈ Kh373.pointsIn k l, i < a.length) (h4 : l.getD 4 0 ≤ 1000) (h5 : l.getD 5 0 ≤ 1000) (hw : Kh373.many (Kh373.gridOf a k l) ≤ 200) : LR Rep (leftD ds k l) (Kh374.left a k l) := by
  have r1 : LR RingD (leftD ds k l) (mSay ringOps k ((Kh373.pointsIn k l).map fun i => pcTri ((Kh374.points a).getD i (z3 Kh374.polys))) (l.getD 4 0 : Nat) (l.getD 5 0 : Nat)) := by
    refine mSay_rel ringD_rel k (fun i => ?_) _ _
    rw [List.getD_eq_getElem?_getD, List.getElem?_map, List.getD_eq_getElem?_getD, List.getElem?_map]
    cases e : (Kh373.pointsIn k l)[i]? with
    | none => exact ⟨ringD_rel.number 0, ringD_rel.number 0, ringD_rel.number 0⟩
    | some p =>
      have b := srcs_at h (hp p (List.mem_of_getElem? e))
      exact ⟨⟨b.dx, b.x⟩, ⟨b.dy, b.y⟩, ⟨b.dw, b.w⟩⟩
  rw [mSay_ring, ← left_ring ok] at r1
  refine LR.imp (LR.of_map r1) fun d p hpm ⟨hd, he⟩ => ?_
  have g := ok.left k l h4 h5 p hpm
  have hw2 := hw
  rw [gridOf_many ok.letters] at hw2
  exact ⟨⟨_, _, g, lt1000 hw2 (sayB_far ok.letters k l), hw2, Nat.le_refl _⟩, hd, left_rep ok h4 h5 hw hpm hd he⟩
/-- a point's sums -/
theorem PtR.reps {a : Fig} (ok : FigOk a) {i : Nat} {d : PtD} (p : PtR a i d) : Rep d.t.x ((Kh374.points a).getD i (z3 Kh374.polys)).x ∧ Rep d.t.y ((Kh374.points a).getD i (z3 Kh374.polys)).y ∧ Rep d.t.w ((Kh374.points a).getD i (z3 Kh374.polys)).w := by
  have b := ok.bound i
  have lt := lt1000 (ok.small i) (reachB_far ok.letters i)
  have hh := heavyN_le ok i
  obtain ⟨p1, p2, p3⟩ := p.rep ok
  exact ⟨⟨⟨_, _, b.x, lt, ok.small i, by omega⟩, p.dx, p1⟩, ⟨⟨_, _, b.y, lt, ok.small i, by omega⟩, p.dy, p2⟩, ⟨⟨_, _, b.w, lt, ok.small i, by omega⟩, p.dw, p3⟩⟩
/-- letters that the figure hasn't stand in no term that is left -/
theorem left_far {a : Fig} (ok : FigOk a) {k : Nat} {l : List Nat} (h4 : l.getD 4 0 ≤ 1000) (h5 : l.getD 5 0 ≤ 1000) {p : Poly} (hp : p ∈ Kh374.left a k l) : ∀ t ∈ p, ∀ i, Kh373.lettersOf a ≤ i → t.2.getD i 0 = 0 := fun t ht i hi => by
  have g := (ok.left k l h4 h5 p hp).d t ht i
  have z : sayB a k l i = 0 := sayReach_zero _ _ fun y hy => by
    obtain ⟨q, _, rfl⟩ := List.mem_map.mp hy
    exact reaches_zero hi q
  omega
end Ds
end
section
set_option Elab.async false
set_option linter.all false
set_option maxRecDepth 100000
set_option maxHeartbeats 1000000
namespace Ds
open PySem PySem.Spec PyProof.Rows L2 Su
open Evl (Ex EvT EvL)
open Kh374 (Tri Fig)
open Kh370 (Poly)
/-! ### More readings -/
section
variable {K : PySem.W.Frag} {σ : L2.St} {H : Hp} {te tf : TE} {ta : TA}
theorem evp_lstI {l : List Int} (h : EvPs ta σ H (l.map fun i => rInt i)) (hz : l.length ≤ 100) : EvP (tLst ta) σ H (rInts l) := fun H1 e Q q =>
  evp_lst h (by rw [List.length_map]; exact hz) H1 e Q fun v H2 e2 ⟨p, us, hv, hp, hus⟩ => q v H2 e2 ⟨p, hv, by rw [hp, all2_ints hus]⟩
theorem evp_one {i : Int} (h : EvP te σ H (rInt i)) : EvP (tLst (tCons te tNil)) σ H (rInts [i]) := evp_lstI (l := [i]) (evps_cons h evps_nil) (by decide : 1 ≤ 100)
theorem evp_cat {l m : List Int} (h1 : EvP te σ H (rInts l)) (h2 : EvP tf σ H (rInts m)) (hz : l.length + m.length ≤ 100000) : EvP (tOp rCat te tf) σ H (rInts (l ++ m)) := fun H1 e Q q =>
  h1 H1 e _ fun x H2 e2 ⟨p, hx, hp⟩ => h2 H2 (e.trans e2) _ fun y H3 e3 ⟨r, hy, hr⟩ => ⟨p, r, _, _, hx, hy, e3 _ _ hp, hr, by rw [List.length_map, List.length_map]; exact Evl.sz_of hz, fun z nz => q _ _ (e2.trans (e3.trans (Ex.new nz))) ⟨z, rfl, by rw [upd_same, List.map_append]⟩⟩
theorem evf_lstI {l : List Int} (h : EvPs ta σ H (l.map fun i => rInt i)) (hz : l.length ≤ 100) : EvF (tLst ta) σ H (rInts l) := fun H1 e Q q =>
  h H1 e _ fun vs H2 e2 rs => ⟨Nat.le_trans (by rw [rs.len, List.length_map]; exact hz) (by decide : 100 ≤ sizeLine), fun p np => q p _ (Evl.fresh_back e2 np) (e2.trans (Ex.new np)) ⟨p, rfl, by rw [upd_same, all2_ints rs]⟩⟩
theorem evf_one {i : Int} (h : EvP te σ H (rInt i)) : EvF (tLst (tCons te tNil)) σ H (rInts [i]) := evf_lstI (l := [i]) (evps_cons h evps_nil) (by decide : 1 ≤ 100)
theorem evf_cat {l m : List Int} (h1 : EvP te σ H (rInts l)) (h2 : EvP tf σ H (rInts m)) (hz : l.length + m.length ≤ 100000) : EvF (tOp rCat te tf) σ H (rInts (l ++ m)) := fun H1 e Q q =>
  h1 H1 e _ fun x H2 e2 ⟨p, hx, hp⟩ => h2 H2 (e.trans e2) _ fun y H3 e3 ⟨r, hy, hr⟩ => ⟨p, r, _, _, hx, hy, e3 _ _ hp, hr, by rw [List.length_map, List.length_map]; exact Evl.sz_of hz, fun z nz => q _ _ (Evl.fresh_back (e2.trans e3) nz) (e2.trans (e3.trans (Ex.new nz))) ⟨z, rfl, by rw [upd_same, List.map_append]⟩⟩
theorem evp_lenD {d : Raw} (h : EvP te σ H (rD d)) : EvP (tCB (fun xs H Q => ∃ a kvs, xs = [V.ref a] ∧ H a = some (.dK kvs) ∧ Q (.int kvs.length) H) (tCons te tNil)) σ H (rInt (d.length : Int)) := fun H1 e Q q =>
  h H1 e _ fun v H2 e2 ⟨p, hv, hp⟩ => ⟨p, _, by rw [hv], hp, q _ H2 e2 (by rw [ed_len]; rfl)⟩
theorem evt_gt {i j : Int} (h1 : EvP te σ H (rInt i)) (h2 : EvP tf σ H (rInt j)) : EvT (tTest (tOp (rI0 fun i j => .bl (decide (j < i))) te tf)) σ H (decide (j < i)) := evt_val (evp_rI0 h1 h2)
theorem evt_ge {i j : Int} (h1 : EvP te σ H (rInt i)) (h2 : EvP tf σ H (rInt j)) : EvT (tTest (tOp (rI0 fun i j => .bl (decide (j ≤ i))) te tf)) σ H (decide (j ≤ i)) := evt_val (evp_rI0 h1 h2)
theorem evt_le {i j : Int} (h1 : EvP te σ H (rInt i)) (h2 : EvP tf σ H (rInt j)) : EvT (tTest (tOp (rI0 fun i j => .bl (decide (i ≤ j))) te tf)) σ H (decide (i ≤ j)) := evt_val (evp_rI0 h1 h2)
theorem evt_B {b : Bool} (h : EvP te σ H (rV (.bl b))) : EvT (tB te) σ H b := fun H1 e Q q => h H1 e _ fun x H2 e2 hx => ⟨b, hx, q H2 e2⟩
variable {CC : Addr} {p : Int} {nums : List Int} {xs : List (List Int)} {b : Nat}
theorem evp_cnum (T : CallC K CC) (h : EvP te σ H (rCall CC p nums xs b)) : EvP (tFld K te "number") σ H (rInt p) := evp_fld T.cl T.nN h lkg_here
theorem evp_ctold (T : CallC K CC) (h : EvP te σ H (rCall CC p nums xs b)) : EvP (tFld K te "told") σ H (rInts nums) := evp_fld T.cl T.nT h ((lkg_past (by decide +kernel)).trans lkg_here)
theorem evp_crows (T : CallC K CC) (h : EvP te σ H (rCall CC p nums xs b)) : EvP (tFld K te "rows") σ H (rLst (xs.map rInts)) := evp_fld T.cl T.nR h ((lkg_past (by decide +kernel)).trans ((lkg_past (by decide +kernel)).trans lkg_here))
theorem evp_ixI {l : List Int} {j : Nat} {z : Int} (h1 : EvP te σ H (rInts l)) (h2 : EvP tf σ H (rInt (j : Int))) (hz : l[j]? = some z) : EvP (tOp (rIxL K) te tf) σ H (rInt z) := fun H1 e Q q =>
  h1 H1 e _ fun x H2 e2 ⟨a, hx, ha⟩ => h2 H2 (e.trans e2) _ fun y H3 e3 hy => ⟨a, _, j, .int z, hx, hy, .inl (.inl (e3 _ _ ha)), atI_nat (by rw [List.getElem?_map, hz]; rfl), q _ H3 (e2.trans e3) rfl⟩
end
/-! ### told_terms -/
def ansT (p : Poly) : List Int := (Kh374.terms p).ret :: (Kh374.terms p).out
inductive cTold : List Rp → Rp → Prop
  | mk {d : Raw} {p : Poly} : Rep d p → cTold [rD d] (rInts (ansT p))
theorem ansT_big {p : Poly} (h : Kh370.sized p = false) : ansT p = [-75] := by
  unfold ansT Kh374.terms
  rw [if_pos h]
  rfl
theorem ansT_ok {p : Poly} (h : Kh370.sized p = true) : ansT p = [(p.length : Int)] ++ Kh374.row p := by
  unfold ansT Kh374.terms
  rw [if_neg (by rw [h]; decide)]
  rfl
theorem row_len {p : Poly} (h : W4 p) : (Kh374.row p).length = p.length * 5 := by
  rw [row_is h]
  clear h
  induction p with
  | nil => rfl
  | cons t r ih =>
    rw [List.flatMap_cons, List.length_append, ih, List.length_cons]
    show 5 + _ = _
    omega
section
variable {P : Program} {w : World} {K : PySem.W.Frag} {mg : Str → Option Value} {base : Heap} {CF C CC : Addr}
theorem sc_told_terms : FnScope ["f"] ["f"] (defScope s_told_terms) := ⟨rfl, rfl, rfl, by decide +kernel, rfl, by decide +kernel, by decide +kernel⟩
theorem good_told_terms (d : Decl K mg "told_terms" s_told_terms) (iT : IntC mg "MOST_TOLD" 1000000000000000) (iM : IntC mg "TOO_MUCH" (-75)) (ml : mg "len" = none) (g_most_in : Good P w K mg base "most_in" 1 ["f"] (pf cMost)) (g_flat_terms : Good P w K mg base "flat_terms" 3 ["f"] (pf cFlat)) : Good P w K mg base "told_terms" 4 ["f"] (pfF cTold) := by
  refine d.good sc_told_terms (fun _ _ _ _ _ _ us hl => match us, hl with | [_], _ => rfl) (pfF_len fun _ _ c => by cases c; rfl) fun f cdv A outer s H vs Q E hr h => ?_
  obtain ⟨Rs, R, c, ha, q⟩ := h
  cases c with
  | @mk d p hR =>
  obtain ⟨v0, _, rfl, h0, rfl⟩ := ha
  refine ⟨_, pss_cons (ps_if (pt_cmpR op_gt (pe_g g_most_in (hr.mono (by decide)) (by rfl) (pa_cons (pv 0) pa_nil)) (pe_ic iT (by rfl)) (nomark _)) (pss_one (ps_ret (pe_lst (pa_cons (pe_ic iM (by rfl)) pa_nil)))) pss_nil)
    (pss_one (ps_ret (pe_op op_cat (pe_lst (pa_cons (pe_callB call_lenD (by rfl) ml PySem.boot_len (pa_cons (pv 0) pa_nil)) pa_nil)) (pe_g g_flat_terms hr (by rfl) (pa_cons (pv 0) pa_nil))))), ?_⟩
  refine s_st (σ2 := [some v0]) rfl ?_
  refine s_ifR (evt_gt (evp_call (E := E0) (evps_cons (evp_var rfl h0) evps_nil) (cMost.mk hR)) (evp_c rfl)) (fun z H1 e1 => ?_) fun z H1 e1 => ?_
  · rw [hR.sized] at z
    have hs : Kh370.sized p = false := by simpa using z
    refine s_retF e1 (evf_one (evp_c rfl)) fun v H' nn e hv => q v H' nn e ?_
    rw [ansT_big hs]
    exact hv
  · rw [hR.sized] at z
    have hs : Kh370.sized p = true := by simpa using z
    have h01 := Rp.stay _ e1 h0
    have := hR.short
    have hl := hR.len
    refine s_retF e1 (evf_cat (evp_one (evp_lenD (evp_var rfl h01))) (evp_call (E := E0) (evps_cons (evp_var rfl h01) evps_nil) (cFlat.mk hR)) (by rw [row_len hR.w4]; show 1 + _ ≤ _; omega)) fun v H' nn e hv => q v H' nn e ?_
    rw [ansT_ok hs, ← hl]
    exact hv
/-! ### numbers -/
def ans3 (x y w : Poly) (i : Nat) : List Int := match [x, y, w][i]? with
  | none => [-22]
  | some q => ansT q
inductive cNums (C : Addr) : List Rp → Rp → Prop
  | mk {d : PtD} {x y w : Poly} {i : Nat} : Rep d.t.x x → Rep d.t.y y → Rep d.t.w w → cNums C [rP C d, rInt i] (rInts (ans3 x y w i))
theorem sc_numbers : FnScope ["point", "i"] ["point", "i"] (defScope s_numbers) := ⟨rfl, rfl, rfl, by decide +kernel, rfl, by decide +kernel, by decide +kernel⟩
theorem good_numbers (d : Decl K mg "numbers" s_numbers) (T : PtC K C) (iD : IntC mg "DOES_NOT_FIT" (-22)) (g_told_terms : Good P w K mg base "told_terms" 4 ["f"] (pfF cTold)) : Good P w K mg base "numbers" 5 ["point", "i"] (pfF (cNums C)) := by
  refine d.good sc_numbers (fun _ _ _ _ _ _ us hl => match us, hl with | [_, _], _ => rfl) (pfF_len fun _ _ c => by cases c; rfl) fun f cdv A outer s H vs Q E hr h => ?_
  obtain ⟨Rs, R, c, ha, q⟩ := h
  cases c with
  | @mk d x y w i hx hy hw =>
  obtain ⟨v0, _, rfl, h0, _, _, rfl, rfl, rfl⟩ := ha
  refine ⟨_, pss_cons (ps_if (pt_cmpR op_gt (pv 1) pe_int (nomark _)) (pss_one (ps_ret (pe_lst (pa_cons (pe_ic iD (by rfl)) pa_nil)))) pss_nil)
    (pss_one (ps_ret (pe_g g_told_terms hr (by rfl) (pa_cons (pe_ix ix_tup (pe_tup (pa_cons (pe_fld (pv 0) rfl) (pa_cons (pe_fld (pv 0) rfl) (pa_cons (pe_fld (pv 0) rfl) pa_nil)))) (pv 1) (fun _ _ => rfl)) pa_nil)))), ?_⟩
  refine s_st (σ2 := [some v0, some (.int i)]) rfl ?_
  refine s_ifR (evt_gt (evp_var (i := 1) rfl rfl) (evp_c rfl)) (fun z H1 e1 => ?_) fun z H1 e1 => ?_
  · have z := of_decide_eq_true z
    refine s_retF e1 (evf_one (evp_c rfl)) fun v H' nn e hv => q v H' nn e ?_
    have e3 : ans3 x y w i = [-22] := by
      unfold ans3
      rw [List.getElem?_eq_none (by show 3 ≤ i; omega)]
    rw [e3]
    exact hv
  · have z := of_decide_eq_false z
    have h01 := Rp.stay _ e1 h0
    have ep : EvP (tVar 0) [some v0, some (.int i)] H1 (rP C d) := evp_var rfl h01
    have et : EvP (tTup (tCons (tFld K (tVar 0) "x") (tCons (tFld K (tVar 0) "y") (tCons (tFld K (tVar 0) "w") tNil)))) [some v0, some (.int i)] H1 (rTup [rD d.t.x, rD d.t.y, rD d.t.w]) := evp_tup (evps_cons (evp_x T.cl T.nX ep) (evps_cons (evp_y T.cl T.nY ep) (evps_cons (evp_w T.cl T.nW ep) evps_nil))) (by show 3 ≤ 100; decide)
    match i, (show i < 3 by omega), et with
    | 0, _, et => exact s_retF e1 (evf_call (E := E0) (evps_cons (evp_ixT (j := 0) et (evp_var (i := 1) rfl rfl) rfl) evps_nil) (cTold.mk hx)) fun v H' nn e hv => q v H' nn e hv
    | 1, _, et => exact s_retF e1 (evf_call (E := E0) (evps_cons (evp_ixT (j := 1) et (evp_var (i := 1) rfl rfl) rfl) evps_nil) (cTold.mk hy)) fun v H' nn e hv => q v H' nn e hv
    | 2, _, et => exact s_retF e1 (evf_call (E := E0) (evps_cons (evp_ixT (j := 2) et (evp_var (i := 1) rfl rfl) rfl) evps_nil) (cTold.mk hw)) fun v H' nn e hv => q v H' nn e hv
/-! ### degree -/
inductive cDeg (CF C : Addr) : List Rp → Rp → Prop
  | mk {bg : Bool} {ds : List PtD} {L : Nat} {d : PtD} {x y w : Poly} {i : Nat} : L ≤ 4 → Rep d.t.x x → Rep d.t.y y → Rep d.t.w w → cDeg CF C [rFig CF C bg ds L, rP C d, rInt i] (rInts [if L ≤ i then -2 else (Kh374.degree [x, y, w] i : Int)])
theorem rFig_lk {C : Addr} {bg : Bool} {ds : List PtD} {L : Nat} {m : Str} (h1 : (m == ("begun" : Str)) = false := by decide +kernel) (h2 : (m == ("points" : Str)) = false := by decide +kernel) (h3 : (m == ("letters" : Str)) = false := by decide +kernel) : List.lookup m [("begun", rV (.bl bg)), ("points", rLst (ds.map (rP C))), ("letters", rInt (L : Int))] = none := by
  simp only [List.lookup, h1, h2, h3]
theorem evp_hasLet {σ : L2.St} {H : Hp} {te : TE} {ta : TE} {bg : Bool} {ds : List PtD} {L : Nat} {i : Int} (h : EvP te σ H (rFig CF C bg ds L)) (hi : EvP ta σ H (rInt i)) : EvP (tMeth CF "has_letter" (pf (cHasLet CF C)) [] E0 te (tCons ta tNil)) σ H (rV (.bl (decide (0 ≤ i) && decide (i < L)))) := evp_meth h rFig_lk (evps_cons hi evps_nil) (cHasLet.mk bg ds L i)
theorem evp_hasPt {σ : L2.St} {H : Hp} {te : TE} {ta : TE} {bg : Bool} {ds : List PtD} {L : Nat} {i : Int} (h : EvP te σ H (rFig CF C bg ds L)) (hi : EvP ta σ H (rInt i)) : EvP (tMeth CF "has_point" (pf (cHasPt CF C)) [] E0 te (tCons ta tNil)) σ H (rV (.bl (decide (0 ≤ i) && decide (i < ds.length)))) := evp_meth h rFig_lk (evps_cons hi evps_nil) (cHasPt.mk bg ds L i)
theorem sc_degree : FnScope ["figure", "point", "index", "f"] ["figure", "point", "index"] (defScope s_degree) := ⟨rfl, rfl, rfl, by decide +kernel, rfl, by decide +kernel, by decide +kernel⟩
theorem good_degree (d : Decl K mg "degree" s_degree) (TF : FigC K CF) (T : PtC K C) (iN : IntC mg "NOT_THERE" (-2)) (mm : mg "max" = none) (g_has_letter : GoodM P w K mg base CF "has_letter" 1 ["self", "index"] (pf (cHasLet CF C))) (g_power_of : Good P w K mg base "power_of" 2 ["f", "index"] (pf cPowOf)) : Good P w K mg base "degree" 3 ["figure", "point", "index"] (pfF (cDeg CF C)) := by
  refine d.good sc_degree (fun _ _ _ _ _ _ us hl => match us, hl with | [_, _, _], _ => rfl) (pfF_len fun _ _ c => by cases c; rfl) fun f cdv A outer s H vs Q E hr h => ?_
  obtain ⟨Rs, R, c, ha, q⟩ := h
  cases c with
  | @mk bg ds L d x y w i hL hx hy hw =>
  obtain ⟨v0, _, rfl, h0, v1, _, rfl, h1, _, _, rfl, rfl, rfl⟩ := ha
  refine ⟨_, pss_cons (ps_if (pt_not (pt_val (pe_gm g_has_letter TF.cl (hr.mono (by decide)) (pv 0) (pa_cons (pv 2) pa_nil)))) (pss_one (ps_ret (pe_lst (pa_cons (pe_ic iN (by rfl)) pa_nil)))) pss_nil)
    (pss_one (ps_ret (pe_lst (pa_cons (pe_callB (cr_max rfl) (by rfl) mm (by decide +kernel) (pa_cons (pe_lc (own := [("f", 3)]) (g := gName 3) (by rfl) sc_degree.nd (pi_tup (pe_tup (pa_cons (pe_fld (pv 1) rfl) (pa_cons (pe_fld (pv 1) rfl) (pa_cons (pe_fld (pv 1) rfl) pa_nil)))))
      (blkOk_by (own := [("f", 3)]) (N := ["figure", "point", "index", "f"]) (sc := defScope s_degree) (by decide +kernel)) (fun _ _ _ _ _ => pg_name (i := 3) sc_degree.nd rfl (Or.inl rfl)) (fun _ _ _ _ _ => pts_nil) (fun _ _ _ _ _ => pe_g g_power_of hr (by rfl) (pa_cons (pv 3) (pa_cons (pv 2) pa_nil)))) pa_nil)) pa_nil)))), ?_⟩
  refine s_st (σ2 := [some v0, some v1, some (.int i), none]) rfl ?_
  refine s_ifR (Evl.et_not (evt_B (evp_hasLet (evp_var (i := 0) rfl h0) (evp_var (i := 2) rfl rfl)))) (fun z H1 e1 => ?_) fun z H1 e1 => ?_
  · have hi : L ≤ i := Nat.le_of_not_lt fun hlt => by
      rw [decide_eq_true (show (0 : Int) ≤ (i : Int) by omega), decide_eq_true (show (i : Int) < (L : Int) by omega)] at z
      cases z
    refine s_retF e1 (evf_one (evp_c rfl)) fun v H' nn e hv => q v H' nn e ?_
    rw [if_pos hi]
    exact hv
  · have hi : i < L := by
      have h2 : (decide ((0 : Int) ≤ (i : Int)) && decide ((i : Int) < (L : Int))) = true := by simpa using z
      rw [Bool.and_eq_true, decide_eq_true_eq, decide_eq_true_eq] at h2
      omega
    have h11 := Rp.stay _ e1 h1
    obtain ⟨p0, dx0, fs0, rfl, hp0, w0, _, rfl, _, w1, _, rfl, _, w2, _, rfl, r2, w3, _, rfl, r3, w4, _, rfl, r4, _⟩ := id h11
    have ep : ∀ H2, Ex H1 H2 → EvP (tVar 1) [some v0, some (.ref p0), some (.int i), none] H2 (rP C d) := fun H2 e2 => evp_var rfl (Rp.stay _ e2 h11)
    -- the three sums
    have et : EvSt (tTup (tCons (tFld K (tVar 1) "x") (tCons (tFld K (tVar 1) "y") (tCons (tFld K (tVar 1) "w") tNil)))) [some v0, some (.ref p0), some (.int i), none] H1 ([(w2, x), (w3, y), (w4, w)].map fun t : V × Poly => t.1) := fun H2 e2 Q q => by
      refine ⟨_, rfl, p0, C, dx0, _, w2, rfl, e2 _ _ hp0, T.cl, T.nX, (lkg_past (by decide +kernel)).trans ((lkg_past (by decide +kernel)).trans lkg_here), _, rfl, p0, C, dx0, _, w3, rfl, e2 _ _ hp0, T.cl, T.nY, (lkg_past (by decide +kernel)).trans ((lkg_past (by decide +kernel)).trans ((lkg_past (by decide +kernel)).trans lkg_here)), _, rfl, p0, C, dx0, _, w4, rfl, e2 _ _ hp0, T.cl, T.nW, (lkg_past (by decide +kernel)).trans ((lkg_past (by decide +kernel)).trans ((lkg_past (by decide +kernel)).trans ((lkg_past (by decide +kernel)).trans lkg_here))), by show 3 ≤ sizeLine; decide, fun t nt => q t _ (Ex.new nt) upd_same⟩
    have lc := evp_lcT (K := K) (σ := [some v0, some (.ref p0), some (.int i), none]) (H := H1) (l := [(w2, x), (w3, y), (w4, w)]) (g := fun t => t.1) (j := 3) (vs := [3]) (te := tCall (pf cPowOf) [] E0 (tCons (tVar 3) (tCons (tVar 2) tNil))) (fun t => rInt (Kh370.degree t.2 i : Int)) et (by decide : 3 ≤ 1000) (fun _ => rfl) (fun t ht H2 e2 => by
      have hr2 : (∃ dd : Raw, (rD dd).is t.1 H1 ∧ Rep dd t.2) := by
        simp only [List.mem_cons, List.not_mem_nil, or_false] at ht
        rcases ht with rfl | rfl | rfl
        · exact ⟨_, r2, hx⟩
        · exact ⟨_, r3, hy⟩
        · exact ⟨_, r4, hw⟩
      obtain ⟨dd, hd1, hd2⟩ := hr2
      exact evp_call (evps_cons (evp_var (i := 3) rfl (Rp.stay _ e2 hd1)) (evps_cons (evp_var (i := 2) rfl rfl) evps_nil)) (cPowOf.mk hd2 (by omega))) (fun _ _ => apart_v _)
    have em : ([(w2, x), (w3, y), (w4, w)].map fun t : V × Poly => rInt (Kh370.degree t.2 i : Int)) = [(Kh370.degree x i : Int), (Kh370.degree y i : Int), (Kh370.degree w i : Int)].map fun i => rInt i := rfl
    rw [em] at lc
    refine s_retF e1 (evf_one (evp_max lc (by show 0 < 3; decide) (fun x hx => by
      simp only [List.mem_cons, List.not_mem_nil, or_false] at hx
      rcases hx with rfl | rfl | rfl <;> omega))) fun v H' nn e hv => q v H' nn e ?_
    rw [if_neg (by omega)]
    have e4 : [(Kh370.degree x i : Int), (Kh370.degree y i : Int), (Kh370.degree w i : Int)].foldl max 0 = (Kh374.degree [x, y, w] i : Int) := fmax_nat (fun q : Poly => Kh370.degree q i) [x, y, w] 0
    rw [e4] at hv
    exact hv
/-! ### common -/
inductive cCom (C : Addr) : List Rp → Rp → Prop
  | mk {d : PtD} {x y w : Poly} : Rep d.t.x x → Rep d.t.y y → Rep d.t.w w → cCom C [rP C d] (rInts [if (1000000000000000 : Int) < (Kh374.common [x, y, w] : Int) then -75 else (Kh374.common [x, y, w] : Int)])
theorem sc_common : FnScope ["point", "greatest"] ["point"] (defScope s_common) := ⟨rfl, rfl, rfl, by decide +kernel, rfl, by decide +kernel, by decide +kernel⟩
theorem good_common (d : Decl K mg "common" s_common) (T : PtC K C) (iT : IntC mg "MOST_TOLD" 1000000000000000) (iM : IntC mg "TOO_MUCH" (-75)) (g_common_in : Good P w K mg base "common_in" 2 ["sums"] (pf cComIn)) : Good P w K mg base "common" 3 ["point"] (pfF (cCom C)) := by
  refine d.good sc_common (fun _ _ _ _ _ _ us hl => match us, hl with | [_], _ => rfl) (pfF_len fun _ _ c => by cases c; rfl) fun f cdv A outer s H vs Q E hr h => ?_
  obtain ⟨Rs, R, c, ha, q⟩ := h
  cases c with
  | @mk d x y w hx hy hw =>
  obtain ⟨v0, _, rfl, h0, rfl⟩ := ha
  refine ⟨_, pss_cons (ps_set (i := 1) sc_common.nd rfl (.inl rfl) (pe_g g_common_in hr (by rfl) (pa_cons (pe_tup (pa_cons (pe_fld (pv 0) rfl) (pa_cons (pe_fld (pv 0) rfl) (pa_cons (pe_fld (pv 0) rfl) pa_nil)))) pa_nil)))
    (pss_cons (ps_if (pt_cmpR op_gt (pv 1) (pe_ic iT (by rfl)) (nomark _)) (pss_one (ps_ret (pe_lst (pa_cons (pe_ic iM (by rfl)) pa_nil)))) pss_nil)
    (pss_one (ps_ret (pe_lst (pa_cons (pv 1) pa_nil))))), ?_⟩
  refine s_st (σ2 := [some v0, none]) rfl ?_
  have ep : EvP (tVar 0) [some v0, none] H (rP C d) := evp_var rfl h0
  refine s_set (σ2 := fun v => [some v0, some v]) (fun _ => rfl) (evp_call (E := E0) (evps_cons (evp_tup (evps_cons (evp_x T.cl T.nX ep) (evps_cons (evp_y T.cl T.nY ep) (evps_cons (evp_w T.cl T.nW ep) evps_nil))) (by show 3 ≤ 100; decide)) evps_nil) (cComIn.mk hx hy hw)) fun v H1 e1 hv => ?_
  have hv : v = .int (Kh374.common [x, y, w] : Int) := hv
  subst hv
  refine s_ifR (evt_gt (evp_var (i := 1) rfl rfl) (evp_c rfl)) (fun z H2 e2 => ?_) fun z H2 e2 => ?_
  · refine s_retF (e1.trans e2) (evf_one (evp_c rfl)) fun v H' nn e hv => q v H' nn e ?_
    rw [if_pos (of_decide_eq_true z)]
    exact hv
  · refine s_retF (e1.trans e2) (evf_one (evp_var (i := 1) rfl rfl)) fun v H' nn e hv => q v H' nn e ?_
    rw [if_neg (of_decide_eq_false z)]
    exact hv
end
end Ds
end
section
set_option Elab.async false
set_option linter.all false
set_option maxRecDepth 100000
set_option maxHeartbeats 1000000
namespace Ds
open PySem PySem.Spec PyProof.Rows L2 Su
open Evl (Ex EvT EvL)
open Kh374 (Tri Fig)
open Kh370 (Poly)
/-- what is answered of a call on the figure a -/
def ansC (a : Fig) (p : Nat) (nums : List Int) (xs : List (List Int)) : List Int := (Kh374.does a (Kh374Neutral.callOf1 (((p : Int) :: nums) :: xs))).2.ret :: (Kh374.does a (Kh374Neutral.callOf1 (((p : Int) :: nums) :: xs))).2.out
def ansOf (r : Kh374.Ans) : List Int := r.ret :: r.out
theorem pts_at {a : Fig} {i : Nat} (h : i < a.length) : (Kh374.points a)[i]? = some ((Kh374.points a).getD i (z3 Kh374.polys)) := by
  have hl : i < (Kh374.points a).length := by rw [points_len]; exact h
  rw [List.getD_eq_getElem?_getD, List.getElem?_eq_getElem hl]
  rfl
theorem pts_no {a : Fig} {i : Nat} (h : ¬ i < a.length) : (Kh374.points a)[i]? = none := List.getElem?_eq_none (by rw [points_len]; omega)
theorem ofPt_at {a : Fig} {i : Nat} (h : i < a.length) (f : Tri Poly → Kh374.Ans) : Kh374.ofPoint a i f = f ((Kh374.points a).getD i (z3 Kh374.polys)) := by
  unfold Kh374.ofPoint
  rw [pts_at h]
theorem ofPt_no {a : Fig} {i : Nat} (h : ¬ i < a.length) (f : Tri Poly → Kh374.Ans) : Kh374.ofPoint a i f = Kh374.say (-2) := by
  unfold Kh374.ofPoint
  rw [pts_no h]
theorem ans15 (a : Fig) (xs : List (List Int)) : ansC a 15 [] xs = [(a.length : Int), (Kh373.lettersOf a : Int)] := rfl
theorem ans16 (a : Fig) (x : Int) (xs : List (List Int)) : ansC a 16 [x] xs = ansOf (match a[x.toNat]? with
    | none => Kh374.say (-2)
    | some s => ⟨Kh371.kind s, Kh371.numbers s⟩) := rfl
theorem ans17 (a : Fig) (x y : Int) (xs : List (List Int)) : ansC a 17 [x, y] xs = ansOf (Kh374.ofPoint a x.toNat fun t => match (Kh374.three t)[y.toNat]? with
    | none => Kh374.say (-22)
    | some q => Kh374.terms q) := rfl
theorem ans18 (a : Fig) (x y : Int) (xs : List (List Int)) : ansC a 18 [x, y] xs = ansOf (Kh374.ofPoint a x.toNat fun t => if Kh373.lettersOf a ≤ y.toNat then Kh374.say (-2) else Kh374.say (Kh374.degree (Kh374.three t) y.toNat)) := rfl
theorem ans19 (a : Fig) (x : Int) (xs : List (List Int)) : ansC a 19 [x] xs = ansOf (Kh374.ofPoint a x.toNat fun t => if Kh370.SIZE < (Kh374.common (Kh374.three t) : Nat) then Kh374.say (-75) else Kh374.say (Kh374.common (Kh374.three t))) := rfl
theorem look_none {a : Fig} {p n : Nat} {r : List Int} {xs : List (List Int)} (h16 : 16 ≤ p) (h19 : p ≤ 19) (hnn : ((n : Int) :: r).length = (wholeL.getD p 0).toNat) (hlt : ¬ n < a.length) : ansC a p ((n : Int) :: r) xs = [-2] := by
  have hp : p = 16 ∨ p = 17 ∨ p = 18 ∨ p = 19 := by omega
  rcases hp with rfl | rfl | rfl | rfl
  · match r, hnn with
    | [], _ =>
      rw [ans16, List.getElem?_eq_none (by rw [Int.toNat_natCast]; omega)]
      rfl
  · match r, hnn with
    | [y], _ =>
      rw [ans17, Int.toNat_natCast, ofPt_no hlt]
      rfl
  · match r, hnn with
    | [y], _ =>
      rw [ans18, Int.toNat_natCast, ofPt_no hlt]
      rfl
  · match r, hnn with
    | [], _ =>
      rw [ans19, Int.toNat_natCast, ofPt_no hlt]
      rfl
inductive cLook (CF C CC : Addr) : List Rp → Rp → Prop
  | mk {a : Fig} {ds : List PtD} {p : Nat} {nums : List Int} {xs : List (List Int)} {b : Nat} : FigOk a → FigR a ds → 15 ≤ p → p ≤ 19 → (nums.length : Int) = wholeL.getD p 0 → (∀ x ∈ nums, 0 ≤ x) → cLook CF C CC [rFig CF C true ds (Kh373.lettersOf a), rCall CC p nums xs b] (rInts (ansC a p nums xs))
section
variable {P : Program} {w : World} {K : PySem.W.Frag} {mg : Str → Option Value} {base : Heap} {CF C CC : Addr}
theorem sc_looked_at : FnScope ["figure", "call", "point"] ["figure", "call"] (defScope s_looked_at) := ⟨rfl, rfl, rfl, by decide +kernel, rfl, by decide +kernel, by decide +kernel⟩
theorem good_looked_at (d : Decl K mg "looked_at" s_looked_at) (TF : FigC K CF) (T : LimC K C) (nK : NoAttr K C "kind") (nT : NoAttr K C "told") (TC : CallC K CC) (ml : mg "len" = none) (iP : IntC mg "POINTS" 15) (iS : IntC mg "STEP" 16) (iNu : IntC mg "NUMBERS" 17) (iDe : IntC mg "DEGREE" 18) (iN : IntC mg "NOT_THERE" (-2))
    (g_has_point : GoodM P w K mg base CF "has_point" 1 ["self", "p"] (pf (cHasPt CF C))) (g_numbers : Good P w K mg base "numbers" 5 ["point", "i"] (pfF (cNums C))) (g_degree : Good P w K mg base "degree" 3 ["figure", "point", "index"] (pfF (cDeg CF C))) (g_common : Good P w K mg base "common" 3 ["point"] (pfF (cCom C))) :
    Good P w K mg base "looked_at" 6 ["figure", "call"] (pfF (cLook CF C CC)) := by
  refine d.good sc_looked_at (fun _ _ _ _ _ _ us hl => match us, hl with | [_, _], _ => rfl) (pfF_len fun _ _ c => by cases c; rfl) fun f cdv A outer s H vs Q E hr h => ?_
  obtain ⟨Rs, R, c, ha, q⟩ := h
  cases c with
  | @mk a ds p nums xs b ok hF hp1 hp2 hn h0n =>
  obtain ⟨v0, _, rfl, h0, v1, _, rfl, h1, rfl⟩ := ha
  refine ⟨_, pss_cons (ps_if (pt_cmpR op_eq (pe_fld (pv 1) rfl) (pe_ic iP (by rfl)) (nomark _)) (pss_one (ps_ret (pe_lst (pa_cons (pe_callB call_len_seq (by rfl) ml PySem.boot_len (pa_cons (pe_fld (pv 0) rfl) pa_nil)) (pa_cons (pe_fld (pv 0) rfl) pa_nil))))) pss_nil)
    (pss_cons (ps_if (pt_not (pt_val (pe_gm g_has_point TF.cl (hr.mono (by decide)) (pv 0) (pa_cons (pe_ix ix_list (pe_fld (pv 1) rfl) pe_int (fun _ _ => rfl)) pa_nil)))) (pss_one (ps_ret (pe_lst (pa_cons (pe_ic iN (by rfl)) pa_nil)))) pss_nil)
    (pss_cons (ps_set (i := 2) sc_looked_at.nd rfl (.inl rfl) (pe_ix ix_list (pe_fld (pv 0) rfl) (pe_ix ix_list (pe_fld (pv 1) rfl) pe_int (fun _ _ => rfl)) (fun _ _ => rfl)))
    (pss_cons (ps_if (pt_cmpR op_eq (pe_fld (pv 1) rfl) (pe_ic iS (by rfl)) (nomark _)) (pss_one (ps_ret (pe_op op_cat (pe_lst (pa_cons (pe_fld (pv 2) rfl) pa_nil)) (pe_fld (pv 2) rfl)))) pss_nil)
    (pss_cons (ps_if (pt_cmpR op_eq (pe_fld (pv 1) rfl) (pe_ic iNu (by rfl)) (nomark _)) (pss_one (ps_ret (pe_g g_numbers hr (by rfl) (pa_cons (pv 2) (pa_cons (pe_ix ix_list (pe_fld (pv 1) rfl) pe_int (fun _ _ => rfl)) pa_nil))))) pss_nil)
    (pss_cons (ps_if (pt_cmpR op_eq (pe_fld (pv 1) rfl) (pe_ic iDe (by rfl)) (nomark _)) (pss_one (ps_ret (pe_g g_degree (hr.mono (by decide)) (by rfl) (pa_cons (pv 0) (pa_cons (pv 2) (pa_cons (pe_ix ix_list (pe_fld (pv 1) rfl) pe_int (fun _ _ => rfl)) pa_nil)))))) pss_nil)
    (pss_one (ps_ret (pe_g g_common (hr.mono (by decide)) (by rfl) (pa_cons (pv 2) pa_nil))))))))), ?_⟩
  refine s_st (σ2 := [some v0, some v1, none]) rfl ?_
  have ec : ∀ {y : Option V} {H1 : Hp}, Ex H H1 → EvP (tVar 1) [some v0, some v1, y] H1 (rCall CC p nums xs b) := fun e => evp_var rfl (Rp.stay _ e h1)
  have ef : ∀ {y : Option V} {H1 : Hp}, Ex H H1 → EvP (tVar 0) [some v0, some v1, y] H1 (rFig CF C true ds (Kh373.lettersOf a)) := fun e => evp_var rfl (Rp.stay _ e h0)
  have hnn : nums.length = (wholeL.getD p 0).toNat := by omega
  refine s_ifR (evt_eq (evp_cnum TC (ec (Ex.refl _))) (evp_c rfl)) (fun z H1 e1 => ?_) fun z H1 e1 => ?_
  · have ep : p = 15 := by
      have := of_decide_eq_true z
      omega
    subst ep
    obtain rfl : nums = [] := List.length_eq_zero_iff.mp hnn
    refine s_retF e1 (evf_lstI (l := [(ds.length : Int), (Kh373.lettersOf a : Int)]) (evps_cons (evp_to (evp_lenL (evp_pts TF (ef e1))) (by rw [List.length_map])) (evps_cons (evp_lts TF (ef e1)) evps_nil)) (by decide : 2 ≤ 100)) fun v H' nn e hv => q v H' nn e ?_
    rw [ans15, ← hF.1]
    exact hv
  have z := of_decide_eq_false z
  have hp16 : 16 ≤ p := by omega
  obtain ⟨x, r, rfl⟩ : ∃ x r, nums = x :: r := by
    have h1 : 0 < nums.length := by
      rw [hnn]
      exact (by decide : ∀ p : Nat, p ≤ 19 → 16 ≤ p → 0 < (wholeL.getD p 0).toNat) p hp2 hp16
    cases nums with
    | nil => cases h1
    | cons x r => exact ⟨x, r, rfl⟩
  have hx0 := h0n x List.mem_cons_self
  obtain ⟨n, rfl⟩ := Int.eq_ofNat_of_zero_le hx0
  refine s_ifR (Evl.et_not (evt_B (evp_hasPt (ef e1) (evp_ixI (j := 0) (evp_ctold TC (ec e1)) (evp_c rfl) rfl)))) (fun y H2 e2 => ?_) fun y H2 e2 => ?_
  · have hlt : ¬ n < a.length := fun hlt => by
      rw [decide_eq_true (show (0 : Int) ≤ (n : Int) by omega), decide_eq_true (show (n : Int) < (ds.length : Int) by rw [hF.1]; omega)] at y
      cases y
    refine s_retF (e1.trans e2) (evf_one (evp_c rfl)) fun v H' nn e hv => q v H' nn e ?_
    have ea := look_none (xs := xs) hp16 hp2 hnn hlt
    rw [ea]
    exact hv
  have hlt : n < a.length := by
    have h2 : (decide ((0 : Int) ≤ (n : Int)) && decide ((n : Int) < (ds.length : Int))) = true := by simpa using y
    rw [Bool.and_eq_true, decide_eq_true_eq, decide_eq_true_eq] at h2
    have := hF.1
    omega
  have hd : ds[n]? = some (ds[n]'(by rw [hF.1]; exact hlt)) := List.getElem?_eq_getElem _
  generalize ds[n]'(by rw [hF.1]; exact hlt) = dd at hd
  have hPt := hF.2 n dd hd
  obtain ⟨Rx, Ry, Rw⟩ := hPt.reps ok
  obtain ⟨st, hst, hk, ht⟩ := hPt.step
  have e12 := e1.trans e2
  refine s_set (σ2 := fun v => [some v0, some v1, some v]) (fun _ => rfl) (evp_ixL (R := rP C dd) (evp_pts TF (ef e12)) (evp_ixI (j := 0) (evp_ctold TC (ec e12)) (evp_c rfl) rfl) (by rw [List.getElem?_map, hd]; rfl)) fun v2 H3 e3 h2 => ?_
  have e13 := e12.trans e3
  have eP : ∀ {H4 : Hp}, Ex H3 H4 → EvP (tVar 2) [some v0, some v1, some v2] H4 (rP C dd) := fun e => evp_var rfl (Rp.stay _ e h2)
  refine s_ifR (evt_eq (evp_cnum TC (ec e13)) (evp_c rfl)) (fun u H4 e4 => ?_) fun u H4 e4 => ?_
  · have ep : p = 16 := by
      have := of_decide_eq_true u
      omega
    subst ep
    obtain rfl : r = [] := List.length_eq_zero_iff.mp (by have : r.length + 1 = 1 := hnn; omega)
    have hlen : dd.told.length ≤ 10 := by
      rw [ht]
      cases st <;> simp [Kh371.numbers, Kh371.args]
    refine s_retF (e13.trans e4) (evf_cat (evp_one (evp_kind T.cl nK (eP e4))) (evp_told T.cl nT (eP e4)) (by show 1 + _ ≤ _; omega)) fun v H' nn e hv => q v H' nn e ?_
    rw [ans16, Int.toNat_natCast, hst]
    show (rInts ((Kh371.kind st : Int) :: Kh371.numbers st)).is (.ref v) H'
    rw [← hk, ← ht]
    exact hv
  have u := of_decide_eq_false u
  refine s_ifR (evt_eq (evp_cnum TC (ec (e13.trans e4))) (evp_c rfl)) (fun t H5 e5 => ?_) fun t H5 e5 => ?_
  · have ep : p = 17 := by
      have := of_decide_eq_true t
      omega
    subst ep
    match r, hnn with
    | [y], _ =>
    obtain ⟨m, rfl⟩ := Int.eq_ofNat_of_zero_le (h0n y (List.mem_cons_of_mem _ List.mem_cons_self))
    refine s_retF ((e13.trans e4).trans e5) (evf_call (E := E0) (evps_cons (eP (e4.trans e5)) (evps_cons (evp_ixI (j := 1) (evp_ctold TC (ec ((e13.trans e4).trans e5))) (evp_c rfl) rfl) evps_nil)) (cNums.mk Rx Ry Rw)) fun v H' nn e hv => q v H' nn e ?_
    rw [ans17, Int.toNat_natCast, Int.toNat_natCast, ofPt_at hlt]
    have e3 : ansOf (match (Kh374.three ((Kh374.points a).getD n (z3 Kh374.polys)))[m]? with
        | none => Kh374.say (-22)
        | some q => Kh374.terms q) = ans3 ((Kh374.points a).getD n (z3 Kh374.polys)).x ((Kh374.points a).getD n (z3 Kh374.polys)).y ((Kh374.points a).getD n (z3 Kh374.polys)).w m := by
      unfold ans3 Kh374.three
      split <;> rename_i hh <;> first | rfl | (rw [hh] <;> rfl)
    rw [e3]
    exact hv
  have t := of_decide_eq_false t
  have e15 := (e13.trans e4).trans e5
  refine s_ifR (evt_eq (evp_cnum TC (ec e15)) (evp_c rfl)) (fun s' H6 e6 => ?_) fun s' H6 e6 => ?_
  · have ep : p = 18 := by
      have := of_decide_eq_true s'
      omega
    subst ep
    match r, hnn with
    | [y], _ =>
    obtain ⟨m, rfl⟩ := Int.eq_ofNat_of_zero_le (h0n y (List.mem_cons_of_mem _ List.mem_cons_self))
    refine s_retF (e15.trans e6) (evf_call (E := E0) (evps_cons (ef (e15.trans e6)) (evps_cons (eP ((e4.trans e5).trans e6)) (evps_cons (evp_ixI (j := 1) (evp_ctold TC (ec (e15.trans e6))) (evp_c rfl) rfl) evps_nil))) (cDeg.mk (i := m) ok.letters Rx Ry Rw)) fun v H' nn e hv => q v H' nn e ?_
    rw [ans18, Int.toNat_natCast, Int.toNat_natCast, ofPt_at hlt]
    by_cases hm : Kh373.lettersOf a ≤ m
    · rw [if_pos hm] at hv
      rw [if_pos hm]
      exact hv
    · rw [if_neg hm] at hv
      rw [if_neg hm]
      exact hv
  · have ep : p = 19 := by
      have := of_decide_eq_false s'
      omega
    subst ep
    obtain rfl : r = [] := List.length_eq_zero_iff.mp (by have : r.length + 1 = 1 := hnn; omega)
    refine s_retF (e15.trans e6) (evf_call (E := E0) (evps_cons (eP ((e4.trans e5).trans e6)) evps_nil) (cCom.mk Rx Ry Rw)) fun v H' nn e hv => q v H' nn e ?_
    rw [ans19, Int.toNat_natCast, ofPt_at hlt]
    have eS : Kh370.SIZE = 1000000000000000 := by decide
    rw [eS]
    have e3 : Kh374.common (Kh374.three ((Kh374.points a).getD n (z3 Kh374.polys))) = Kh374.common [((Kh374.points a).getD n (z3 Kh374.polys)).x, ((Kh374.points a).getD n (z3 Kh374.polys)).y, ((Kh374.points a).getD n (z3 Kh374.polys)).w] := rfl
    rw [e3]
    by_cases hm : (1000000000000000 : Int) < (Kh374.common [((Kh374.points a).getD n (z3 Kh374.polys)).x, ((Kh374.points a).getD n (z3 Kh374.polys)).y, ((Kh374.points a).getD n (z3 Kh374.polys)).w] : Int)
    · rw [if_pos hm] at hv
      rw [if_pos hm]
      exact hv
    · rw [if_neg hm] at hv
      rw [if_neg hm]
      exact hv
end
end Ds
end
section
set_option Elab.async false
set_option linter.all false
set_option maxRecDepth 100000
set_option maxHeartbeats 1000000
namespace Ds
open PySem PySem.Spec PyProof.Rows L2 Su
open Evl (Ex EvT EvL)
open Kh374 (Tri Fig)
open Kh370 (Poly)
/-! ### yes_or_no -/
inductive cYes : List Rp → Rp → Prop
  | mk (b : Bool) : cYes [rV (.bl b)] (rInt (if b then 1 else 0))
section
variable {P : Program} {w : World} {K : PySem.W.Frag} {mg : Str → Option Value} {base : Heap} {CF C CC : Addr}
theorem sc_yes_or_no : FnScope ["verdict"] ["verdict"] (defScope s_yes_or_no) := ⟨rfl, rfl, rfl, by decide +kernel, rfl, by decide +kernel, by decide +kernel⟩
theorem good_yes_or_no (d : Decl K mg "yes_or_no" s_yes_or_no) : Good P w K mg base "yes_or_no" 1 ["verdict"] (pf cYes) := by
  refine d.good sc_yes_or_no (fun _ _ _ _ _ _ us hl => match us, hl with | [_], _ => rfl) (pf_len fun _ _ c => by cases c; rfl) fun f cdv A outer s H vs Q E hr h => ?_
  obtain ⟨Rs, R, c, ha, q⟩ := h
  cases c with
  | mk b =>
  obtain ⟨_, _, rfl, rfl, rfl⟩ := ha
  refine ⟨_, pss_one (ps_ret (pe_ifExp (pt_val (pv 0)) pe_int pe_int)), ?_⟩
  refine s_st (σ2 := [some (.bl b)]) rfl ?_
  refine ⟨_, rfl, b, rfl, ?_⟩
  cases b with
  | true => exact iteT (q _ _ (Ex.refl _) rfl)
  | false => exact iteF (q _ _ (Ex.refl _) rfl)
/-! ### named_points -/
inductive cNamed (CF C : Addr) : List Rp → Rp → Prop
  | mk {bg : Bool} {ds : List PtD} {L k : Nat} {l : List Int} : k < 13 → sayCnt k ≤ l.length → l.length ≤ 1000 → (∀ x ∈ l.take (sayCnt k), 0 ≤ x ∧ x < ds.length) → cNamed CF C [rFig CF C bg ds L, rInt k, rInts l] (rLst ((l.take (sayCnt k)).map fun x => rP C (pd ds x.toNat)))
theorem sc_named_points : FnScope ["figure", "kind", "its", "p"] ["figure", "kind", "its"] (defScope s_named_points) := ⟨rfl, rfl, rfl, by decide +kernel, rfl, by decide +kernel, by decide +kernel⟩
theorem good_named_points (d : Decl K mg "named_points" s_named_points) (TF : FigC K CF) (g_points_in_saying : Good P w K mg base "points_in_saying" 1 ["kind"] (pf cPtsIn)) : Good P w K mg base "named_points" 2 ["figure", "kind", "its"] (pf (cNamed CF C)) := by
  refine d.good sc_named_points (fun _ _ _ _ _ _ us hl => match us, hl with | [_, _, _], _ => rfl) (pf_len fun _ _ c => by cases c; rfl) fun f cdv A outer s H vs Q E hr h => ?_
  obtain ⟨Rs, R, c, ha, q⟩ := h
  cases c with
  | @mk bg ds L k l hk hcl hl1 hx =>
  obtain ⟨v0, _, rfl, h0, _, _, rfl, rfl, v2, _, rfl, h2, rfl⟩ := ha
  refine ⟨_, pss_one (ps_ret (pe_lc (own := [("p", 3)]) (g := gName 3) (te := tOp (rIxL K) (tFld K (tVar 0) "points") (tVar 3)) (by rfl) sc_named_points.nd (pi_list (pe_slice sl_list (pv 2) po_none (po_some (pe_g g_points_in_saying hr (by rfl) (pa_cons (pv 1) pa_nil)))))
    (blkOk_by (own := [("p", 3)]) (N := ["figure", "kind", "its", "p"]) (sc := defScope s_named_points) (by decide +kernel)) (fun _ _ _ _ _ => pg_name (i := 3) sc_named_points.nd rfl (Or.inl rfl)) (fun _ _ _ _ _ => pts_nil) (fun _ _ _ _ _ => pe_ix ix_list (pe_fld (pv 0) rfl) (pv 3) (fun _ _ => rfl)))), ?_⟩
  refine s_st (σ2 := [some v0, some (.int k), some v2, none]) rfl ?_
  obtain ⟨fa, dx, fs, rfl, hfa, w0, _, rfl, _, w1, _, rfl, ⟨pl, us, rfl, hpl, hus⟩, w2, _, rfl, _, rfl⟩ := h0
  refine s_retP (evp_lcP (g := V.int) (w := fun x : Int => us.getD x.toNat .non) (fun x => rP C (pd ds x.toNat)) (evs_new (el_upto (evp_var (i := 2) rfl h2) (evp_call (E := E0) (evps_cons (evp_var (i := 1) rfl rfl) evps_nil) (cPtsIn.mk k hk)) hcl)) (by rw [List.length_take]; omega) (fun _ => rfl) (fun x hxm => ?_) fun x hxm H1 e1 => ?_) q
  · obtain ⟨n, rfl⟩ := Int.eq_ofNat_of_zero_le (hx x hxm).1
    have hn : n < ds.length := by have := (hx _ hxm).2; omega
    obtain ⟨v, hv, hr⟩ := hus.get n (rP C (ds[n])) (by rw [List.getElem?_map, List.getElem?_eq_getElem hn]; rfl)
    have e1 : pd ds (n : Int).toNat = ds[n] := by
      show ds.getD n ptD0 = ds[n]
      rw [List.getD_eq_getElem?_getD, List.getElem?_eq_getElem hn]
      rfl
    have e2 : us.getD (n : Int).toNat .non = v := by
      show us.getD n .non = v
      rw [List.getD_eq_getElem?_getD, hv]
      rfl
    show (rP C (pd ds (n : Int).toNat)).is (us.getD (n : Int).toNat .non) H
    rw [e1, e2]
    exact hr
  · obtain ⟨n, rfl⟩ := Int.eq_ofNat_of_zero_le (hx x hxm).1
    have hn : n < ds.length := by have := (hx _ hxm).2; omega
    have hun : n < us.length := by rw [hus.len, List.length_map]; exact hn
    intro H2 e2 Q q
    refine ⟨_, rfl, fa, CF, dx, _, .ref pl, rfl, e2 _ _ (e1 _ _ hfa), TF.cl, TF.nP, (lkg_past (by decide +kernel)).trans lkg_here, _, rfl, pl, us, n, us[n], rfl, rfl, .inl (.inl (e2 _ _ (e1 _ _ hpl))), atI_nat (List.getElem?_eq_getElem hun), q _ H2 (Ex.refl _) ?_⟩
    show us[n] = us.getD (n : Int).toNat .non
    show us[n] = us.getD n .non
    rw [List.getD_eq_getElem?_getD, List.getElem?_eq_getElem hun]
    rfl
end
/-! ### How far a saying's letters reach -/
theorem outer4 (R : PtD → Nat → Nat) (ds : List PtD) (hd : ∀ d ∈ ds, d.reach = [R d 0, R d 1, R d 2, R d 3]) : ∀ (ws : List Nat) (t0 t1 t2 t3 : Nat), (List.zip ws ds).foldl (fun t q => innerR q.1 t q.2.reach) [t0, t1, t2, t3] =
    [t0 + ((List.zip ws ds).map fun q => q.1 * R q.2 0).sum, t1 + ((List.zip ws ds).map fun q => q.1 * R q.2 1).sum, t2 + ((List.zip ws ds).map fun q => q.1 * R q.2 2).sum, t3 + ((List.zip ws ds).map fun q => q.1 * R q.2 3).sum] := by
  induction ds with
  | nil =>
    intro ws t0 t1 t2 t3
    rw [List.zip_nil_right]
    rfl
  | cons d ds ih =>
    intro ws t0 t1 t2 t3
    cases ws with
    | nil => rfl
    | cons w ws =>
      rw [List.zip_cons_cons, List.foldl_cons, hd d List.mem_cons_self, innerR4, ih fun e he => hd e (List.mem_cons_of_mem _ he)]
      simp only [List.map_cons, List.sum_cons, Nat.add_assoc]
theorem sayReach_sum {k : Nat} {ws : List Nat} (hk : sayWtL[k]? = some ws) (R : Nat → Nat) (l : List Nat) (hl : l.length = ws.length) : ((List.zip ws l).map fun q => q.1 * R q.2).sum = Kh373.sayReach k (l.map R) := by
  have hk13 : k < 13 := (List.getElem?_eq_some_iff.mp hk).1
  match k, hk13, hk with
  | 0, _, hk =>
    obtain rfl := Option.some.inj hk
    match l, hl with
    | [i0, i1], _ => simp [Kh373.sayReach]
  | 1, _, hk =>
    obtain rfl := Option.some.inj hk
    match l, hl with
    | [i0, i1, i2], _ => simp [Kh373.sayReach]; omega
  | 2, _, hk =>
    obtain rfl := Option.some.inj hk
    match l, hl with
    | [i0, i1, i2, i3], _ => simp [Kh373.sayReach]; omega
  | 3, _, hk =>
    obtain rfl := Option.some.inj hk
    match l, hl with
    | [i0, i1, i2, i3], _ => simp [Kh373.sayReach]; omega
  | 4, _, hk =>
    obtain rfl := Option.some.inj hk
    match l, hl with
    | [i0, i1, i2, i3], _ => simp [Kh373.sayReach]; omega
  | 5, _, hk =>
    obtain rfl := Option.some.inj hk
    match l, hl with
    | [i0, i1, i2, i3], _ => simp [Kh373.sayReach]; omega
  | 6, _, hk =>
    obtain rfl := Option.some.inj hk
    match l, hl with
    | [i0, i1, i2, i3], _ => simp [Kh373.sayReach]; omega
  | 7, _, hk =>
    obtain rfl := Option.some.inj hk
    match l, hl with
    | [i0, i1, i2, i3, i4, i5], _ => simp [Kh373.sayReach]; omega
  | 8, _, hk =>
    obtain rfl := Option.some.inj hk
    match l, hl with
    | [i0, i1, i2, i3, i4, i5], _ => simp [Kh373.sayReach]; omega
  | 9, _, hk =>
    obtain rfl := Option.some.inj hk
    match l, hl with
    | [i0, i1, i2, i3, i4, i5], _ => simp [Kh373.sayReach]; omega
  | 10, _, hk =>
    obtain rfl := Option.some.inj hk
    match l, hl with
    | [i0, i1, i2], _ => simp [Kh373.sayReach]; omega
  | 11, _, hk =>
    obtain rfl := Option.some.inj hk
    match l, hl with
    | [i0, i1, i2, i3], _ => simp [Kh373.sayReach]; omega
  | 12, _, hk =>
    obtain rfl := Option.some.inj hk
    match l, hl with
    | [i0, i1, i2, i3, i4, i5], _ => simp [Kh373.sayReach]; omega
theorem zip_map_r {A B D : Type} (f : A → B) (g : Nat × B → D) : ∀ (ws : List Nat) (l : List A), (List.zip ws (l.map f)).map g = (List.zip ws l).map fun q => g (q.1, f q.2)
  | [], _ => rfl
  | _ :: _, [] => rfl
  | w :: ws, a :: l => by rw [List.map_cons, List.zip_cons_cons, List.map_cons, List.zip_cons_cons, List.map_cons, zip_map_r f g ws l]
/-- **The saying's grid, by the program.** -/
theorem outer_say {a : Fig} {ds : List PtD} (h : FigR a ds) {k : Nat} {ws : List Nat} (hk : sayWtL[k]? = some ws) {l : List Nat} (hp : ∀ i ∈ Kh373.pointsIn k l, i < a.length) (hl : (Kh373.pointsIn k l).length = ws.length) : outerR ws ((Kh373.pointsIn k l).map fun i => pd ds i) = (List.range 4).map (sayB a k l) := by
  have e := outer4 (fun d x => d.reach.getD x 0) ((Kh373.pointsIn k l).map fun i => pd ds i) (fun d hd => by
    obtain ⟨i, hi, rfl⟩ := List.mem_map.mp hd
    rw [(srcs_at h (hp i hi)).reach]
    rfl) ws 0 0 0 0
  unfold outerR
  rw [e]
  have key : ∀ x, x < 4 → ((List.zip ws ((Kh373.pointsIn k l).map fun i => pd ds i)).map fun q => q.1 * q.2.reach.getD x 0).sum = sayB a k l x := fun x hx => by
    unfold sayB
    rw [← sayReach_sum hk _ _ hl, zip_map_r (fun i => pd ds i) (fun q => q.1 * q.2.reach.getD x 0)]
    congr 1
    refine List.map_congr_left fun q hq => ?_
    have hq2 : q.2 ∈ Kh373.pointsIn k l := (List.of_mem_zip hq).2
    show q.1 * (pd ds q.2).reach.getD x 0 = _
    rw [(srcs_at h (hp q.2 hq2)).reach, getD_map_range, if_pos hx]
  rw [key 0 (by decide), key 1 (by decide), key 2 (by decide), key 3 (by decide)]
  simp only [Nat.zero_add]
  rfl
theorem sayB_small {a : Fig} (ok : FigOk a) (k : Nat) (l : List Nat) (x : Nat) : sayB a k l x < 1000000 := by
  have hr : ∀ p, (Kh373.reaches a x).getD p 0 ≤ 200 := fun p => by
    by_cases hx : x < 4
    · have h1 := le_prod4 (reachB a p) x hx
      have h2 := ok.small p
      have h3 : reachB a p x = (Kh373.reaches a x).getD p 0 := rfl
      omega
    · have := reachB_far ok.letters p x (by omega)
      have h3 : reachB a p x = (Kh373.reaches a x).getD p 0 := rfl
      omega
  have hg : ∀ i, ((Kh373.pointsIn k l).map fun p => (Kh373.reaches a x).getD p 0).getD i 0 ≤ 200 := fun i => by
    rw [List.getD_eq_getElem?_getD, List.getElem?_map]
    cases (Kh373.pointsIn k l)[i]? with
    | none => exact Nat.zero_le _
    | some p => exact hr p
  have g0 := hg 0
  have g1 := hg 1
  have g2 := hg 2
  have g3 := hg 3
  have g4 := hg 4
  have g5 := hg 5
  unfold sayB Kh373.sayReach
  split <;> dsimp only <;> omega
end Ds
end
section
set_option Elab.async false
set_option linter.all false
set_option maxRecDepth 100000
set_option maxHeartbeats 1000000
namespace Ds
open PySem PySem.Spec PyProof.Rows L2 Su
open Evl (Ex EvT EvL)
open Kh374 (Tri Fig)
open Kh370 (Poly)
def natsL (l : List Int) : List Nat := l.map Int.toNat
theorem nats_eq (l : List Int) : Kh374Neutral.nats l = natsL l := rfl
/-- what all sayings' calls are refused for, or 0 -/
def refOf (a : Fig) (k : Nat) (l : List Nat) : Int := if Kh372.okSaying k l = false then -22 else if (Kh373.pointsIn k l).any (fun i => decide (a.length ≤ i)) then -2 else if 200 < Kh373.many (Kh373.gridOf a k l) then -75 else 0
theorem told_ref {a : Fig} {k : Nat} {l : List Nat} (f : List Poly → Kh374.Ans) : Kh374.told a k l f = if refOf a k l ≠ 0 then Kh374.say (refOf a k l) else f (Kh374.left a k l) := by
  unfold Kh374.told refOf
  have eW : Kh374.WIDE = 200 := rfl
  rw [eW]
  by_cases h1 : Kh372.okSaying k l = false
  · rw [if_pos h1, if_pos h1, if_pos (by decide)]
  · rw [if_neg h1, if_neg h1]
    by_cases h2 : (Kh373.pointsIn k l).any (fun i => decide (a.length ≤ i)) = true
    · rw [if_pos h2, if_pos h2, if_pos (by decide)]
    · rw [if_neg h2, if_neg h2]
      by_cases h3 : 200 < Kh373.many (Kh373.gridOf a k l)
      · rw [if_pos h3, if_pos h3, if_pos (by decide)]
      · rw [if_neg h3, if_neg h3, if_neg (by decide)]
/-- a saying that is not refused -/
structure SayOk (a : Fig) (k : Nat) (l : List Int) : Prop where
  kind : k < 13
  len : l.length = sayCnt k + sayNum k
  pts : ∀ x ∈ l.take (sayCnt k), 0 ≤ x ∧ x < a.length
  num : k = 5 → (natsL l).getD 4 0 ≤ 1000 ∧ (natsL l).getD 5 0 ≤ 1000
  wide : Kh373.many (Kh373.gridOf a k (natsL l)) ≤ 200
theorem ptsIn_nats {k : Nat} (hk : k < 13) (l : List Int) : Kh373.pointsIn k (natsL l) = (l.take (sayCnt k)).map Int.toNat := by
  unfold Kh373.pointsIn natsL
  rw [pointsOf_eq hk, List.map_take]
theorem fitS_true {k : Nat} {l : List Int} (h : fitS k l = true) : k < 13 ∧ l.length = sayCnt k + sayNum k ∧ (k = 5 → (natsL l).getD 4 0 ≤ 1000 ∧ (natsL l).getD 5 0 ≤ 1000) := by
  unfold fitS at h
  simp only [Bool.and_eq_true, decide_eq_true_eq] at h
  refine ⟨h.1, h.2.1, fun h5 => ?_⟩
  subst h5
  obtain ⟨_, h2, h3⟩ := h
  match l, h2, h3 with
  | [a, b, c, d, m, n], _, h3 =>
    have h3 : ([m, n].all fun x => decide (1 ≤ x) && decide (x ≤ 1000)) = true := h3
    simp only [List.all_cons, List.all_nil, Bool.and_true, Bool.and_eq_true, decide_eq_true_eq] at h3
    show m.toNat ≤ 1000 ∧ n.toNat ≤ 1000
    omega
inductive cRef (CF C : Addr) : List Rp → Rp → Prop
  | mk {a : Fig} {ds : List PtD} {k : Nat} {l : List Int} : FigOk a → FigR a ds → (∀ x ∈ l, 0 ≤ x) → l.length ≤ 1000 → cRef CF C [rFig CF C true ds (Kh373.lettersOf a), rInt k, rInts l] (rInt (refOf a k (natsL l)))
theorem mPlaces_say {a : Fig} {ds : List PtD} (ok : FigOk a) (h : FigR a ds) {k : Nat} {ws : List Nat} (hk : sayWtL[k]? = some ws) {l : List Nat} (hp : ∀ i ∈ Kh373.pointsIn k l, i < a.length) (hl : (Kh373.pointsIn k l).length = ws.length) : mPlaces (outerR ws ((Kh373.pointsIn k l).map fun i => pd ds i)) = Kh373.many (Kh373.gridOf a k l) := by
  rw [outer_say h hk hp hl, places_is, gridOf_many ok.letters]
section
variable {P : Program} {w : World} {K : PySem.W.Frag} {mg : Str → Option Value} {base : Heap} {CF C CC : Addr}
theorem sc_refusal_of : FnScope ["figure", "kind", "its", "p"] ["figure", "kind", "its"] (defScope s_refusal_of) := ⟨rfl, rfl, rfl, by decide +kernel, rfl, by decide +kernel, by decide +kernel⟩
theorem good_refusal_of (d : Decl K mg "refusal_of" s_refusal_of) (TF : FigC K CF) (iD : IntC mg "DOES_NOT_FIT" (-22)) (iN : IntC mg "NOT_THERE" (-2)) (iM : IntC mg "TOO_MUCH" (-75)) (iP : IntC mg "MOST_PLACES" 200) (mall : mg "all" = none) (g_saying_fits : Good P w K mg base "saying_fits" 2 ["kind", "its"] (pf cSayFit)) (g_points_in_saying : Good P w K mg base "points_in_saying" 1 ["kind"] (pf cPtsIn)) (g_has_point : GoodM P w K mg base CF "has_point" 1 ["self", "p"] (pf (cHasPt CF C)))
    (g_places : Good P w K mg base "places" 1 ["reach"] (pf cPlaces)) (g_reach_in : Good P w K mg base "reach_in" 2 ["kind", "sources"] (pf (cReachIn C))) (g_named_points : Good P w K mg base "named_points" 2 ["figure", "kind", "its"] (pf (cNamed CF C))) : Good P w K mg base "refusal_of" 3 ["figure", "kind", "its"] (pf (cRef CF C)) := by
  refine d.good sc_refusal_of (fun _ _ _ _ _ _ us hl => match us, hl with | [_, _, _], _ => rfl) (pf_len fun _ _ c => by cases c; rfl) fun f cdv A outer s H vs Q E hr h => ?_
  obtain ⟨Rs, R, c, ha, q⟩ := h
  cases c with
  | @mk a ds k l ok hF h0l hl1 =>
  obtain ⟨v0, _, rfl, h0, _, _, rfl, rfl, v2, _, rfl, h2, rfl⟩ := ha
  refine ⟨_, pss_cons (ps_if (pt_not (pt_val (pe_g g_saying_fits hr (by rfl) (pa_cons (pv 1) (pa_cons (pv 2) pa_nil))))) (pss_one (ps_ret (pe_ic iD (by rfl)))) pss_nil)
    (pss_cons (ps_if (pt_not (pt_val (pe_callB (cr_all rfl) (by rfl) mall (by decide +kernel) (pa_cons (pe_lc (own := [("p", 3)]) (g := gName 3) (te := tMeth CF "has_point" (pf (cHasPt CF C)) [] E0 (tVar 0) (tCons (tVar 3) tNil)) (by rfl) sc_refusal_of.nd (pi_list (pe_slice sl_list (pv 2) po_none (po_some (pe_g g_points_in_saying (hr.mono (by decide)) (by rfl) (pa_cons (pv 1) pa_nil)))))
      (blkOk_by (own := [("p", 3)]) (N := ["figure", "kind", "its", "p"]) (sc := defScope s_refusal_of) (by decide +kernel)) (fun _ _ _ _ _ => pg_name (i := 3) sc_refusal_of.nd rfl (Or.inl rfl)) (fun _ _ _ _ _ => pts_nil) (fun _ _ _ _ _ => pe_gm g_has_point TF.cl (hr.mono (by decide)) (pv 0) (pa_cons (pv 3) pa_nil))) pa_nil)))) (pss_one (ps_ret (pe_ic iN (by rfl)))) pss_nil)
    (pss_cons (ps_if (pt_cmpR op_gt (pe_g g_places (hr.mono (by decide)) (by rfl) (pa_cons (pe_g g_reach_in hr (by rfl) (pa_cons (pv 1) (pa_cons (pe_g g_named_points hr (by rfl) (pa_cons (pv 0) (pa_cons (pv 1) (pa_cons (pv 2) pa_nil)))) pa_nil))) pa_nil)) (pe_ic iP (by rfl)) (nomark _)) (pss_one (ps_ret (pe_ic iM (by rfl)))) pss_nil)
    (pss_one (ps_ret pe_int)))), ?_⟩
  refine s_st (σ2 := [some v0, some (.int k), some v2, none]) rfl ?_
  have ef : ∀ {H1 : Hp}, Ex H H1 → EvP (tVar 0) [some v0, some (.int k), some v2, none] H1 (rFig CF C true ds (Kh373.lettersOf a)) := fun e => evp_var rfl (Rp.stay _ e h0)
  have ei : ∀ {H1 : Hp}, Ex H H1 → EvP (tVar 2) [some v0, some (.int k), some v2, none] H1 (rInts l) := fun e => evp_var rfl (Rp.stay _ e h2)
  have ek : ∀ {H1 : Hp}, EvP (tVar 1) [some v0, some (.int k), some v2, none] H1 (rInt (k : Int)) := fun {H1} => evp_var rfl rfl
  have efit : fitS k l = Kh372.okSaying k (natsL l) := fit_say k h0l
  refine s_ifR (Evl.et_not (evt_B (evp_call (E := E0) (evps_cons ek (evps_cons (ei (Ex.refl _)) evps_nil)) (cSayFit.mk k l hl1)))) (fun z H1 e1 => ?_) fun z H1 e1 => ?_
  · have hn : Kh372.okSaying k (natsL l) = false := by
      rw [← efit]
      simpa using z
    refine s_retP (evp_c (R := rInt (-22)) rfl) fun v H' e hv => q v H' (e1.trans e) ?_
    unfold refOf
    rw [if_pos hn]
    exact hv
  have hfit : fitS k l = true := by simpa using z
  have hok : ¬ Kh372.okSaying k (natsL l) = false := by
    rw [← efit, hfit]
    decide
  obtain ⟨hk, hlen, h5⟩ := fitS_true hfit
  have lc := evp_lcS (K := K) (σ := [some v0, some (.int (k : Int)), some v2, none]) (H := H1) (l := l.take (sayCnt k)) (g := V.int) (j := 3) (vs := [3]) (tl := tSl (rSlL K) (tVar 2) tNoPart (tPart (tCall (pf cPtsIn) [] E0 (tCons (tVar 1) tNil)))) (te := tMeth CF "has_point" (pf (cHasPt CF C)) [] E0 (tVar 0) (tCons (tVar 3) tNil)) (fun x => rV (.bl (decide (0 ≤ x) && decide (x < (ds.length : Int))))) (evs_new (el_upto (ei e1) (evp_call (evps_cons ek evps_nil) (cPtsIn.mk k hk)) (by omega))) (by rw [List.length_take]; omega) (fun _ => rfl) (fun x _ H4 e4 => evp_hasPt (evp_var (i := 0) rfl (Rp.stay _ (e1.trans e4) h0)) (evp_var (i := 3) rfl rfl)) (fun _ _ => apart_v _)
  have em : ((l.take (sayCnt k)).map fun x => rV (.bl (decide (0 ≤ x) && decide (x < (ds.length : Int))))) = ((l.take (sayCnt k)).map fun x => decide (0 ≤ x) && decide (x < (ds.length : Int))).map fun b => rV (.bl b) := by rw [List.map_map]; rfl
  rw [em] at lc
  have epts := ptsIn_nats hk l
  refine s_ifR (Evl.et_not (evt_B (evp_all lc))) (fun y H2 e2 => ?_) fun y H2 e2 => ?_
  · have hany : (Kh373.pointsIn k (natsL l)).any (fun i => decide (a.length ≤ i)) = true := by
      have hall : ((l.take (sayCnt k)).map fun x => decide (0 ≤ x) && decide (x < (ds.length : Int))).all id = false := by simpa using y
      rw [List.all_eq_false] at hall
      obtain ⟨b, hb, hbn⟩ := hall
      obtain ⟨x, hx, rfl⟩ := List.mem_map.mp hb
      rw [epts, List.any_eq_true]
      have hx0 := h0l x (List.mem_of_mem_take hx)
      refine ⟨x.toNat, List.mem_map.mpr ⟨x, hx, rfl⟩, decide_eq_true ?_⟩
      have hF1 := hF.1
      have : ¬ (0 ≤ x ∧ x < (ds.length : Int)) := by simpa using hbn
      omega
    refine s_retP (evp_c (R := rInt (-2)) rfl) fun v H' e hv => q v H' ((e1.trans e2).trans e) ?_
    unfold refOf
    rw [if_neg hok, if_pos hany]
    exact hv
  have hpts : ∀ x ∈ l.take (sayCnt k), 0 ≤ x ∧ x < (ds.length : Int) := fun x hx => by
    have hall : ((l.take (sayCnt k)).map fun x => decide (0 ≤ x) && decide (x < (ds.length : Int))).all id = true := by simpa using y
    rw [List.all_eq_true] at hall
    have := hall _ (List.mem_map.mpr ⟨x, hx, rfl⟩)
    simpa using this
  have hany : ¬ (Kh373.pointsIn k (natsL l)).any (fun i => decide (a.length ≤ i)) = true := by
    rw [epts, List.any_eq_true]
    rintro ⟨i, hi, hai⟩
    obtain ⟨x, hx, rfl⟩ := List.mem_map.mp hi
    have := hpts x hx
    have := of_decide_eq_true hai
    have := hF.1
    omega
  have hp : ∀ i ∈ Kh373.pointsIn k (natsL l), i < a.length := fun i hi => by
    rw [epts] at hi
    obtain ⟨x, hx, rfl⟩ := List.mem_map.mp hi
    have := hpts x hx
    have := hF.1
    omega
  obtain ⟨ws, hws, hwl⟩ := swt_at hk
  have e12 := e1.trans e2
  have hlw : (Kh373.pointsIn k (natsL l)).length = ws.length := by
    rw [epts, List.length_map, List.length_take, hwl]
    omega
  have emap : ((l.take (sayCnt k)).map fun x => rP C (pd ds x.toNat)) = ((Kh373.pointsIn k (natsL l)).map fun i => pd ds i).map (rP C) := by
    rw [epts, List.map_map, List.map_map]
    rfl
  have evn := evp_call (E := E0) (C := cNamed CF C) (evps_cons (ef e12) (evps_cons ek (evps_cons (ei e12) evps_nil))) (cNamed.mk hk (by omega) hl1 hpts)
  rw [emap] at evn
  have evr := evp_call (E := E0) (C := cReachIn C) (evps_cons ek (evps_cons evn evps_nil)) (cReachIn.mk k ws ((Kh373.pointsIn k (natsL l)).map fun i => pd ds i) hws (by rw [List.length_map, hlw]) (fun d hd => by
    obtain ⟨i, hi, rfl⟩ := List.mem_map.mp hd
    rw [(srcs_at hF (hp i hi)).reach]
    rfl))
  have hsm : ∀ x ∈ outerR ws ((Kh373.pointsIn k (natsL l)).map fun i => pd ds i), x < 1000000 := fun x hx => by
    rw [outer_say hF hws hp hlw] at hx
    obtain ⟨i, _, rfl⟩ := List.mem_map.mp hx
    exact sayB_small ok k _ i
  have evp := evp_call (E := E0) (C := cPlaces) (evps_cons evr evps_nil) (cPlaces.mk _ hsm)
  rw [mPlaces_say ok hF hws hp hlw] at evp
  refine s_ifR (evt_gt evp (evp_c rfl)) (fun x H3 e3 => ?_) fun x H3 e3 => ?_
  · have x := of_decide_eq_true x
    refine s_retP (evp_c (R := rInt (-75)) rfl) fun v H' e hv => q v H' ((e12.trans e3).trans e) ?_
    unfold refOf
    rw [if_neg hok, if_neg hany, if_pos (by omega)]
    exact hv
  · have x := of_decide_eq_false x
    refine s_retP (evp_c (R := rInt 0) rfl) fun v H' e hv => q v H' ((e12.trans e3).trans e) ?_
    unfold refOf
    rw [if_neg hok, if_neg hany, if_neg (by omega)]
    exact hv
end
theorem sayOk_of {a : Fig} {k : Nat} {l : List Int} (h0 : ∀ x ∈ l, 0 ≤ x) (h : refOf a k (natsL l) = 0) : SayOk a k l := by
  have efit : fitS k l = Kh372.okSaying k (natsL l) := fit_say k h0
  unfold refOf at h
  by_cases h1 : Kh372.okSaying k (natsL l) = false
  · rw [if_pos h1] at h
    cases h
  rw [if_neg h1] at h
  by_cases h2 : (Kh373.pointsIn k (natsL l)).any (fun i => decide (a.length ≤ i)) = true
  · rw [if_pos h2] at h
    cases h
  rw [if_neg h2] at h
  by_cases h3 : 200 < Kh373.many (Kh373.gridOf a k (natsL l))
  · rw [if_pos h3] at h
    cases h
  obtain ⟨hk, hlen, h5⟩ := fitS_true (efit.trans (by simpa using h1))
  refine ⟨hk, hlen, fun x hx => ⟨h0 x (List.mem_of_mem_take hx), ?_⟩, h5, by omega⟩
  have hn : ¬ a.length ≤ x.toNat := fun hle => h2 (by
    rw [ptsIn_nats hk, List.any_eq_true]
    exact ⟨x.toNat, List.mem_map.mpr ⟨x, hx, rfl⟩, decide_eq_true hle⟩)
  have := h0 x (List.mem_of_mem_take hx)
  omega
theorem SayOk.ins {a : Fig} {k : Nat} {l : List Int} (h : SayOk a k l) : ∀ i ∈ Kh373.pointsIn k (natsL l), i < a.length := fun i hi => by
  rw [ptsIn_nats h.kind] at hi
  obtain ⟨x, hx, rfl⟩ := List.mem_map.mp hi
  have := h.pts x hx
  omega
end Ds
end
section
set_option Elab.async false
set_option linter.all false
set_option maxRecDepth 100000
set_option maxHeartbeats 1000000
namespace Ds
open PySem PySem.Spec PyProof.Rows L2 Su
open Evl (Ex EvT EvL)
open Kh374 (Tri Fig)
open Kh370 (Poly)
theorem zip_reps {H : Hp} : ∀ {Ds : List Raw} {Ps : List Poly} {us : List V}, All2 (Ds.map rD) us H → LR Rep Ds Ps → (List.zip us Ps).map (·.1) = us ∧ (List.zip us Ps).map (·.2) = Ps ∧ ∀ t ∈ List.zip us Ps, ∃ dd, (rD dd).is t.1 H ∧ Rep dd t.2
  | [], [], us, h, _ => by
    rw [show us = [] from h]
    exact ⟨rfl, rfl, fun t ht => absurd ht List.not_mem_nil⟩
  | d :: Ds, p :: Ps, us, ⟨v, r, h1, h2, h3⟩, hL => by
    cases hL with
    | cons hR hL =>
      obtain ⟨e1, e2, e3⟩ := zip_reps h3 hL
      rw [h1, List.zip_cons_cons, List.map_cons, List.map_cons, e1, e2]
      refine ⟨rfl, rfl, fun t ht => ?_⟩
      rcases List.mem_cons.mp ht with rfl | ht
      · exact ⟨d, h2, hR⟩
      · exact e3 t ht
/-! ### == of lists of whole numbers -/
theorem shaped_ints (l : List Int) : SeqAt.shaped (.list (l.map PyData.int)) = true := by
  unfold SeqAt.shaped
  rw [Bool.and_eq_true]
  refine ⟨?_, decide_eq_true ?_⟩
  · show PyData.canLayAll0 (l.map PyData.int) = true
    exact PySem.W.ke_canLayAll0 l
  · unfold PyData.depth
    rw [depth_ints]
    decide
theorem evp_eqL {K : PySem.W.Frag} {σ : L2.St} {H : Hp} {te tf : TE} {l m : List Int} (h1 : EvP te σ H (rInts l)) (h2 : EvP tf σ H (rInts m)) : EvP (tOp (rEqD K) te tf) σ H (rV (.bl (decide (l = m)))) := fun H1 e Q q =>
  h1 H1 e _ fun x H2 e2 ⟨p, hx, hp⟩ => h2 H2 (e.trans e2) _ fun y H3 e3 ⟨r, hy, hr⟩ => by
    subst hx hy
    refine ⟨.list (l.map PyData.int), .list (m.map PyData.int), .lst (.inl (.inl (e3 _ _ hp))) (dp_ints l), .lst (.inl (.inl hr)) (dp_ints m), shaped_ints l, shaped_ints m, q _ H3 (e2.trans e3) ?_⟩
    show V.bl _ = V.bl _
    rw [← PySem.W.ked_eqvAll]
    unfold PyData.eqv
    rfl
/-! ### What each call tells -/
def ansAt (L : Nat) (p : Poly) (v : List Int) : List Int := ansOf (if v.length ≠ L ∨ v.all Kh371.okNumber = false then Kh374.say (-22) else
  let z := Kh370.value p (v ++ List.replicate (Kh374.LETTERS - v.length) 0)
  if z < -Kh370.SIZE ∨ Kh370.SIZE < z then Kh374.say (-75) else ⟨0, [z]⟩)
def ansGo (L : Nat) (p : Poly) (j : Nat) (v : Int) : List Int := ansOf (if L ≤ j then Kh374.say (-2) else if Kh371.okNumber v = false then Kh374.say (-22) else Kh374.say (if Kh370.goes Kh374.LETTERS p j v then 1 else 0))
theorem okNum_abs (v : Int) : decide (v.natAbs ≤ 1000) = Kh371.okNumber v := by
  unfold Kh371.okNumber
  rw [Bool.eq_iff_iff]
  simp only [Bool.and_eq_true, decide_eq_true_eq]
  omega
section
variable {P : Program} {w : World} {K : PySem.W.Frag} {mg : Str → Option Value} {base : Heap} {CF C CC : Addr}
/-! ### power -/
inductive cPower (CF C : Addr) : List Rp → Rp → Prop
  | mk {bg : Bool} {ds : List PtD} {L : Nat} {Ds : List Raw} {Ps : List Poly} {i : Nat} : L ≤ 4 → LR Rep Ds Ps → 0 < Ps.length → Ps.length ≤ 1000 → cPower CF C [rFig CF C bg ds L, rLst (Ds.map rD), rInt i] (rInts [if L ≤ i then -2 else (Kh374.degree Ps i : Int)])
theorem sc_power : FnScope ["figure", "sums", "index", "f"] ["figure", "sums", "index"] (defScope s_power) := ⟨rfl, rfl, rfl, by decide +kernel, rfl, by decide +kernel, by decide +kernel⟩
theorem good_power (d : Decl K mg "power" s_power) (TF : FigC K CF) (iN : IntC mg "NOT_THERE" (-2)) (mm : mg "max" = none) (g_has_letter : GoodM P w K mg base CF "has_letter" 1 ["self", "index"] (pf (cHasLet CF C))) (g_power_of : Good P w K mg base "power_of" 2 ["f", "index"] (pf cPowOf)) : Good P w K mg base "power" 3 ["figure", "sums", "index"] (pfF (cPower CF C)) := by
  refine d.good sc_power (fun _ _ _ _ _ _ us hl => match us, hl with | [_, _, _], _ => rfl) (pfF_len fun _ _ c => by cases c; rfl) fun f cdv A outer s H vs Q E hr h => ?_
  obtain ⟨Rs, R, c, ha, q⟩ := h
  cases c with
  | @mk bg ds L Ds Ps i hL hR hlen h1000 =>
  obtain ⟨v0, _, rfl, h0, v1, _, rfl, h1, _, _, rfl, rfl, rfl⟩ := ha
  refine ⟨_, pss_cons (ps_if (pt_not (pt_val (pe_gm g_has_letter TF.cl (hr.mono (by decide)) (pv 0) (pa_cons (pv 2) pa_nil)))) (pss_one (ps_ret (pe_lst (pa_cons (pe_ic iN (by rfl)) pa_nil)))) pss_nil)
    (pss_one (ps_ret (pe_lst (pa_cons (pe_callB (cr_max rfl) (by rfl) mm (by decide +kernel) (pa_cons (pe_lc (own := [("f", 3)]) (g := gName 3) (by rfl) sc_power.nd (pi_list (pv 1))
      (blkOk_by (own := [("f", 3)]) (N := ["figure", "sums", "index", "f"]) (sc := defScope s_power) (by decide +kernel)) (fun _ _ _ _ _ => pg_name (i := 3) sc_power.nd rfl (Or.inl rfl)) (fun _ _ _ _ _ => pts_nil) (fun _ _ _ _ _ => pe_g g_power_of hr (by rfl) (pa_cons (pv 3) (pa_cons (pv 2) pa_nil)))) pa_nil)) pa_nil)))), ?_⟩
  refine s_st (σ2 := [some v0, some v1, some (.int i), none]) rfl ?_
  refine s_ifR (Evl.et_not (evt_B (evp_hasLet (evp_var (i := 0) rfl h0) (evp_var (i := 2) rfl rfl)))) (fun z H1 e1 => ?_) fun z H1 e1 => ?_
  · have hi : L ≤ i := Nat.le_of_not_lt fun hlt => by
      rw [decide_eq_true (show (0 : Int) ≤ (i : Int) by omega), decide_eq_true (show (i : Int) < (L : Int) by omega)] at z
      cases z
    refine s_retF e1 (evf_one (evp_c rfl)) fun v H' nn e hv => q v H' nn e ?_
    rw [if_pos hi]
    exact hv
  · have hi : i < L := by
      have h2 : (decide ((0 : Int) ≤ (i : Int)) && decide ((i : Int) < (L : Int))) = true := by simpa using z
      rw [Bool.and_eq_true, decide_eq_true_eq, decide_eq_true_eq] at h2
      omega
    obtain ⟨p1, us, rfl, hp1, hus⟩ := Rp.stay _ e1 h1
    obtain ⟨z1, z2, z3⟩ := zip_reps hus hR
    have hp1' : H1 p1 = some (.lst ((List.zip us Ps).map (·.1))) := by rw [z1]; exact hp1
    have lc := evp_lcS (K := K) (σ := [some v0, some (.ref p1), some (.int i), none]) (H := H1) (l := List.zip us Ps) (g := fun t => t.1) (j := 3) (vs := [3]) (tl := tVar 1) (te := tCall (pf cPowOf) [] E0 (tCons (tVar 3) (tCons (tVar 2) tNil))) (fun t => rInt (Kh370.degree t.2 i : Int)) (evs_at (evp_var rfl rfl) hp1') (by rw [List.length_zip]; omega) (fun _ => rfl) (fun t ht H2 e2 => by
      obtain ⟨dd, hd1, hd2⟩ := z3 t ht
      exact evp_call (evps_cons (evp_var (i := 3) rfl (Rp.stay _ e2 hd1)) (evps_cons (evp_var (i := 2) rfl rfl) evps_nil)) (cPowOf.mk hd2 (by omega))) (fun _ _ => apart_v _)
    have em : ((List.zip us Ps).map fun t : V × Poly => rInt (Kh370.degree t.2 i : Int)) = (Ps.map fun q => (Kh370.degree q i : Int)).map fun i => rInt i := by
      conv => rhs; rw [← z2]
      rw [List.map_map, List.map_map]
      rfl
    rw [em] at lc
    refine s_retF e1 (evf_one (evp_max lc (by rw [List.length_map]; exact hlen) (fun x hx => by
      obtain ⟨q, _, rfl⟩ := List.mem_map.mp hx
      omega))) fun v H' nn e hv => q v H' nn e ?_
    rw [if_neg (by omega)]
    have e4 : (Ps.map fun q => (Kh370.degree q i : Int)).foldl max 0 = (Kh374.degree Ps i : Int) := fmax_nat (fun q : Poly => Kh370.degree q i) Ps 0
    rw [e4] at hv
    exact hv
/-! ### at -/
inductive cAt (CF C : Addr) : List Rp → Rp → Prop
  | mk {bg : Bool} {ds : List PtD} {L : Nat} {d : Raw} {p : Poly} {l : List Int} : L ≤ 4 → Rep d p → (∀ t ∈ p, ∀ i, L ≤ i → t.2.getD i 0 = 0) → l.length ≤ 1000 → cAt CF C [rFig CF C bg ds L, rD d, rInts l] (rInts (ansAt L p l))
theorem sc_at : FnScope ["figure", "f", "values", "number", "v"] ["figure", "f", "values"] (defScope s_at) := ⟨rfl, rfl, rfl, by decide +kernel, rfl, by decide +kernel, by decide +kernel⟩
theorem good_at (d : Decl K mg "at" s_at) (TF : FigC K CF) (ml : mg "len" = none) (mall : mg "all" = none) (ma : mg "abs" = none) (iD : IntC mg "DOES_NOT_FIT" (-22)) (iT : IntC mg "MOST_TOLD" 1000000000000000) (iM : IntC mg "TOO_MUCH" (-75)) (g_value_fits : Good P w K mg base "value_fits" 1 ["number"] (pf cVal)) (g_comes_to : Good P w K mg base "comes_to" 3 ["f", "values"] (pf cComes)) : Good P w K mg base "at" 4 ["figure", "f", "values"] (pfF (cAt CF C)) := by
  refine d.good sc_at (fun _ _ _ _ _ _ us hl => match us, hl with | [_, _, _], _ => rfl) (pfF_len fun _ _ c => by cases c; rfl) fun f cdv A outer s H vs Q E hr h => ?_
  obtain ⟨Rs, R, c, ha, q⟩ := h
  cases c with
  | @mk bg ds L d p l hL hR hfar h1000 =>
  obtain ⟨v0, _, rfl, h0, v1, _, rfl, h1, v2, _, rfl, h2, rfl⟩ := ha
  refine ⟨_, pss_cons (ps_if (PW.pt (pw_or (pt_cmpR op_ne (pe_callB call_len_seq (by rfl) ml PySem.boot_len (pa_cons (pv 2) pa_nil)) (pe_fld (pv 0) rfl) (nomark _)) (pw_or1 (pt_not (pt_val (pe_callB (cr_all rfl) (by rfl) mall (by decide +kernel) (pa_cons (pe_lc (own := [("v", 4)]) (g := gName 4) (by rfl) sc_at.nd (pi_list (pv 2))
      (blkOk_by (own := [("v", 4)]) (N := ["figure", "f", "values", "number", "v"]) (sc := defScope s_at) (by decide +kernel)) (fun _ _ _ _ _ => pg_name (i := 4) sc_at.nd rfl (Or.inl rfl)) (fun _ _ _ _ _ => pts_nil) (fun _ _ _ _ _ => pe_g g_value_fits (hr.mono (by decide)) (by rfl) (pa_cons (pv 4) pa_nil))) pa_nil))))))) (pss_one (ps_ret (pe_lst (pa_cons (pe_ic iD (by rfl)) pa_nil)))) pss_nil)
    (pss_cons (ps_set (i := 3) sc_at.nd rfl (.inl rfl) (pe_g g_comes_to hr (by rfl) (pa_cons (pv 1) (pa_cons (pv 2) pa_nil))))
    (pss_cons (ps_if (pt_cmpR op_gt (pe_callB call_abs (by rfl) ma (by decide +kernel) (pa_cons (pv 3) pa_nil)) (pe_ic iT (by rfl)) (nomark _)) (pss_one (ps_ret (pe_lst (pa_cons (pe_ic iM (by rfl)) pa_nil)))) pss_nil)
    (pss_one (ps_ret (pe_lst (pa_cons pe_int (pa_cons (pv 3) pa_nil))))))), ?_⟩
  refine s_st (σ2 := [some v0, some v1, some v2, none, none]) rfl ?_
  have eln : ∀ {H1 : Hp}, Ex H H1 → EvP (tCB (fun ys H Q => ∃ p zs, ys = [.ref p] ∧ (SqL K H p zs ∨ SqT K H p zs) ∧ Q (.int zs.length) H) (tCons (tVar 2) tNil)) [some v0, some v1, some v2, none, none] H1 (rInt (l.length : Int)) := fun {H1} e1 H3 e3 Q q => by
    obtain ⟨p, hp1, hp2⟩ := Rp.stay _ (e1.trans e3) h2
    exact ⟨v2, rfl, p, _, by rw [hp1], .inl (.inl (.inl hp2)), q _ H3 (Ex.refl _) (by rw [List.length_map]; rfl)⟩
  have lc := evp_lcS (K := K) (σ := [some v0, some v1, some v2, none, none]) (H := H) (l := l) (g := V.int) (j := 4) (vs := [4]) (tl := tVar 2) (te := tCall (pf cVal) [] E0 (tCons (tVar 4) tNil)) (fun x => rV (.bl (decide (x.natAbs ≤ 1000)))) (evs_ints (evp_var (i := 2) rfl h2)) h1000 (fun _ => rfl) (fun x _ H2 _ => evp_call (evps_cons (evp_var (i := 4) rfl rfl) evps_nil) (cVal.mk x)) (fun _ _ => apart_v _)
  have em : (l.map fun x => rV (.bl (decide (x.natAbs ≤ 1000)))) = (l.map fun x => decide (x.natAbs ≤ 1000)).map fun b => rV (.bl b) := by rw [List.map_map]; rfl
  rw [em] at lc
  have eall : (l.map fun x : Int => decide (x.natAbs ≤ 1000)).all id = l.all Kh371.okNumber := by
    rw [List.all_map]
    congr 1
    funext x
    exact okNum_abs x
  refine s_ifR (Evl.et_or (evt_ne (eln (Ex.refl _)) (evp_lts TF (evp_var (i := 0) rfl h0))) fun _ => Evl.et_not (evt_B (evp_all lc))) (fun z H1 e1 => ?_) fun z H1 e1 => ?_
  · rw [eall] at z
    have hz : l.length ≠ L ∨ l.all Kh371.okNumber = false := by
      rw [Bool.or_eq_true] at z
      rcases z with z | z
      · left
        intro he
        rw [decide_eq_true (show (l.length : Int) = (L : Int) by omega)] at z
        cases z
      · right
        simpa using z
    refine s_retF e1 (evf_one (evp_c rfl)) fun v H' nn e hv => q v H' nn e ?_
    unfold ansAt
    rw [if_pos hz]
    exact hv
  · rw [eall, Bool.or_eq_false_iff] at z
    have hlen : l.length = L := by
      have h2 : decide ((l.length : Int) = (L : Int)) = true := by simpa using z.1
      have := of_decide_eq_true h2
      omega
    have hall : l.all Kh371.okNumber = true := by simpa using z.2
    have hab : ∀ v ∈ l, v.natAbs ≤ 1000 := fun v hv => by
      have := List.all_eq_true.mp hall v hv
      rw [← okNum_abs] at this
      exact of_decide_eq_true this
    obtain ⟨b, n, g, hb1, hb2, hb3⟩ := hR.gd
    refine s_set (σ2 := fun v => [some v0, some v1, some v2, some v, none]) (fun _ => rfl) (evp_call (E := E0) (evps_cons (evp_var (i := 1) rfl (Rp.stay _ e1 h1)) (evps_cons (evp_var (i := 2) rfl (Rp.stay _ e1 h2)) evps_nil)) (cComes.mk g hb1 hb2 hb3 (by omega) hab)) fun v H2 e2 hv => ?_
    have hval := hR.value l (by omega) (fun t ht i hi => hfar t ht i (by omega))
    have hv : v = .int (coef (mPuts d 0 l) 0) := hv
    rw [hval] at hv
    subst hv
    have hno : ¬ (l.length ≠ L ∨ l.all Kh371.okNumber = false) := by
      rintro (h | h)
      · exact h hlen
      · rw [hall] at h
        cases h
    have eS : Kh370.SIZE = 1000000000000000 := by decide
    have eL : Kh374.LETTERS = 4 := rfl
    refine s_ifR (evt_gt (evp_abs (evp_var (i := 3) rfl rfl)) (evp_c rfl)) (fun y H3 e3 => ?_) fun y H3 e3 => ?_
    · have y := of_decide_eq_true y
      refine s_retF ((e1.trans e2).trans e3) (evf_one (evp_c rfl)) fun v H' nn e hv => q v H' nn e ?_
      unfold ansAt
      rw [if_neg hno, eL, eS]
      dsimp only
      rw [if_pos (by omega)]
      exact hv
    · have y := of_decide_eq_false y
      refine s_retF ((e1.trans e2).trans e3) (evf_lstI (l := [0, Kh370.value p (l ++ List.replicate (4 - l.length) 0)]) (evps_cons (evp_c rfl) (evps_cons (evp_var (i := 3) rfl rfl) evps_nil)) (by decide : 2 ≤ 100)) fun v H' nn e hv => q v H' nn e ?_
      unfold ansAt
      rw [if_neg hno, eL, eS]
      dsimp only
      rw [if_neg (by omega)]
      exact hv
/-! ### goes -/
inductive cGoes (CF C : Addr) : List Rp → Rp → Prop
  | mk {bg : Bool} {ds : List PtD} {L : Nat} {d : Raw} {p : Poly} {j : Nat} {v : Int} : L ≤ 4 → Rep d p → cGoes CF C [rFig CF C bg ds L, rD d, rInt j, rInt v] (rInts (ansGo L p j v))
theorem sc_goes : FnScope ["figure", "f", "index", "v"] ["figure", "f", "index", "v"] (defScope s_goes) := ⟨rfl, rfl, rfl, by decide +kernel, rfl, by decide +kernel, by decide +kernel⟩
theorem good_goes (d : Decl K mg "goes" s_goes) (TF : FigC K CF) (iN : IntC mg "NOT_THERE" (-2)) (iD : IntC mg "DOES_NOT_FIT" (-22)) (g_has_letter : GoodM P w K mg base CF "has_letter" 1 ["self", "index"] (pf (cHasLet CF C))) (g_value_fits : Good P w K mg base "value_fits" 1 ["number"] (pf cVal)) (g_yes_or_no : Good P w K mg base "yes_or_no" 1 ["verdict"] (pf cYes)) (g_is_nought : Good P w K mg base "is_nought" 1 ["f"] (pf cNought)) (g_put : Good P w K mg base "put" 2 ["f", "index", "v"] (pf cPut)) :
    Good P w K mg base "goes" 3 ["figure", "f", "index", "v"] (pfF (cGoes CF C)) := by
  refine d.good sc_goes (fun _ _ _ _ _ _ us hl => match us, hl with | [_, _, _, _], _ => rfl) (pfF_len fun _ _ c => by cases c; rfl) fun f cdv A outer s H vs Q E hr h => ?_
  obtain ⟨Rs, R, c, ha, q⟩ := h
  cases c with
  | @mk bg ds L d p j v hL hR =>
  obtain ⟨v0, _, rfl, h0, v1, _, rfl, h1, _, _, rfl, rfl, _, _, rfl, rfl, rfl⟩ := ha
  refine ⟨_, pss_cons (ps_if (pt_not (pt_val (pe_gm g_has_letter TF.cl (hr.mono (by decide)) (pv 0) (pa_cons (pv 2) pa_nil)))) (pss_one (ps_ret (pe_lst (pa_cons (pe_ic iN (by rfl)) pa_nil)))) pss_nil)
    (pss_cons (ps_if (pt_not (pt_val (pe_g g_value_fits (hr.mono (by decide)) (by rfl) (pa_cons (pv 3) pa_nil)))) (pss_one (ps_ret (pe_lst (pa_cons (pe_ic iD (by rfl)) pa_nil)))) pss_nil)
    (pss_one (ps_ret (pe_lst (pa_cons (pe_g g_yes_or_no (hr.mono (by decide)) (by rfl) (pa_cons (pe_g g_is_nought (hr.mono (by decide)) (by rfl) (pa_cons (pe_g g_put hr (by rfl) (pa_cons (pv 1) (pa_cons (pv 2) (pa_cons (pv 3) pa_nil)))) pa_nil)) pa_nil)) pa_nil))))), ?_⟩
  refine s_st (σ2 := [some v0, some v1, some (.int j), some (.int v)]) rfl ?_
  refine s_ifR (Evl.et_not (evt_B (evp_hasLet (evp_var (i := 0) rfl h0) (evp_var (i := 2) rfl rfl)))) (fun z H1 e1 => ?_) fun z H1 e1 => ?_
  · have hi : L ≤ j := Nat.le_of_not_lt fun hlt => by
      rw [decide_eq_true (show (0 : Int) ≤ (j : Int) by omega), decide_eq_true (show (j : Int) < (L : Int) by omega)] at z
      cases z
    refine s_retF e1 (evf_one (evp_c rfl)) fun v H' nn e hv => q v H' nn e ?_
    unfold ansGo
    rw [if_pos hi]
    exact hv
  have hi : j < L := by
    have h2 : (decide ((0 : Int) ≤ (j : Int)) && decide ((j : Int) < (L : Int))) = true := by simpa using z
    rw [Bool.and_eq_true, decide_eq_true_eq, decide_eq_true_eq] at h2
    omega
  refine s_ifR (Evl.et_not (evt_B (evp_call (E := E0) (evps_cons (evp_var (i := 3) rfl rfl) evps_nil) (cVal.mk v)))) (fun y H2 e2 => ?_) fun y H2 e2 => ?_
  · rw [okNum_abs] at y
    refine s_retF (e1.trans e2) (evf_one (evp_c rfl)) fun v H' nn e hv => q v H' nn e ?_
    unfold ansGo
    rw [if_neg (by omega), if_pos (by simpa using y)]
    exact hv
  · rw [okNum_abs] at y
    have hv : Kh371.okNumber v = true := by simpa using y
    have hva : v.natAbs ≤ 1000 := by
      rw [← okNum_abs] at hv
      exact of_decide_eq_true hv
    obtain ⟨b, n, g, hb1, hb2, hb3⟩ := hR.gd
    refine s_retF (e1.trans e2) (evf_one (evp_call (E := E0) (evps_cons (evp_call (E := E0) (evps_cons (evp_call (E := E0) (evps_cons (evp_var (i := 1) rfl (Rp.stay _ (e1.trans e2) h1)) (evps_cons (evp_var (i := 2) rfl rfl) (evps_cons (evp_var (i := 3) rfl rfl) evps_nil))) (cPut.mk g hb1 hb2 (by omega) (by omega) hva)) evps_nil) (cNought.mk (mPut d j v))) evps_nil) (cYes.mk _))) fun u H' nn e hu => q u H' nn e ?_
    rw [hR.goes (by omega) v] at hu
    unfold ansGo
    rw [if_neg (by omega), if_neg (by rw [hv]; decide)]
    exact hu
end
end Ds
end
section
set_option Elab.async false
set_option linter.all false
set_option maxRecDepth 100000
set_option maxHeartbeats 1000000
namespace Ds
open PySem PySem.Spec PyProof.Rows L2 Su
open Evl (Ex EvT EvL)
open Kh374 (Tri Fig)
open Kh370 (Poly)
/-! ### asked_of_one -/
def ansOne (L : Nat) (r : List Poly) (p : Nat) (nums : List Int) (xs : List (List Int)) : List Int := match r[(nums.getD 1 0).toNat]? with
  | none => [-2]
  | some q => if p = 22 then ansT q else if p = 24 then ansAt L q (xs.getD 1 []) else if p = 25 then [if xs.getD 1 [] = Kh374.row q then 1 else 0] else ansGo L q (nums.getD 2 0).toNat (nums.getD 3 0)
inductive cOne (CF C CC : Addr) : List Rp → Rp → Prop
  | mk {bg : Bool} {ds : List PtD} {L : Nat} {Ds : List Raw} {Ps : List Poly} {p : Nat} {nums : List Int} {xs : List (List Int)} {b : Nat} : L ≤ 4 → LR Rep Ds Ps → (∀ q ∈ Ps, ∀ t ∈ q, ∀ i, L ≤ i → t.2.getD i 0 = 0) → (p = 22 ∨ p = 24 ∨ p = 25 ∨ p = 26) → (nums.length : Int) = wholeL.getD p 0 → (xs.length : Int) = rowsL.getD p 0 →
      (∀ i, i < 3 → 0 ≤ nums.getD i 0) → (∀ x ∈ xs, x.length ≤ 1000) → cOne CF C CC [rFig CF C bg ds L, rLst (Ds.map rD), rCall CC p nums xs b] (rInts (ansOne L Ps p nums xs))
theorem getD_at {A : Type} {l : List A} {i : Nat} (d : A) (h : i < l.length) : l[i]? = some (l.getD i d) := by
  rw [List.getD_eq_getElem?_getD, List.getElem?_eq_getElem h]
  rfl
section
variable {P : Program} {w : World} {K : PySem.W.Frag} {mg : Str → Option Value} {base : Heap} {CF C CC : Addr}
theorem sc_asked_of_one : FnScope ["figure", "sums", "call", "i"] ["figure", "sums", "call"] (defScope s_asked_of_one) := ⟨rfl, rfl, rfl, by decide +kernel, rfl, by decide +kernel, by decide +kernel⟩
theorem good_asked_of_one (d : Decl K mg "asked_of_one" s_asked_of_one) (TC : CallC K CC) (ml : mg "len" = none) (iN : IntC mg "NOT_THERE" (-2)) (iR : IntC mg "REST" 22) (iA : IntC mg "AT" 24) (iI : IntC mg "IS" 25) (g_told_terms : Good P w K mg base "told_terms" 4 ["f"] (pfF cTold)) (g_at : Good P w K mg base "at" 4 ["figure", "f", "values"] (pfF (cAt CF C))) (g_yes_or_no : Good P w K mg base "yes_or_no" 1 ["verdict"] (pf cYes)) (g_flat_terms : Good P w K mg base "flat_terms" 3 ["f"] (pf cFlat))
    (g_goes : Good P w K mg base "goes" 3 ["figure", "f", "index", "v"] (pfF (cGoes CF C))) : Good P w K mg base "asked_of_one" 5 ["figure", "sums", "call"] (pfF (cOne CF C CC)) := by
  refine d.good sc_asked_of_one (fun _ _ _ _ _ _ us hl => match us, hl with | [_, _, _], _ => rfl) (pfF_len fun _ _ c => by cases c; rfl) fun f cdv A outer s H vs Q E hr h => ?_
  obtain ⟨Rs, R, c, ha, q⟩ := h
  cases c with
  | @mk bg ds L Ds Ps p nums xs b hL hR hfar hp hn hx h0n hx1 =>
  obtain ⟨v0, _, rfl, h0, v1, _, rfl, h1, v2, _, rfl, h2, rfl⟩ := ha
  refine ⟨_, pss_cons (ps_set (i := 3) sc_asked_of_one.nd rfl (.inl rfl) (pe_ix ix_list (pe_fld (pv 2) rfl) pe_int (fun _ _ => rfl)))
    (pss_cons (ps_if (pt_cmpR op_ge (pv 3) (pe_callB call_len_seq (by rfl) ml PySem.boot_len (pa_cons (pv 1) pa_nil)) (nomark _)) (pss_one (ps_ret (pe_lst (pa_cons (pe_ic iN (by rfl)) pa_nil)))) pss_nil)
    (pss_cons (ps_if (pt_cmpR op_eq (pe_fld (pv 2) rfl) (pe_ic iR (by rfl)) (nomark _)) (pss_one (ps_ret (pe_g g_told_terms hr (by rfl) (pa_cons (pe_ix ix_list (pv 1) (pv 3) (fun _ _ => rfl)) pa_nil)))) pss_nil)
    (pss_cons (ps_if (pt_cmpR op_eq (pe_fld (pv 2) rfl) (pe_ic iA (by rfl)) (nomark _)) (pss_one (ps_ret (pe_g g_at hr (by rfl) (pa_cons (pv 0) (pa_cons (pe_ix ix_list (pv 1) (pv 3) (fun _ _ => rfl)) (pa_cons (pe_ix ix_list (pe_fld (pv 2) rfl) pe_int (fun _ _ => rfl)) pa_nil)))))) pss_nil)
    (pss_cons (ps_if (pt_cmpR op_eq (pe_fld (pv 2) rfl) (pe_ic iI (by rfl)) (nomark _)) (pss_one (ps_ret (pe_lst (pa_cons (pe_g g_yes_or_no (hr.mono (by decide)) (by rfl) (pa_cons (pe_cmpR (op_eqD hr.units) (pe_ix ix_list (pe_fld (pv 2) rfl) pe_int (fun _ _ => rfl)) (pe_g g_flat_terms (hr.mono (by decide)) (by rfl) (pa_cons (pe_ix ix_list (pv 1) (pv 3) (fun _ _ => rfl)) pa_nil)) (nomark _)) pa_nil)) pa_nil)))) pss_nil)
    (pss_one (ps_ret (pe_g g_goes (hr.mono (by decide)) (by rfl) (pa_cons (pv 0) (pa_cons (pe_ix ix_list (pv 1) (pv 3) (fun _ _ => rfl)) (pa_cons (pe_ix ix_list (pe_fld (pv 2) rfl) pe_int (fun _ _ => rfl)) (pa_cons (pe_ix ix_list (pe_fld (pv 2) rfl) pe_int (fun _ _ => rfl)) pa_nil))))))))))), ?_⟩
  refine s_st (σ2 := [some v0, some v1, some v2, none]) rfl ?_
  have ec : ∀ {y : Option V} {H1 : Hp}, Ex H H1 → EvP (tVar 2) [some v0, some v1, some v2, y] H1 (rCall CC p nums xs b) := fun e => evp_var rfl (Rp.stay _ e h2)
  have ef : ∀ {y : Option V} {H1 : Hp}, Ex H H1 → EvP (tVar 0) [some v0, some v1, some v2, y] H1 (rFig CF C bg ds L) := fun e => evp_var rfl (Rp.stay _ e h0)
  have es : ∀ {y : Option V} {H1 : Hp}, Ex H H1 → EvP (tVar 1) [some v0, some v1, some v2, y] H1 (rLst (Ds.map rD)) := fun e => evp_var rfl (Rp.stay _ e h1)
  have hnl : 2 ≤ nums.length := by
    rcases hp with rfl | rfl | rfl | rfl <;> simp [wholeL] at hn <;> omega
  obtain ⟨m, hm⟩ := Int.eq_ofNat_of_zero_le (h0n 1 (by decide))
  refine s_set (σ2 := fun v => [some v0, some v1, some v2, some v]) (fun _ => rfl) (evp_ixI (j := 1) (evp_ctold TC (ec (Ex.refl _))) (evp_c rfl) (getD_at 0 (by omega))) fun v H1 e1 hv => ?_
  have hv : v = .int (nums.getD 1 0) := hv
  rw [hm] at hv
  subst hv
  have hlen := LR.len hR
  refine s_ifR (evt_ge (evp_var (i := 3) rfl rfl) (evp_lenL (es e1))) (fun z H2 e2 => ?_) fun z H2 e2 => ?_
  · have z := of_decide_eq_true z
    rw [List.length_map] at z
    refine s_retF (e1.trans e2) (evf_one (evp_c rfl)) fun v H' nn e hv => q v H' nn e ?_
    unfold ansOne
    rw [hm, Int.toNat_natCast, List.getElem?_eq_none (by omega)]
    exact hv
  have z := of_decide_eq_false z
  rw [List.length_map] at z
  have hml : m < Ps.length := by omega
  have hq : Ps[m]? = some Ps[m] := List.getElem?_eq_getElem hml
  have hqm : Ps[m] ∈ Ps := List.getElem_mem hml
  generalize Ps[m] = q0 at hq hqm
  obtain ⟨dd, hdd, hRep⟩ := LR.get hR hq
  have e12 := e1.trans e2
  have eD : ∀ {H3 : Hp}, Ex H H3 → EvP (tOp (rIxL K) (tVar 1) (tVar 3)) [some v0, some v1, some v2, some (.int (m : Int))] H3 (rD dd) := fun e => evp_ixL (j := m) (es e) (evp_var (i := 3) rfl rfl) (by rw [List.getElem?_map, hdd]; rfl)
  have ea : ansOne L Ps p nums xs = if p = 22 then ansT q0 else if p = 24 then ansAt L q0 (xs.getD 1 []) else if p = 25 then [if xs.getD 1 [] = Kh374.row q0 then 1 else 0] else ansGo L q0 (nums.getD 2 0).toNat (nums.getD 3 0) := by
    unfold ansOne
    rw [hm, Int.toNat_natCast, hq]
  rw [ea] at q
  refine s_ifR (evt_eq (evp_cnum TC (ec e12)) (evp_c rfl)) (fun y H3 e3 => ?_) fun y H3 e3 => ?_
  · have ep : p = 22 := by
      have := of_decide_eq_true y
      omega
    rw [if_pos ep] at q
    exact s_retF (e12.trans e3) (evf_call (E := E0) (evps_cons (eD (e12.trans e3)) evps_nil) (cTold.mk hRep)) fun v H' nn e hv => q v H' nn e hv
  have y := of_decide_eq_false y
  rw [if_neg (show ¬ p = 22 by omega)] at q
  have e13 := e12.trans e3
  refine s_ifR (evt_eq (evp_cnum TC (ec e13)) (evp_c rfl)) (fun u H4 e4 => ?_) fun u H4 e4 => ?_
  · have ep : p = 24 := by
      have := of_decide_eq_true u
      omega
    rw [if_pos ep] at q
    have hx2 : 1 < xs.length := by
      subst ep
      simp [rowsL] at hx
      omega
    exact s_retF (e13.trans e4) (evf_call (E := E0) (evps_cons (ef (e13.trans e4)) (evps_cons (eD (e13.trans e4)) (evps_cons (evp_ixL (j := 1) (R := rInts (xs.getD 1 [])) (evp_crows TC (ec (e13.trans e4))) (evp_c rfl) (by rw [List.getElem?_map, getD_at [] hx2]; rfl)) evps_nil))) (cAt.mk hL hRep (hfar q0 hqm) (hx1 _ (List.mem_of_getElem? (getD_at [] hx2))))) fun v H' nn e hv => q v H' nn e hv
  have u := of_decide_eq_false u
  rw [if_neg (show ¬ p = 24 by omega)] at q
  have e14 := e13.trans e4
  refine s_ifR (evt_eq (evp_cnum TC (ec e14)) (evp_c rfl)) (fun t H5 e5 => ?_) fun t H5 e5 => ?_
  · have ep : p = 25 := by
      have := of_decide_eq_true t
      omega
    rw [if_pos ep] at q
    have hx2 : 1 < xs.length := by
      subst ep
      simp [rowsL] at hx
      omega
    refine s_retF (e14.trans e5) (evf_one (evp_call (E := E0) (evps_cons (evp_eqL (evp_ixL (j := 1) (R := rInts (xs.getD 1 [])) (evp_crows TC (ec (e14.trans e5))) (evp_c rfl) (by rw [List.getElem?_map, getD_at [] hx2]; rfl)) (evp_call (E := E0) (evps_cons (eD (e14.trans e5)) evps_nil) (cFlat.mk hRep))) evps_nil) (cYes.mk _))) fun v H' nn e hv => q v H' nn e ?_
    by_cases hh : xs.getD 1 [] = Kh374.row q0
    · rw [if_pos hh]
      rw [decide_eq_true hh] at hv
      exact hv
    · rw [if_neg hh]
      rw [decide_eq_false hh] at hv
      exact hv
  · have t := of_decide_eq_false t
    rw [if_neg (show ¬ p = 25 by omega)] at q
    have ep : p = 26 := by omega
    have hn4 : nums.length = 4 := by
      subst ep
      simp [wholeL] at hn
      omega
    obtain ⟨j, hj⟩ := Int.eq_ofNat_of_zero_le (h0n 2 (by decide))
    rw [hj, Int.toNat_natCast] at q
    exact s_retF (e14.trans e5) (evf_call (E := E0) (evps_cons (ef (e14.trans e5)) (evps_cons (eD (e14.trans e5)) (evps_cons (evp_ixI (j := 2) (z := (j : Int)) (evp_ctold TC (ec (e14.trans e5))) (evp_c rfl) (by rw [← hj]; exact getD_at 0 (by omega))) (evps_cons (evp_ixI (j := 3) (evp_ctold TC (ec (e14.trans e5))) (evp_c rfl) (getD_at 0 (by omega))) evps_nil)))) (cGoes.mk hL hRep)) fun v H' nn e hv => q v H' nn e hv
end
/-! ### What is due of a saying's call -/
def ansSay (L : Nat) (r : List Poly) (p : Nat) (nums : List Int) (xs : List (List Int)) : List Int :=
  if p = 20 then [if r.all (fun q => q == []) then 1 else 0] else if p = 21 then (r.length : Int) :: r.map (fun q => (q.length : Int)) else if p = 23 then [if L ≤ (nums.getD 1 0).toNat then -2 else (Kh374.degree r (nums.getD 1 0).toNat : Int)] else ansOne L r p nums xs
theorem ans_told {a : Fig} {k : Nat} {l : List Nat} {f : List Poly → Kh374.Ans} {x : List Int} (h : ansOf (f (Kh374.left a k l)) = x) : ansOf (Kh374.told a k l f) = if refOf a k l ≠ 0 then [refOf a k l] else x := by
  rw [told_ref, ← h]
  split <;> rfl
theorem one_case (o : Option Poly) (f : Poly → Kh374.Ans) (g : Poly → List Int) (h : ∀ q, ansOf (f q) = g q) : ansOf (match o with
    | none => Kh374.say (-2)
    | some p => f p) = match o with
    | none => [-2]
    | some q => g q := by
  cases o with
  | none => rfl
  | some q => exact h q
theorem ans_say {a : Fig} {p : Nat} {nums : List Int} {xs : List (List Int)} (h20 : 20 ≤ p) (h26 : p ≤ 26) (hn : (nums.length : Int) = wholeL.getD p 0) (hx : (xs.length : Int) = rowsL.getD p 0) :
    ansC a p nums xs = if refOf a (nums.getD 0 0).toNat (natsL (xs.getD 0 [])) ≠ 0 then [refOf a (nums.getD 0 0).toNat (natsL (xs.getD 0 []))] else ansSay (Kh373.lettersOf a) (Kh374.left a (nums.getD 0 0).toNat (natsL (xs.getD 0 []))) p nums xs := by
  have hnn : nums.length = (wholeL.getD p 0).toNat := by omega
  have hxx : xs.length = (rowsL.getD p 0).toNat := by omega
  have hp : p = 20 ∨ p = 21 ∨ p = 22 ∨ p = 23 ∨ p = 24 ∨ p = 25 ∨ p = 26 := by omega
  rcases hp with rfl | rfl | rfl | rfl | rfl | rfl | rfl
  · match nums, hnn, xs, hxx with
    | [k], _, [l], _ => exact ans_told (f := fun r => Kh374.say (if r.all (fun p => p == []) then 1 else 0)) rfl
  · match nums, hnn, xs, hxx with
    | [k], _, [l], _ => exact ans_told (f := fun r => ⟨r.length, r.map fun p => (p.length : Int)⟩) rfl
  · match nums, hnn, xs, hxx with
    | [k, i], _, [l], _ =>
      refine ans_told (f := fun r => match r[i.toNat]? with
        | none => Kh374.say (-2)
        | some p => Kh374.terms p) ?_
      exact one_case ((Kh374.left a k.toNat (natsL l))[i.toNat]?) _ (fun q0 => if 22 = 22 then ansT q0 else if 22 = 24 then ansAt (Kh373.lettersOf a) q0 ([l].getD 1 []) else if 22 = 25 then [if [l].getD 1 [] = Kh374.row q0 then 1 else 0] else ansGo (Kh373.lettersOf a) q0 ([k, i].getD 2 0).toNat ([k, i].getD 3 0)) fun q0 => rfl
  · match nums, hnn, xs, hxx with
    | [k, i], _, [l], _ =>
      refine ans_told (f := fun r => if Kh373.lettersOf a ≤ i.toNat then Kh374.say (-2) else Kh374.say (Kh374.degree r i.toNat)) ?_
      show _ = [if Kh373.lettersOf a ≤ i.toNat then -2 else (Kh374.degree (Kh374.left a k.toNat (natsL l)) i.toNat : Int)]
      split <;> rfl
  · match nums, hnn, xs, hxx with
    | [k, i], _, [l, v], _ =>
      refine ans_told (f := fun r => match r[i.toNat]? with
        | none => Kh374.say (-2)
        | some p => if v.length ≠ Kh374.letters a ∨ v.all Kh371.okNumber = false then Kh374.say (-22) else
          let z := Kh370.value p (v ++ List.replicate (Kh374.LETTERS - v.length) 0)
          if z < -Kh370.SIZE ∨ Kh370.SIZE < z then Kh374.say (-75) else ⟨0, [z]⟩) ?_
      exact one_case ((Kh374.left a k.toNat (natsL l))[i.toNat]?) _ (fun q0 => if 24 = 22 then ansT q0 else if 24 = 24 then ansAt (Kh373.lettersOf a) q0 ([l, v].getD 1 []) else if 24 = 25 then [if [l, v].getD 1 [] = Kh374.row q0 then 1 else 0] else ansGo (Kh373.lettersOf a) q0 ([k, i].getD 2 0).toNat ([k, i].getD 3 0)) fun q0 => rfl
  · match nums, hnn, xs, hxx with
    | [k, i], _, [l, t], _ =>
      refine ans_told (f := fun r => match r[i.toNat]? with
        | none => Kh374.say (-2)
        | some p => Kh374.say (if Kh374.row p = t then 1 else 0)) ?_
      exact one_case ((Kh374.left a k.toNat (natsL l))[i.toNat]?) _ (fun q0 => if 25 = 22 then ansT q0 else if 25 = 24 then ansAt (Kh373.lettersOf a) q0 ([l, t].getD 1 []) else if 25 = 25 then [if [l, t].getD 1 [] = Kh374.row q0 then 1 else 0] else ansGo (Kh373.lettersOf a) q0 ([k, i].getD 2 0).toNat ([k, i].getD 3 0)) fun q0 => by
        show [if Kh374.row q0 = t then (1 : Int) else 0] = [if t = Kh374.row q0 then 1 else 0]
        by_cases h : Kh374.row q0 = t
        · rw [if_pos h, if_pos h.symm]
        · rw [if_neg h, if_neg fun z => h z.symm]
  · match nums, hnn, xs, hxx with
    | [k, i, j, v], _, [l], _ =>
      refine ans_told (f := fun r => match r[i.toNat]? with
        | none => Kh374.say (-2)
        | some p => if Kh374.letters a ≤ j.toNat then Kh374.say (-2) else if Kh371.okNumber v = false then Kh374.say (-22) else Kh374.say (if Kh370.goes Kh374.LETTERS p j.toNat v then 1 else 0)) ?_
      exact one_case ((Kh374.left a k.toNat (natsL l))[i.toNat]?) _ (fun q0 => if 26 = 22 then ansT q0 else if 26 = 24 then ansAt (Kh373.lettersOf a) q0 ([l].getD 1 []) else if 26 = 25 then [if [l].getD 1 [] = Kh374.row q0 then 1 else 0] else ansGo (Kh373.lettersOf a) q0 ([k, i, j, v].getD 2 0).toNat ([k, i, j, v].getD 3 0)) fun q0 => rfl
end Ds
end
section
set_option Elab.async false
set_option linter.all false
set_option maxRecDepth 100000
set_option maxHeartbeats 1000000
namespace Ds
open PySem PySem.Spec PyProof.Rows L2 Su
open Evl (Ex EvT EvL)
open Kh374 (Tri Fig)
open Kh370 (Poly)
section
variable {K : PySem.W.Frag} {σ : L2.St} {H : Hp} {te tf : TE}
theorem evp_toI {l : List Int} (h : EvP te σ H (rLst (l.map fun i => rInt i))) : EvP te σ H (rInts l) := fun H1 e Q q => h H1 e Q fun v H2 e2 ⟨p, us, hv, hp, hus⟩ => q v H2 e2 ⟨p, hv, by rw [hp, all2_ints hus]⟩
theorem evp_ofN {l : List Int} (h : EvL te σ H (l.map V.int)) : EvP te σ H (rLst (l.map fun i => rInt i)) := fun H1 e Q q => h H1 e Q fun p H2 _ e2 hp => q _ H2 e2 ⟨p, _, rfl, hp, ints_all2 l⟩
theorem all2_app {H : Hp} : ∀ {Rs Ss : List Rp} {us vs : List V}, All2 Rs us H → All2 Ss vs H → All2 (Rs ++ Ss) (us ++ vs) H
  | [], _, us, _, h, g => by
    rw [show us = [] from h]
    exact g
  | R :: Rs, _, us, _, ⟨v, r, h1, h2, h3⟩, g => by
    rw [h1]
    exact ⟨v, _, rfl, h2, all2_app h3 g⟩
theorem evp_catL {Rs Ss : List Rp} (h1 : EvP te σ H (rLst Rs)) (h2 : EvP tf σ H (rLst Ss)) (hz : Rs.length + Ss.length ≤ 1000) : EvP (tOp rCat te tf) σ H (rLst (Rs ++ Ss)) := fun H1 e Q q =>
  h1 H1 e _ fun x H2 e2 ⟨p, us, hx, hp, hus⟩ => h2 H2 (e.trans e2) _ fun y H3 e3 ⟨r, vs, hy, hr, hvs⟩ => ⟨p, r, _, _, hx, hy, e3 _ _ hp, hr, by rw [hus.len, hvs.len]; exact Nat.le_trans hz (by decide), fun z nz => q _ _ (e2.trans (e3.trans (Ex.new nz))) ⟨z, _, rfl, upd_same, all2_app (hus.stay (e3.trans (Ex.new nz))) (hvs.stay (Ex.new nz))⟩⟩
end
theorem mSay_len {A : Type} (o : Kh374.Ops A) (k : Nat) (p : List (Tri A)) (m n : Int) : 0 < (mSay o k p m n).length ∧ (mSay o k p m n).length ≤ 2 := by
  match k with
  | 0 => exact ⟨(by decide : 0 < 2), (by decide : 2 ≤ 2)⟩
  | 1 => exact ⟨(by decide : 0 < 1), (by decide : 1 ≤ 2)⟩
  | 2 => exact ⟨(by decide : 0 < 1), (by decide : 1 ≤ 2)⟩
  | 3 => exact ⟨(by decide : 0 < 1), (by decide : 1 ≤ 2)⟩
  | 4 => exact ⟨(by decide : 0 < 1), (by decide : 1 ≤ 2)⟩
  | 5 => exact ⟨(by decide : 0 < 1), (by decide : 1 ≤ 2)⟩
  | 6 => exact ⟨(by decide : 0 < 1), (by decide : 1 ≤ 2)⟩
  | 7 => exact ⟨(by decide : 0 < 1), (by decide : 1 ≤ 2)⟩
  | 8 => exact ⟨(by decide : 0 < 1), (by decide : 1 ≤ 2)⟩
  | 9 => exact ⟨(by decide : 0 < 1), (by decide : 1 ≤ 2)⟩
  | 10 => exact ⟨(by decide : 0 < 2), (by decide : 2 ≤ 2)⟩
  | 11 => exact ⟨(by decide : 0 < 1), (by decide : 1 ≤ 2)⟩
  | k + 12 => exact ⟨(by decide : 0 < 2), (by decide : 2 ≤ 2)⟩
theorem figOk_len {a : Fig} (h : FigOk a) : a.length ≤ 12 := by
  cases h with
  | nil => exact Nat.zero_le _
  | snoc h hs =>
    have := hs.room
    rw [List.length_append]
    show _ + 1 ≤ 12
    omega
theorem SayOk.small {a : Fig} (ok : FigOk a) {k : Nat} {l : List Int} (h : SayOk a k l) : ∀ j, j < 6 → 4 ≤ j → (natsL l).getD j 0 ≤ 1000 := by
  intro j hj h4
  by_cases h5 : k = 5
  · have hh : j = 4 ∨ j = 5 := by omega
    rcases hh with rfl | rfl
    · exact (h.num h5).1
    · exact (h.num h5).2
  · have hl : l.length = sayCnt k := by
      have hz : sayNum k = 0 := (by decide : ∀ k : Nat, k < 13 → k ≠ 5 → sayNum k = 0) k h.kind h5
      have := h.len
      omega
    have hp := h.pts
    rw [← hl, List.take_length] at hp
    unfold natsL
    rw [List.getD_eq_getElem?_getD, List.getElem?_map]
    cases e : l[j]? with
    | none => exact Nat.zero_le _
    | some x =>
      have h1 := hp x (List.mem_of_getElem? e)
      have h2 := figOk_len ok
      show x.toNat ≤ 1000
      omega
inductive cAsk (CF C CC : Addr) : List Rp → Rp → Prop
  | mk {a : Fig} {ds : List PtD} {p : Nat} {nums : List Int} {xs : List (List Int)} {b : Nat} : FigOk a → FigR a ds → 20 ≤ p → p ≤ 26 → (nums.length : Int) = wholeL.getD p 0 → (xs.length : Int) = rowsL.getD p 0 → (∀ i, i < 3 → 0 ≤ nums.getD i 0) → (∀ x ∈ xs, x.length ≤ 1000) → (∀ x ∈ xs.getD 0 [], 0 ≤ x) →
      cAsk CF C CC [rFig CF C true ds (Kh373.lettersOf a), rCall CC p nums xs b] (rInts (ansC a p nums xs))
section
variable {P : Program} {w : World} {K : PySem.W.Frag} {mg : Str → Option Value} {base : Heap} {CF C CC : Addr}
theorem sc_asked : FnScope ["figure", "call", "kind", "its", "refusal", "sums", "f"] ["figure", "call"] (defScope s_asked) := ⟨rfl, rfl, rfl, by decide +kernel, rfl, by decide +kernel, by decide +kernel⟩
theorem good_asked (d : Decl K mg "asked" s_asked) (TC : CallC K CC) (ml : mg "len" = none) (mall : mg "all" = none) (iH : IntC mg "HOLDS" 20) (iR : IntC mg "RESTS" 21) (iP : IntC mg "POWER" 23) (g_refusal_of : Good P w K mg base "refusal_of" 3 ["figure", "kind", "its"] (pf (cRef CF C))) (g_left : Good P w K mg base "left" 11 ["kind", "told"] (pf (cLeft C))) (g_named_points : Good P w K mg base "named_points" 2 ["figure", "kind", "its"] (pf (cNamed CF C)))
    (g_points_in_saying : Good P w K mg base "points_in_saying" 1 ["kind"] (pf cPtsIn)) (g_yes_or_no : Good P w K mg base "yes_or_no" 1 ["verdict"] (pf cYes)) (g_is_nought : Good P w K mg base "is_nought" 1 ["f"] (pf cNought)) (g_power : Good P w K mg base "power" 3 ["figure", "sums", "index"] (pfF (cPower CF C))) (g_asked_of_one : Good P w K mg base "asked_of_one" 5 ["figure", "sums", "call"] (pfF (cOne CF C CC))) :
    Good P w K mg base "asked" 12 ["figure", "call"] (pfF (cAsk CF C CC)) := by
  refine d.good sc_asked (fun _ _ _ _ _ _ us hl => match us, hl with | [_, _], _ => rfl) (pfF_len fun _ _ c => by cases c; rfl) fun f cdv A outer s H vs Q E hr h => ?_
  obtain ⟨Rs, R, c, ha, q⟩ := h
  cases c with
  | @mk a ds p nums xs b ok hF h20 h26 hn hx h0n hx1 h0x =>
  obtain ⟨v0, _, rfl, h0, v1, _, rfl, h1, rfl⟩ := ha
  refine ⟨_, pss_cons (ps_set (i := 2) sc_asked.nd rfl (.inl rfl) (pe_ix ix_list (pe_fld (pv 1) rfl) pe_int (fun _ _ => rfl)))
    (pss_cons (ps_set (i := 3) sc_asked.nd rfl (.inl rfl) (pe_ix ix_list (pe_fld (pv 1) rfl) pe_int (fun _ _ => rfl)))
    (pss_cons (ps_set (i := 4) sc_asked.nd rfl (.inl rfl) (pe_g g_refusal_of (hr.mono (by decide)) (by rfl) (pa_cons (pv 0) (pa_cons (pv 2) (pa_cons (pv 3) pa_nil)))))
    (pss_cons (ps_if (pt_cmpR op_ne (pv 4) pe_int (nomark _)) (pss_one (ps_ret (pe_lst (pa_cons (pv 4) pa_nil)))) pss_nil)
    (pss_cons (ps_set (i := 5) sc_asked.nd rfl (.inl rfl) (pe_g g_left hr (by rfl) (pa_cons (pv 2) (pa_cons (pe_op op_cat (pe_g g_named_points (hr.mono (by decide)) (by rfl) (pa_cons (pv 0) (pa_cons (pv 2) (pa_cons (pv 3) pa_nil)))) (pe_slice sl_list (pv 3) (po_some (pe_g g_points_in_saying (hr.mono (by decide)) (by rfl) (pa_cons (pv 2) pa_nil))) po_none)) pa_nil))))
    (pss_cons (ps_if (pt_cmpR op_eq (pe_fld (pv 1) rfl) (pe_ic iH (by rfl)) (nomark _)) (pss_one (ps_ret (pe_lst (pa_cons (pe_g g_yes_or_no (hr.mono (by decide)) (by rfl) (pa_cons (pe_callB (cr_all rfl) (by rfl) mall (by decide +kernel) (pa_cons (pe_lc (own := [("f", 6)]) (g := gName 6) (by rfl) sc_asked.nd (pi_list (pv 5))
      (blkOk_by (own := [("f", 6)]) (N := ["figure", "call", "kind", "its", "refusal", "sums", "f"]) (sc := defScope s_asked) (by decide +kernel)) (fun _ _ _ _ _ => pg_name (i := 6) sc_asked.nd rfl (Or.inl rfl)) (fun _ _ _ _ _ => pts_nil) (fun _ _ _ _ _ => pe_g g_is_nought (hr.mono (by decide)) (by rfl) (pa_cons (pv 6) pa_nil))) pa_nil)) pa_nil)) pa_nil)))) pss_nil)
    (pss_cons (ps_if (pt_cmpR op_eq (pe_fld (pv 1) rfl) (pe_ic iR (by rfl)) (nomark _)) (pss_one (ps_ret (pe_op op_cat (pe_lst (pa_cons (pe_callB call_len_seq (by rfl) ml PySem.boot_len (pa_cons (pv 5) pa_nil)) pa_nil)) (pe_lc (own := [("f", 6)]) (g := gName 6) (by rfl) sc_asked.nd (pi_list (pv 5))
      (blkOk_by (own := [("f", 6)]) (N := ["figure", "call", "kind", "its", "refusal", "sums", "f"]) (sc := defScope s_asked) (by decide +kernel)) (fun _ _ _ _ _ => pg_name (i := 6) sc_asked.nd rfl (Or.inl rfl)) (fun _ _ _ _ _ => pts_nil) (fun _ _ _ _ _ => pe_callB call_lenD (by rfl) ml PySem.boot_len (pa_cons (pv 6) pa_nil)))))) pss_nil)
    (pss_cons (ps_if (pt_cmpR op_eq (pe_fld (pv 1) rfl) (pe_ic iP (by rfl)) (nomark _)) (pss_one (ps_ret (pe_g g_power (hr.mono (by decide)) (by rfl) (pa_cons (pv 0) (pa_cons (pv 5) (pa_cons (pe_ix ix_list (pe_fld (pv 1) rfl) pe_int (fun _ _ => rfl)) pa_nil)))))) pss_nil)
    (pss_one (ps_ret (pe_g g_asked_of_one (hr.mono (by decide)) (by rfl) (pa_cons (pv 0) (pa_cons (pv 5) (pa_cons (pv 1) pa_nil))))))))))))), ?_⟩
  refine s_st (σ2 := [some v0, some v1, none, none, none, none, none]) rfl ?_
  have ec : ∀ {y2 y3 y4 y5 y6 : Option V} {H1 : Hp}, Ex H H1 → EvP (tVar 1) [some v0, some v1, y2, y3, y4, y5, y6] H1 (rCall CC p nums xs b) := fun e => evp_var rfl (Rp.stay _ e h1)
  have ef : ∀ {y2 y3 y4 y5 y6 : Option V} {H1 : Hp}, Ex H H1 → EvP (tVar 0) [some v0, some v1, y2, y3, y4, y5, y6] H1 (rFig CF C true ds (Kh373.lettersOf a)) := fun e => evp_var rfl (Rp.stay _ e h0)
  have hp7 : p = 20 ∨ p = 21 ∨ p = 22 ∨ p = 23 ∨ p = 24 ∨ p = 25 ∨ p = 26 := by omega
  have hnl : 0 < nums.length := by
    rcases hp7 with rfl | rfl | rfl | rfl | rfl | rfl | rfl <;> simp [wholeL] at hn <;> omega
  have hxl : 0 < xs.length := by
    rcases hp7 with rfl | rfl | rfl | rfl | rfl | rfl | rfl <;> simp [rowsL] at hx <;> omega
  obtain ⟨k, hk⟩ := Int.eq_ofNat_of_zero_le (h0n 0 (by decide))
  have ea := ans_say (a := a) h20 h26 hn hx
  rw [hk, Int.toNat_natCast] at ea
  rw [ea] at q
  have hx0 := getD_at [] hxl
  have hl1 := hx1 _ (List.mem_of_getElem? hx0)
  generalize xs.getD 0 [] = l at q h0x hx0 hl1
  -- kind, its
  refine s_set (σ2 := fun v => [some v0, some v1, some v, none, none, none, none]) (fun _ => rfl) (evp_ixI (j := 0) (evp_ctold TC (ec (Ex.refl _))) (evp_c rfl) (getD_at 0 hnl)) fun v H1 e1 hv => ?_
  have hv : v = .int (nums.getD 0 0) := hv
  rw [hk] at hv
  subst hv
  refine s_set (σ2 := fun v => [some v0, some v1, some (.int k), some v, none, none, none]) (fun _ => rfl) (evp_ixL (j := 0) (R := rInts l) (evp_crows TC (ec e1)) (evp_c rfl) (by rw [List.getElem?_map, hx0]; rfl)) fun v3 H2 e2 h3 => ?_
  have e12 := e1.trans e2
  have ei : ∀ {y4 y5 y6 : Option V} {H3 : Hp}, Ex H2 H3 → EvP (tVar 3) [some v0, some v1, some (.int k), some v3, y4, y5, y6] H3 (rInts l) := fun e => evp_var rfl (Rp.stay _ e h3)
  -- refusal
  refine s_set (σ2 := fun v => [some v0, some v1, some (.int k), some v3, some v, none, none]) (fun _ => rfl) (evp_call (E := E0) (evps_cons (ef e12) (evps_cons (evp_var (i := 2) rfl rfl) (evps_cons (ei (Ex.refl _)) evps_nil))) (cRef.mk (k := k) ok hF h0x hl1)) fun v4 H3 e3 h4 => ?_
  have h4 : v4 = .int (refOf a k (natsL l)) := h4
  subst h4
  have e13 := e12.trans e3
  refine s_ifR (evt_ne (evp_var (i := 4) rfl rfl) (evp_c rfl)) (fun z H4 e4 => ?_) fun z H4 e4 => ?_
  · have hne : refOf a k (natsL l) ≠ 0 := fun h => by
      rw [decide_eq_true h] at z
      cases z
    refine s_retF (e13.trans e4) (evf_one (evp_var (i := 4) rfl rfl)) fun v H' nn e hv => q v H' nn e ?_
    rw [if_pos hne]
    exact hv
  have hz : refOf a k (natsL l) = 0 := by
    have h2 : decide (refOf a k (natsL l) = 0) = true := by simpa using z
    exact of_decide_eq_true h2
  rw [if_neg (by rw [hz]; decide)] at q
  have sok := sayOk_of h0x hz
  have e14 := e13.trans e4
  -- sums
  have g4 := sok.small ok 4 (by decide) (by decide)
  have g5 := sok.small ok 5 (by decide) (by decide)
  have hcnt : sayCnt k ≤ l.length := by have := sok.len; omega
  have hpl : ∀ x ∈ l.take (sayCnt k), 0 ≤ x ∧ x < (ds.length : Int) := fun x hxm => by
    have := sok.pts x hxm
    have := hF.1
    omega
  have hLR := left_is ok hF sok.ins g4 g5 sok.wide
  have evt := evp_catL (te := tCall (pf (cNamed CF C)) [] E0 (tCons (tVar 0) (tCons (tVar 2) (tCons (tVar 3) tNil)))) (tf := tSl (rSlL K) (tVar 3) (tPart (tCall (pf cPtsIn) [] E0 (tCons (tVar 2) tNil))) tNoPart) (σ := [some v0, some v1, some (.int (k : Int)), some v3, some (.int (refOf a k (natsL l))), none, none]) (H := H4) (evp_call (evps_cons (ef e14) (evps_cons (evp_var (i := 2) rfl rfl) (evps_cons (ei (e3.trans e4)) evps_nil))) (cNamed.mk sok.kind hcnt hl1 hpl)) (evp_ofN (el_from (ei (e3.trans e4)) (evp_call (evps_cons (evp_var (i := 2) rfl rfl) evps_nil) (cPtsIn.mk k sok.kind)) hcnt)) (by
    rw [List.length_map, List.length_map, List.length_take, List.length_drop]
    omega)
  have etold : ((l.take (sayCnt k)).map fun x => rP C (pd ds x.toNat)) ++ ((l.drop (sayCnt k)).map fun i => rInt i) = toldS C ds k (natsL l) := by
    unfold toldS natsL
    rw [← List.map_take, ← List.map_drop, List.map_map, List.map_map]
    congr 1
    refine List.map_congr_left fun x hxm => ?_
    have := h0x x (List.mem_of_mem_drop hxm)
    show rInt x = rInt ((x.toNat : Nat) : Int)
    rw [Int.toNat_of_nonneg this]
  rw [etold] at evt
  refine s_set (σ2 := fun v => [some v0, some v1, some (.int k), some v3, some (.int (refOf a k (natsL l))), some v, none]) (fun _ => rfl) (evp_call (E := E0) (evps_cons (evp_var (i := 2) rfl rfl) (evps_cons evt evps_nil)) (cLeft.mk (say_c ok hF sok.kind (by unfold natsL; rw [List.length_map]; exact sok.len) sok.ins sok.num sok.wide))) fun v5 H5 e5 h5 => ?_
  have e15 := e14.trans e5
  generalize leftD ds k (natsL l) = Ds at hLR h5
  have hfar : ∀ q ∈ Kh374.left a k (natsL l), ∀ t ∈ q, ∀ i, Kh373.lettersOf a ≤ i → t.2.getD i 0 = 0 := fun q hq => left_far ok g4 g5 hq
  have hlen2 : 0 < (Kh374.left a k (natsL l)).length ∧ (Kh374.left a k (natsL l)).length ≤ 2 := by
    have e := congrArg List.length (left_ring ok k (natsL l))
    rw [List.length_map, ← mSay_ring] at e
    rw [e]
    exact mSay_len _ _ _ _ _
  generalize Kh374.left a k (natsL l) = Ps at q hLR hfar hlen2
  obtain ⟨p5, us, rfl, hp5, hus⟩ := h5
  obtain ⟨z1, z2, z3⟩ := zip_reps hus hLR
  have hp5' : H5 p5 = some (.lst ((List.zip us Ps).map (·.1))) := by rw [z1]; exact hp5
  have es : ∀ {H6 : Hp}, Ex H5 H6 → EvP (tVar 5) [some v0, some v1, some (.int k), some v3, some (.int (refOf a k (natsL l))), some (.ref p5), none] H6 (rLst (Ds.map rD)) := fun e => evp_var rfl ⟨p5, us, rfl, e _ _ hp5, hus.stay e⟩
  have hzl : (List.zip us Ps).length ≤ 1000 := by
    rw [List.length_zip]
    omega
  unfold ansSay at q
  refine s_ifR (evt_eq (evp_cnum TC (ec e15)) (evp_c rfl)) (fun y H6 e6 => ?_) fun y H6 e6 => ?_
  · have ep : p = 20 := by
      have := of_decide_eq_true y
      omega
    rw [if_pos ep] at q
    have lc := evp_lcS (K := K) (σ := [some v0, some v1, some (.int (k : Int)), some v3, some (.int (refOf a k (natsL l))), some (.ref p5), none]) (H := H6) (l := List.zip us Ps) (g := fun t => t.1) (j := 6) (vs := [6]) (tl := tVar 5) (te := tCall (pf cNought) [] E0 (tCons (tVar 6) tNil)) (fun t => rV (.bl (t.2 == []))) (evs_at (evp_var rfl rfl) (e6 _ _ hp5')) hzl (fun _ => rfl) (fun t ht H7 e7 => by
      obtain ⟨dd, hd1, hd2⟩ := z3 t ht
      have ev := evp_call (C := cNought) (E := E0) (ta := tCons (tVar 6) tNil) (σ := [some v0, some v1, some (.int (k : Int)), some v3, some (.int (refOf a k (natsL l))), some (.ref p5), some t.1]) (H := H7) (evps_cons (evp_var (i := 6) rfl (Rp.stay _ (e6.trans e7) hd1)) evps_nil) (cNought.mk dd)
      have eb : decide (dd = []) = (t.2 == []) := by
        rw [Bool.eq_iff_iff, decide_eq_true_eq, beq_iff_eq]
        exact hd2.nil
      rw [eb] at ev
      exact ev) (fun _ _ => apart_v _)
    have em : ((List.zip us Ps).map fun t : V × Poly => rV (.bl (t.2 == []))) = (Ps.map fun q => q == []).map fun b => rV (.bl b) := by
      conv => rhs; rw [← z2]
      rw [List.map_map, List.map_map]
      rfl
    rw [em] at lc
    refine s_retF (e15.trans e6) (evf_one (evp_call (E := E0) (evps_cons (evp_all lc) evps_nil) (cYes.mk _))) fun v H' nn e hv => q v H' nn e ?_
    rw [List.all_map] at hv
    exact hv
  have y := of_decide_eq_false y
  rw [if_neg (show ¬ p = 20 by omega)] at q
  have e16 := e15.trans e6
  refine s_ifR (evt_eq (evp_cnum TC (ec e16)) (evp_c rfl)) (fun u H7 e7 => ?_) fun u H7 e7 => ?_
  · have ep : p = 21 := by
      have := of_decide_eq_true u
      omega
    rw [if_pos ep] at q
    have e67 := e6.trans e7
    have lc := evp_lcS (K := K) (σ := [some v0, some v1, some (.int (k : Int)), some v3, some (.int (refOf a k (natsL l))), some (.ref p5), none]) (H := H7) (l := List.zip us Ps) (g := fun t => t.1) (j := 6) (vs := [6]) (tl := tVar 5) (te := tCB (fun xs H Q => ∃ a kvs, xs = [V.ref a] ∧ H a = some (.dK kvs) ∧ Q (.int kvs.length) H) (tCons (tVar 6) tNil)) (fun t => rInt (t.2.length : Int)) (evs_at (evp_var rfl rfl) (e67 _ _ hp5')) hzl (fun _ => rfl) (fun t ht H8 e8 => by
      obtain ⟨dd, hd1, hd2⟩ := z3 t ht
      have ev := evp_lenD (te := tVar 6) (σ := [some v0, some v1, some (.int (k : Int)), some v3, some (.int (refOf a k (natsL l))), some (.ref p5), some t.1]) (H := H8) (evp_var (i := 6) rfl (Rp.stay _ (e67.trans e8) hd1))
      rw [hd2.len] at ev
      exact ev) (fun _ _ => apart_v _)
    have em : ((List.zip us Ps).map fun t : V × Poly => rInt (t.2.length : Int)) = (Ps.map fun q => (q.length : Int)).map fun i => rInt i := by
      conv => rhs; rw [← z2]
      rw [List.map_map, List.map_map]
      rfl
    rw [em] at lc
    have hDs := LR.len hLR
    refine s_retF (e16.trans e7) (evf_cat (evp_one (evp_lenL (es e67))) (evp_toI lc) (by
      have h9 : (Ps.map fun q => (q.length : Int)).length = Ps.length := List.length_map _
      show 1 + _ ≤ _
      omega)) fun v H' nn e hv => q v H' nn e ?_
    rw [List.length_map, hDs] at hv
    exact hv
  have u := of_decide_eq_false u
  rw [if_neg (show ¬ p = 21 by omega)] at q
  have e17 := e16.trans e7
  have e67 := e6.trans e7
  refine s_ifR (evt_eq (evp_cnum TC (ec e17)) (evp_c rfl)) (fun t H8 e8 => ?_) fun t H8 e8 => ?_
  · have ep : p = 23 := by
      have := of_decide_eq_true t
      omega
    rw [if_pos ep] at q
    obtain ⟨j, hj⟩ := Int.eq_ofNat_of_zero_le (h0n 1 (by decide))
    have hn2 : 1 < nums.length := by
      subst ep
      simp [wholeL] at hn
      omega
    rw [hj, Int.toNat_natCast] at q
    exact s_retF (e17.trans e8) (evf_call (E := E0) (evps_cons (ef (e17.trans e8)) (evps_cons (es (e67.trans e8)) (evps_cons (evp_ixI (j := 1) (z := (j : Int)) (evp_ctold TC (ec (e17.trans e8))) (evp_c rfl) (by rw [← hj]; exact getD_at 0 hn2)) evps_nil))) (cPower.mk ok.letters hLR hlen2.1 (by omega))) fun v H' nn e hv => q v H' nn e hv
  · have t := of_decide_eq_false t
    rw [if_neg (show ¬ p = 23 by omega)] at q
    exact s_retF (e17.trans e8) (evf_call (E := E0) (evps_cons (ef (e17.trans e8)) (evps_cons (es (e67.trans e8)) (evps_cons (ec (e17.trans e8)) evps_nil))) (cOne.mk ok.letters hLR hfar (by omega) hn hx h0n hx1)) fun v H' nn e hv => q v H' nn e hv
end
end Ds
end
section
set_option Elab.async false
set_option linter.all false
set_option maxRecDepth 100000
set_option maxHeartbeats 1000000
namespace Ds
open PySem PySem.Spec PyProof.Rows L2 Su
open Evl (Ex EvT)
/-! ### The figure, as it changes -/
/-- all but the figure, its points' list and the list that is given -/
noncomputable def wo (fa pl gl : Addr) (H : Hp) : Hp := nw (fun b => b = fa ∨ b = pl ∨ b = gl) H
def fF (bg : Bool) (pl : Addr) (L : Nat) : List (Str × V) := [("begun", .bl bg), ("points", .ref pl), ("letters", .int L)]
theorem wo_ex (fa pl gl : Addr) (H : Hp) : Ex (wo fa pl gl H) H := nw_ex _ _
theorem wo_mono {fa pl gl : Addr} {H H' : Hp} (e : Ex H H') : Ex (wo fa pl gl H) (wo fa pl gl H') := nw_mono e
theorem wo_f {fa pl gl : Addr} {H : Hp} {o : HO} : wo fa pl gl (L2.upd H fa o) = wo fa pl gl H := nw_upd (.inl rfl)
theorem wo_p {fa pl gl : Addr} {H : Hp} {o : HO} : wo fa pl gl (L2.upd H pl o) = wo fa pl gl H := nw_upd (.inr (.inl rfl))
theorem wo_g {fa pl gl : Addr} {H : Hp} {o : HO} : wo fa pl gl (L2.upd H gl o) = wo fa pl gl H := nw_upd (.inr (.inr rfl))
/-- the figure at fa, its points' list at pl -/
structure FigAt (CF C fa pl gl : Addr) (bg : Bool) (ds : List PtD) (L : Nat) (H : Hp) : Prop where
  ins : ∃ dx, H fa = some (.ins CF dx (fF bg pl L))
  lst : ∃ us, H pl = some (.lst us) ∧ All2 (ds.map (rP C)) us (wo fa pl gl H)
  gls : ∃ gs, H gl = some (.lst gs)
  ng : gl ≠ pl
section
variable {CF C fa pl gl : Addr} {bg : Bool} {ds : List PtD} {L : Nat} {H H' : Hp}
theorem FigAt.stay (h : FigAt CF C fa pl gl bg ds L H) (e : Ex H H') : FigAt CF C fa pl gl bg ds L H' := by
  obtain ⟨⟨dx, h1⟩, ⟨us, h2, h3⟩, ⟨gs, h4⟩, h5⟩ := h
  exact ⟨⟨dx, e _ _ h1⟩, ⟨us, e _ _ h2, h3.stay (wo_mono e)⟩, ⟨gs, e _ _ h4⟩, h5⟩
theorem FigAt.nfp (h : FigAt CF C fa pl gl bg ds L H) : fa ≠ pl := fun z => by
  obtain ⟨⟨dx, h1⟩, ⟨us, h2, h3⟩, _⟩ := h
  rw [z, h2] at h1
  cases h1
theorem FigAt.nfg (h : FigAt CF C fa pl gl bg ds L H) : fa ≠ gl := fun z => by
  obtain ⟨⟨dx, h1⟩, _, ⟨gs, h4⟩, _⟩ := h
  rw [z, h4] at h1
  cases h1
theorem FigAt.rep (h : FigAt CF C fa pl gl bg ds L H) : (rFig CF C bg ds L).is (.ref fa) H := by
  obtain ⟨⟨dx, h1⟩, ⟨us, h2, h3⟩, _⟩ := h
  exact ⟨fa, dx, _, rfl, h1, _, _, rfl, rfl, _, _, rfl, ⟨pl, us, rfl, h2, h3.stay (wo_ex _ _ _ _)⟩, _, _, rfl, rfl, rfl⟩
end
/-- what stands but these, and the given list as it was -/
def Fr (fa pl pl' gl : Addr) (H H' : Hp) : Prop := Ex (wo fa pl gl H) (wo fa pl' gl H') ∧ ∀ o, H gl = some o → H' gl = some o
theorem Fr.ex {fa pl gl : Addr} {H H' : Hp} (e : Ex H H') : Fr fa pl pl gl H H' := ⟨wo_mono e, fun o h => e _ _ h⟩
theorem Fr.trans {fa p1 p2 p3 gl : Addr} {H H1 H2 : Hp} (a : Fr fa p1 p2 gl H H1) (b : Fr fa p2 p3 gl H1 H2) : Fr fa p1 p3 gl H H2 := ⟨a.1.trans b.1, fun o h => b.2 o (a.2 o h)⟩
theorem lkF_pts {bg : Bool} {pl : Addr} {L : Nat} : List.lookup ("points" : Str) (fF bg pl L) = some (.ref pl) := (lkg_past (by decide +kernel)).trans lkg_here
theorem lkF_lts {bg : Bool} {pl : Addr} {L : Nat} : List.lookup ("letters" : Str) (fF bg pl L) = some (.int L) := (lkg_past (by decide +kernel)).trans ((lkg_past (by decide +kernel)).trans lkg_here)
theorem putF_lts {bg : Bool} {pl : Addr} {L M : Nat} : putF "letters" (V.int (M : Int)) (fF bg pl L) = fF bg pl M := (put_past (by decide +kernel)).trans (congrArg _ ((put_past (by decide +kernel)).trans (congrArg _ put_here)))
theorem putF_pts {bg : Bool} {pl p2 : Addr} {L : Nat} : putF "points" (V.ref p2) (fF bg pl L) = fF bg p2 L := (put_past (by decide +kernel)).trans (congrArg _ put_here)
theorem putF_bg {b2 bg : Bool} {pl : Addr} {L : Nat} : putF "begun" (V.bl b2) (fF bg pl L) = fF b2 pl L := put_here
section
variable {P : Program} {w : World} {K : PySem.W.Frag} {mg : Str → Option Value} {base : Heap} {CF C : Addr}
/-! ### keep -/
def spKeep (CF C : Addr) : Sp := fun vs H Q _ => ∃ (fa pl gl : Addr) (ds : List PtD) (L : Nat) (d : PtD) (v : V), vs = [.ref fa, v] ∧ FigAt CF C fa pl gl true ds L H ∧ (rP C d).is v (wo fa pl gl H) ∧ d.kind < 13 ∧ ds.length < 1000 ∧
  (d.t.w = [] → ∀ H', Ex H H' → Q (.int (-33)) H') ∧ (d.t.w ≠ [] → ∀ H', FigAt CF C fa pl gl true (ds ++ [d]) (L + ownLetL.getD d.kind 0) H' → Fr fa pl pl gl H H' → Q (.int ds.length) H')
theorem sc_keep : FnScope ["self", "point"] ["self", "point"] (defScope s_Figure_keep) := ⟨rfl, rfl, rfl, by decide +kernel, rfl, by decide +kernel, by decide +kernel⟩
theorem good_keep (d : DeclM K CF "Figure" "keep" "Figure.keep" s_Figure_keep) (T : FigC K CF) (TP : PtC K C) (nK : NoAttr K C "kind") (ml : mg "len" = none) (iN : IntC mg "NEVER_THERE" (-33)) (tL : TupC K mg "OWN_LETTERS" (nI ownLetL)) (g_is_nought : Good P w K mg base "is_nought" 1 ["f"] (pf cNought)) : GoodM P w K mg base CF "keep" 2 ["self", "point"] (spKeep CF C) := by
  refine d.good sc_keep (fun _ _ _ _ _ _ us hl => match us, hl with | [_, _], _ => rfl) (fun vs H Q E h => ?_) fun f cdv A outer s H vs Q E hr h => ?_
  · obtain ⟨_, _, _, _, _, _, _, rfl, _⟩ := h
    rfl
  obtain ⟨aL, mL, sL⟩ := tL
  obtain ⟨fa, pl, gl, ds, L, d, v, rfl, hF, hP, hk, hlen, q33, qok⟩ := h
  refine ⟨_, pss_cons (ps_if (pt_val (pe_g g_is_nought hr (by rfl) (pa_cons (pe_fld (pv 1) rfl) pa_nil))) (pss_one (ps_ret (pe_ic iN (by rfl)))) pss_nil)
    (pss_cons (ps_expr (pe_bm PySem.F.plainAttrs_list PySem.F.slot_list_append PySem.F.type_list_append mt_append (pe_fld (pv 0) rfl) (pa_cons (pv 1) pa_nil)))
    (pss_cons (ps_fldaug (pv 0) (pe_ix ix_tup (pe_glob (v := .ref aL) rfl mL rfl) (pe_fld (pv 1) rfl) (fun _ _ => rfl)) in_add)
    (pss_one (ps_ret (pe_op op_sub (pe_callB call_len_seq (by rfl) ml PySem.boot_len (pa_cons (pe_fld (pv 0) rfl) pa_nil)) pe_int))))), ?_⟩
  refine s_st (σ2 := [some (.ref fa), some v]) rfl ?_
  refine s_ifR (b := decide (d.t.w = [])) (fun H1 e Q q => evp_call (E := E0) (evps_cons (evp_w TP.cl TP.nW (evp_var (i := 1) (R := rP C d) rfl (Rp.stay _ (wo_ex _ _ _ _) hP))) evps_nil) (cNought.mk d.t.w) H1 e _ fun x H2 e2 hx => ⟨_, hx, q H2 e2⟩) (fun z H1 e1 => ?_) fun z H1 e1 => ?_
  · exact q33 (of_decide_eq_true z) H1 e1
  have hF1 := hF.stay e1
  have nfp := hF.nfp
  have nfg := hF.nfg
  obtain ⟨⟨dx, h1⟩, ⟨us, h2, h3⟩, ⟨gs, h4⟩, h5⟩ := hF1
  have hP1 := Rp.stay _ (wo_mono (fa := fa) (pl := pl) (gl := gl) e1) hP
  have hul : us.length = ds.length := by rw [h3.len, List.length_map]
  refine s_seq (Evl.s_app (K := K) h2 (ev_of (evp_self T.cl T.nP rfl h1 lkF_pts)) (ev_of (evp_var (v := v) rfl rfl)) (by omega) fun H2 e2 => ?_)
  have hP2 : (rP C d).is v (L2.upd H2 pl (.lst (us ++ [v]))) := Rp.stay _ (wo_ex fa pl gl _) (by rw [wo_p]; exact Rp.stay _ (wo_mono e2) hP1)
  have fa2 : L2.upd H2 pl (.lst (us ++ [v])) fa = some (.ins CF dx (fF true pl L)) := by rw [upd_ne nfp]; exact e2 _ _ h1
  refine ⟨_, rfl, fa, CF, dx, _, _, rfl, fa2, T.cl, T.nL, lkF_lts, evp_ixC (σ := [some (.ref fa), some v]) (j := d.kind) sL (evp_kind TP.cl nK (evp_var (i := 1) rfl hP2)) (nI_get (own_at (l := ownLetL) hk)) _ (Ex.refl _) _ fun x H3 e3 hx => ?_⟩
  have hx : x = .int ((ownLetL.getD d.kind 0 : Nat) : Int) := hx
  subst hx
  refine ⟨_, _, rfl, rfl, dx, _, e3 _ _ fa2, by show 3 < 1000; decide, ?_⟩
  have cn : ((L : Int) + ((ownLetL.getD d.kind 0 : Nat) : Int)) = ((L + ownLetL.getD d.kind 0 : Nat) : Int) := by omega
  dsimp only [Ends.nx]
  rw [cn, putF_lts]
  have up : Ex (wo fa pl gl H2) (wo fa pl gl (L2.upd H3 fa (.ins CF dx (fF true pl (L + ownLetL.getD d.kind 0))))) := by
    rw [wo_f]
    have e := wo_mono (fa := fa) (pl := pl) (gl := gl) e3
    rw [wo_p] at e
    exact e
  have F4 : FigAt CF C fa pl gl true (ds ++ [d]) (L + ownLetL.getD d.kind 0) (L2.upd H3 fa (.ins CF dx (fF true pl (L + ownLetL.getD d.kind 0)))) := by
    refine ⟨⟨dx, upd_same⟩, ⟨us ++ [v], ?_, ?_⟩, ⟨gs, ?_⟩, h5⟩
    · rw [upd_ne nfp.symm]
      exact e3 _ _ upd_same
    · rw [List.map_append]
      exact all2_snoc (h3.stay ((wo_mono e2).trans up)) (Rp.stay _ ((wo_mono e2).trans up) hP1)
    · rw [upd_ne nfg.symm]
      exact e3 _ _ (by rw [upd_ne h5]; exact e2 _ _ h4)
  have K4 : Fr fa pl pl gl H (L2.upd H3 fa (.ins CF dx (fF true pl (L + ownLetL.getD d.kind 0)))) := ⟨(wo_mono (e1.trans e2)).trans up, fun o ho => by
    rw [upd_ne nfg.symm]
    exact e3 _ _ (by rw [upd_ne h5]; exact e2 _ _ (e1 _ _ ho))⟩
  refine s_retP (evp_sub (evp_lenL (evp_pts T (evp_var (i := 0) rfl F4.rep))) (evp_c rfl)) fun x H5 e5 hx => ?_
  have hx : x = .int ((((ds ++ [d]).map (rP C)).length : Int) - 1) := hx
  have ex : ((((ds ++ [d]).map (rP C)).length : Int) - 1) = (ds.length : Int) := by
    rw [List.length_map, List.length_append]
    show ((ds.length + 1 : Nat) : Int) - 1 = _
    omega
  rw [hx, ex]
  exact qok (of_decide_eq_false z) H5 (F4.stay e5) (K4.trans (Fr.ex e5))
/-! ### take_out -/
def spOut (CF C : Addr) : Sp := fun vs H Q _ => ∃ (fa pl gl : Addr) (ds : List PtD) (L : Nat), vs = [.ref fa] ∧ FigAt CF C fa pl gl true ds L H ∧
  ((ds = [] ∧ ∀ H', Ex H H' → Q (.int (-2)) H') ∨ ∃ ds' d L', ds = ds' ++ [d] ∧ d.kind < 13 ∧ L = L' + ownLetL.getD d.kind 0 ∧ ∀ H', FigAt CF C fa pl gl true ds' L' H' → Fr fa pl pl gl H H' → Q (.int ds'.length) H')
theorem all2_last {H : Hp} : ∀ {Rs : List Rp} {R : Rp} {us : List V}, All2 (Rs ++ [R]) us H → ∃ vs v, us = vs ++ [v] ∧ All2 Rs vs H ∧ R.is v H
  | [], R, us, ⟨v, r, h1, h2, h3⟩ => ⟨[], v, by rw [h1, show r = [] from h3]; rfl, rfl, h2⟩
  | S :: Rs, R, us, ⟨v, r, h1, h2, h3⟩ => by
    obtain ⟨vs, u, e1, e2, e3⟩ := all2_last h3
    exact ⟨v :: vs, u, by rw [h1, e1]; rfl, ⟨v, vs, rfl, h2, e2⟩, e3⟩
theorem sc_take_out : FnScope ["self", "point"] ["self"] (defScope s_Figure_take_out) := ⟨rfl, rfl, rfl, by decide +kernel, rfl, by decide +kernel, by decide +kernel⟩
theorem good_take_out (d : DeclM K CF "Figure" "take_out" "Figure.take_out" s_Figure_take_out) (T : FigC K CF) (TP : PtC K C) (nK : NoAttr K C "kind") (ml : mg "len" = none) (iN : IntC mg "NOT_THERE" (-2)) (tL : TupC K mg "OWN_LETTERS" (nI ownLetL)) : GoodM P w K mg base CF "take_out" 1 ["self"] (spOut CF C) := by
  refine d.good sc_take_out (fun _ _ _ _ _ _ us hl => match us, hl with | [_], _ => rfl) (fun vs H Q E h => ?_) fun f cdv A outer s H vs Q E hr h => ?_
  · obtain ⟨_, _, _, _, _, rfl, _⟩ := h
    rfl
  obtain ⟨aL, mL, sL⟩ := tL
  obtain ⟨fa, pl, gl, ds, L, rfl, hF, hq⟩ := h
  refine ⟨_, pss_cons (ps_if (pt_cmpR op_eq (pe_callB call_len_seq (by rfl) ml PySem.boot_len (pa_cons (pe_fld (pv 0) rfl) pa_nil)) pe_int (nomark _)) (pss_one (ps_ret (pe_ic iN (by rfl)))) pss_nil)
    (pss_cons (ps_set (i := 1) sc_take_out.nd rfl (.inl rfl) (pe_bm0 PySem.F.plainAttrs_list PySem.F.slot_list_pop PySem.F.type_list_pop mt_pop (pe_fld (pv 0) rfl)))
    (pss_cons (ps_fldaug (pv 0) (pe_ix ix_tup (pe_glob (v := .ref aL) rfl mL rfl) (pe_fld (pv 1) rfl) (fun _ _ => rfl)) in_sub)
    (pss_one (ps_ret (pe_callB call_len_seq (by rfl) ml PySem.boot_len (pa_cons (pe_fld (pv 0) rfl) pa_nil)))))), ?_⟩
  refine s_st (σ2 := [some (.ref fa), none]) rfl ?_
  refine s_ifR (evt_eq (evp_lenL (evp_pts T (evp_var (i := 0) rfl hF.rep))) (evp_c rfl)) (fun z H1 e1 => ?_) fun z H1 e1 => ?_
  · have z := of_decide_eq_true z
    rw [List.length_map] at z
    rcases hq with ⟨_, hq⟩ | ⟨ds', d, L', e, _⟩
    · exact hq H1 e1
    · rw [e, List.length_append] at z
      have : ((ds'.length + 1 : Nat) : Int) = 0 := z
      omega
  have z := of_decide_eq_false z
  rw [List.length_map] at z
  rcases hq with ⟨e, _⟩ | ⟨ds', d, L', rfl, hk, hL, hq⟩
  · rw [e] at z
    exact absurd rfl z
  have nfp := hF.nfp
  have nfg := hF.nfg
  obtain ⟨⟨dx, h1⟩, ⟨us, h2, h3⟩, ⟨gs, h4⟩, h5⟩ := hF.stay e1
  rw [List.map_append] at h3
  obtain ⟨vs, v, rfl, h3, hv⟩ := all2_last h3
  have hlast : (vs ++ [v])[(vs ++ [v]).length - 1]? = some v := by
    rw [List.length_append]
    show (vs ++ [v])[vs.length + 1 - 1]? = _
    rw [Nat.add_sub_cancel, List.getElem?_append_right (Nat.le_refl _), Nat.sub_self]
    rfl
  refine ⟨_, rfl, fa, CF, dx, _, _, rfl, h1, T.cl, T.nP, lkF_pts, .inl ⟨rfl, _, .inl (.inl h2)⟩, pl, _, v, rfl, rfl, h2, hlast, ?_⟩
  rw [List.dropLast_concat]
  show tSeq _ _ _ [some (.ref fa), some v] (L2.upd H1 pl (.lst vs))
  have hv2 : (rP C d).is v (L2.upd H1 pl (.lst vs)) := Rp.stay _ (wo_ex fa pl gl _) (by rw [wo_p]; exact hv)
  have fa2 : L2.upd H1 pl (.lst vs) fa = some (.ins CF dx (fF true pl L)) := by rw [upd_ne nfp]; exact h1
  refine ⟨_, rfl, fa, CF, dx, _, _, rfl, fa2, T.cl, T.nL, lkF_lts, evp_ixC (σ := [some (.ref fa), some v]) (j := d.kind) sL (evp_kind TP.cl nK (evp_var (i := 1) rfl hv2)) (nI_get (own_at (l := ownLetL) hk)) _ (Ex.refl _) _ fun x H3 e3 hx => ?_⟩
  have hx : x = .int ((ownLetL.getD d.kind 0 : Nat) : Int) := hx
  subst hx
  refine ⟨_, _, rfl, rfl, dx, _, e3 _ _ fa2, by show 3 < 1000; decide, ?_⟩
  have cn : ((L : Int) - ((ownLetL.getD d.kind 0 : Nat) : Int)) = (L' : Int) := by omega
  dsimp only [Ends.nx]
  rw [cn, putF_lts]
  have up : Ex (wo fa pl gl H1) (wo fa pl gl (L2.upd H3 fa (.ins CF dx (fF true pl L')))) := by
    rw [wo_f]
    have e := wo_mono (fa := fa) (pl := pl) (gl := gl) e3
    rw [wo_p] at e
    exact e
  have F4 : FigAt CF C fa pl gl true ds' L' (L2.upd H3 fa (.ins CF dx (fF true pl L'))) := by
    refine ⟨⟨dx, upd_same⟩, ⟨vs, ?_, h3.stay up⟩, ⟨gs, ?_⟩, h5⟩
    · rw [upd_ne nfp.symm]
      exact e3 _ _ upd_same
    · rw [upd_ne nfg.symm]
      exact e3 _ _ (by rw [upd_ne h5]; exact h4)
  have K4 : Fr fa pl pl gl H (L2.upd H3 fa (.ins CF dx (fF true pl L'))) := ⟨(wo_mono e1).trans up, fun o ho => by
    rw [upd_ne nfg.symm]
    exact e3 _ _ (by rw [upd_ne h5]; exact e1 _ _ ho)⟩
  refine s_retP (evp_lenL (evp_pts T (evp_var (i := 0) rfl F4.rep))) fun x H5 e5 hx => ?_
  have hx : x = .int ((ds'.map (rP C)).length : Int) := hx
  rw [List.length_map] at hx
  rw [hx]
  exact hq H5 (F4.stay e5) (K4.trans (Fr.ex e5))
/-! ### begin -/
def spBegin (CF C : Addr) : Sp := fun vs H Q _ => ∃ (fa pl gl : Addr) (bg : Bool) (ds : List PtD) (L : Nat), vs = [.ref fa] ∧ FigAt CF C fa pl gl bg ds L H ∧ ∀ pl' H', FigAt CF C fa pl' gl true [] 0 H' → Fr fa pl pl' gl H H' → Q (.int 0) H'
theorem sc_begin : FnScope ["self"] ["self"] (defScope s_Figure_begin) := ⟨rfl, rfl, rfl, by decide +kernel, rfl, by decide +kernel, by decide +kernel⟩
theorem good_begin (d : DeclM K CF "Figure" "begin" "Figure.begin" s_Figure_begin) (T : FigC K CF) : GoodM P w K mg base CF "begin" 1 ["self"] (spBegin CF C) := by
  refine d.good sc_begin (fun _ _ _ _ _ _ us hl => match us, hl with | [_], _ => rfl) (fun vs H Q E h => ?_) fun f cdv A outer s H vs Q E hr h => ?_
  · obtain ⟨_, _, _, _, _, _, rfl, _⟩ := h
    rfl
  obtain ⟨fa, pl, gl, bg, ds, L, rfl, hF, hq⟩ := h
  refine ⟨_, pss_cons (ps_fld (pv 0) pe_bl rfl) (pss_cons (ps_fld (pv 0) (pe_lst pa_nil) rfl) (pss_cons (ps_fld (pv 0) pe_int rfl) (pss_one (ps_ret pe_int)))), ?_⟩
  refine s_st (σ2 := [some (.ref fa)]) rfl ?_
  have nfg := hF.nfg
  have nfp := hF.nfp
  obtain ⟨⟨dx, h1⟩, ⟨us, h2, h3⟩, ⟨gs, h4⟩, h5⟩ := hF
  refine s_fldP T.cl T.nB rfl h1 (evp_c (R := rV (.bl true)) rfl) (by show 3 < 1000; decide) fun v H1 e1 hv => ?_
  have hv : v = .bl true := hv
  subst hv
  rw [putF_bg]
  have h1' : L2.upd H1 fa (.ins CF dx (fF true pl L)) fa = some (.ins CF dx (fF true pl L)) := upd_same
  refine s_fldN T.cl T.nP rfl h1' (Evl.el_lst Evl.ea_nil (Nat.zero_le _)) (by show 3 < 1000; decide) fun p2 H2 np e2 hp2 => ?_
  rw [putF_pts]
  have h2' : L2.upd H2 fa (.ins CF dx (fF true p2 L)) fa = some (.ins CF dx (fF true p2 L)) := upd_same
  refine s_fldP T.cl T.nL rfl h2' (evp_c (R := rInt 0) rfl) (by show 3 < 1000; decide) fun v H3 e3 hv => ?_
  have hv : v = .int ((0 : Nat) : Int) := hv
  subst hv
  rw [putF_lts]
  -- what stands now
  have g1 : L2.upd H1 fa (.ins CF dx (fF true pl L)) gl = some (.lst gs) := by rw [upd_ne nfg.symm]; exact e1 _ _ h4
  have n2f : p2 ≠ fa := (ne_of_none h1' np).symm
  have n2g : gl ≠ p2 := ne_of_none g1 np
  have F4 : FigAt CF C fa p2 gl true [] 0 (L2.upd H3 fa (.ins CF dx (fF true p2 0))) := by
    refine ⟨⟨dx, upd_same⟩, ⟨[], ?_, rfl⟩, ⟨gs, ?_⟩, n2g⟩
    · rw [upd_ne n2f]
      refine e3 _ _ ?_
      rw [upd_ne n2f]
      exact hp2
    · rw [upd_ne nfg.symm]
      refine e3 _ _ ?_
      rw [upd_ne nfg.symm]
      exact e2 _ _ g1
  have K4 : Fr fa pl p2 gl H (L2.upd H3 fa (.ins CF dx (fF true p2 0))) := by
    refine ⟨fun b o hb => ?_, fun o ho => ?_⟩
    · obtain ⟨hb1, hb2⟩ := nw_some hb
      have hbf : b ≠ fa := fun z => hb1 (.inl z)
      have hbp : b ≠ pl := fun z => hb1 (.inr (.inl z))
      have hbg : b ≠ gl := fun z => hb1 (.inr (.inr z))
      have x1 : L2.upd H1 fa (.ins CF dx (fF true pl L)) b = some o := by rw [upd_ne hbf]; exact e1 _ _ hb2
      have hb2' : b ≠ p2 := ne_of_none x1 np
      show nw _ _ b = some o
      rw [nw_ne (fun z => z.elim hbf fun z => z.elim hb2' hbg), upd_ne hbf]
      refine e3 _ _ ?_
      rw [upd_ne hbf]
      exact e2 _ _ x1
    · rw [upd_ne nfg.symm]
      refine e3 _ _ ?_
      rw [upd_ne nfg.symm]
      refine e2 _ _ ?_
      rw [upd_ne nfg.symm]
      exact e1 _ _ ho
  exact hq p2 _ F4 K4
/-! ### a new figure -/
def spFigI (CF C : Addr) : Sp := fun vs H Q _ => ∃ (x dx : Addr), vs = [.ref x] ∧ H x = some (.ins CF dx []) ∧ ∀ pl H', H pl = none → H' x = some (.ins CF dx (fF false pl 0)) → H' pl = some (.lst []) → Keep x H H' → Q .non H'
theorem sc_Figure_init : FnScope ["self"] ["self"] (defScope s_Figure_init) := ⟨rfl, rfl, rfl, by decide +kernel, rfl, by decide +kernel, by decide +kernel⟩
theorem ok_Figure_init {f : Addr} {fd : FuncData} (F : FnP K "__init__" "Figure.__init__" s_Figure_init f fd) (T : FigC K CF) : FnOk P w K mg base CX0 1 f fd ["self"] (spFigI CF C) := by
  refine F.ok sc_Figure_init (fun vs H Q E h => ?_) (fun cdv A outer s H vs Q E hr h => ?_)
  · obtain ⟨_, _, rfl, _⟩ := h
    rfl
  obtain ⟨x, dx, rfl, hx, hq⟩ := h
  refine ⟨_, PSs.nox (pss_cons (ps_fld (pv 0) pe_bl rfl) (pss_cons (ps_fld (pv 0) (pe_lst pa_nil) rfl) (pss_one (ps_fld (pv 0) pe_int rfl)))), ?_⟩
  refine s_st (σ2 := [some (.ref x)]) rfl ?_
  refine s_fldP T.cl T.nB rfl hx (evp_c (R := rV (.bl false)) rfl) (by show 0 < 1000; decide) fun v H1 e1 hv => ?_
  have hv : v = .bl false := hv
  subst hv
  have f1 : putF "begun" (V.bl false) [] = ([("begun", V.bl false)] : List (Str × V)) := rfl
  rw [f1]
  have K1 := ((Keep.refl x H).ex e1).upd (o := .ins CF dx [("begun", V.bl false)])
  have x1 : L2.upd H1 x (.ins CF dx [("begun", V.bl false)]) x = some (.ins CF dx [("begun", V.bl false)]) := upd_same
  generalize L2.upd H1 x (.ins CF dx [("begun", V.bl false)]) = G1 at K1 x1 ⊢
  refine s_fldN T.cl T.nP rfl x1 (Evl.el_lst Evl.ea_nil (Nat.zero_le _)) (by show 1 < 1000; decide) fun p2 H2 np e2 hp2 => ?_
  have f2 : putF "points" (V.ref p2) [("begun", V.bl false)] = ([("begun", V.bl false), ("points", V.ref p2)] : List (Str × V)) := put_past (by decide +kernel)
  rw [f2]
  have n2 : p2 ≠ x := (ne_of_none x1 np).symm
  have npH : H p2 = none := keep_none K1 np ⟨_, x1⟩
  have K2 := (K1.ex e2).upd (o := .ins CF dx [("begun", V.bl false), ("points", V.ref p2)])
  have x2 : L2.upd H2 x (.ins CF dx [("begun", V.bl false), ("points", V.ref p2)]) x = some (.ins CF dx [("begun", V.bl false), ("points", V.ref p2)]) := upd_same
  have p2' : L2.upd H2 x (.ins CF dx [("begun", V.bl false), ("points", V.ref p2)]) p2 = some (.lst []) := by rw [upd_ne n2]; exact hp2
  generalize L2.upd H2 x (.ins CF dx [("begun", V.bl false), ("points", V.ref p2)]) = G2 at K2 x2 p2' ⊢
  refine s_fldL T.cl T.nL rfl x2 (evp_c (R := rInt 0) rfl) (by show 2 < 1000; decide) fun v H3 e3 hv => ?_
  have hv : v = .int ((0 : Nat) : Int) := hv
  subst hv
  have f3 : putF "letters" (V.int ((0 : Nat) : Int)) [("begun", V.bl false), ("points", V.ref p2)] = fF false p2 0 := (put_past (by decide +kernel)).trans (congrArg _ (put_past (by decide +kernel)))
  rw [f3]
  exact hq p2 _ npH upd_same (by rw [upd_ne n2]; exact e3 _ _ p2') ((K2.ex e3).upd)
/-! ### a new point -/
def ptF (k : Nat) (vt w0 w1 w2 vr : V) (h : Nat) : List (Str × V) := [("kind", .int k), ("told", vt), ("x", w0), ("y", w1), ("w", w2), ("reach", vr), ("heavy", .int h)]
def spPtI (C : Addr) : Sp := fun vs H Q _ => ∃ (x dx p : Addr) (k h : Nat) (vt vr w0 w1 w2 : V), vs = [.ref x, .int k, vt, .ref p, vr, .int h] ∧ H x = some (.ins C dx []) ∧ H p = some (.tup [w0, w1, w2]) ∧ ∀ H', H' x = some (.ins C dx (ptF k vt w0 w1 w2 vr h)) → Keep x H H' → Q .non H'
theorem sc_Point_init : FnScope ["self", "kind", "told", "xyw", "reach", "heavy"] ["self", "kind", "told", "xyw", "reach", "heavy"] (defScope s_Point_init) := ⟨rfl, rfl, rfl, by decide +kernel, rfl, by decide +kernel, by decide +kernel⟩
theorem ok_Point_init {f : Addr} {fd : FuncData} (F : FnP K "__init__" "Point.__init__" s_Point_init f fd) (T : LimC K C) (TP : PtC K C) (nK : NoAttr K C "kind") (nT : NoAttr K C "told") : FnOk P w K mg base CX0 1 f fd ["self", "kind", "told", "xyw", "reach", "heavy"] (spPtI C) := by
  refine F.ok sc_Point_init (fun vs H Q E h => ?_) (fun cdv A outer s H vs Q E hr h => ?_)
  · obtain ⟨_, _, _, _, _, _, _, _, _, _, rfl, _⟩ := h
    rfl
  obtain ⟨x, dx, p, k, h, vt, vr, w0, w1, w2, rfl, hx, hp, hq⟩ := h
  refine ⟨_, PSs.nox (pss_cons (ps_fld (pv 0) (pv 1) rfl) (pss_cons (ps_fld (pv 0) (pv 2) rfl) (pss_cons (ps_fld (pv 0) (pe_ix ix_tup (pv 3) pe_int (fun _ _ => rfl)) rfl) (pss_cons (ps_fld (pv 0) (pe_ix ix_tup (pv 3) pe_int (fun _ _ => rfl)) rfl) (pss_cons (ps_fld (pv 0) (pe_ix ix_tup (pv 3) pe_int (fun _ _ => rfl)) rfl) (pss_cons (ps_fld (pv 0) (pv 4) rfl) (pss_one (ps_fld (pv 0) (pv 5) rfl)))))))), ?_⟩
  refine s_st (σ2 := [some (.ref x), some (.int k), some vt, some (.ref p), some vr, some (.int h)]) rfl ?_
  have npx : p ≠ x := fun z => by
    rw [z, hx] at hp
    cases hp
  have ev : ∀ (G : Hp) (j : Nat) (w : V), Keep x H G → [w0, w1, w2][j]? = some w → EvP (tOp (rIxT K) (tVar 3) (tC (.int (j : Int)))) [some (.ref x), some (.int k), some vt, some (.ref p), some vr, some (.int h)] G (rV w) := fun G j w kp hw H1 e Q q =>
    ⟨_, rfl, p, _, j, w, rfl, rfl, .inl (.inl (e _ _ (kp _ _ hp npx))), atI_nat hw, q _ H1 (Ex.refl _) rfl⟩
  -- kind
  refine s_fldP T.cl nK rfl hx (evp_var (R := rV (.int k)) rfl rfl) (by show 0 < 1000; decide) fun v H1 e1 hv => ?_
  obtain rfl : v = .int k := hv
  have K1 := ((Keep.refl x H).ex e1).upd (o := .ins C dx (putF "kind" (V.int (k : Int)) []))
  have x1 : L2.upd H1 x (.ins C dx (putF "kind" (V.int (k : Int)) [])) x = some (.ins C dx [("kind", .int k)]) := upd_same
  generalize L2.upd H1 x (.ins C dx (putF "kind" (V.int (k : Int)) [])) = G1 at K1 x1 ⊢
  -- told
  refine s_fldP T.cl nT rfl x1 (evp_var (R := rV vt) rfl rfl) (by show 1 < 1000; decide) fun v H2 e2 hv => ?_
  obtain rfl : v = vt := hv
  have f2 : putF "told" v [("kind", V.int (k : Int))] = ([("kind", .int k), ("told", v)] : List (Str × V)) := put_past (by decide +kernel)
  rw [f2]
  have K2 := (K1.ex e2).upd (o := .ins C dx [("kind", .int k), ("told", v)])
  have x2 : L2.upd H2 x (.ins C dx [("kind", .int k), ("told", v)]) x = some (.ins C dx [("kind", .int k), ("told", v)]) := upd_same
  generalize L2.upd H2 x (.ins C dx [("kind", .int k), ("told", v)]) = G2 at K2 x2 ⊢
  -- x
  refine s_fldP T.cl TP.nX rfl x2 (ev G2 0 w0 K2 rfl) (by show 2 < 1000; decide) fun u H3 e3 hu => ?_
  obtain rfl : u = w0 := hu
  have f3 : putF "x" u [("kind", V.int (k : Int)), ("told", v)] = ([("kind", .int k), ("told", v), ("x", u)] : List (Str × V)) := (put_past (by decide +kernel)).trans (congrArg _ (put_past (by decide +kernel)))
  rw [f3]
  have K3 := (K2.ex e3).upd (o := .ins C dx [("kind", .int k), ("told", v), ("x", u)])
  have x3 : L2.upd H3 x (.ins C dx [("kind", .int k), ("told", v), ("x", u)]) x = some (.ins C dx [("kind", .int k), ("told", v), ("x", u)]) := upd_same
  generalize L2.upd H3 x (.ins C dx [("kind", .int k), ("told", v), ("x", u)]) = G3 at K3 x3 ⊢
  -- y
  refine s_fldP T.cl TP.nY rfl x3 (ev G3 1 w1 K3 rfl) (by show 3 < 1000; decide) fun u1 H4 e4 hu => ?_
  obtain rfl : u1 = w1 := hu
  have f4 : putF "y" u1 [("kind", V.int (k : Int)), ("told", v), ("x", u)] = ([("kind", .int k), ("told", v), ("x", u), ("y", u1)] : List (Str × V)) := (put_past (by decide +kernel)).trans (congrArg _ ((put_past (by decide +kernel)).trans (congrArg _ (put_past (by decide +kernel)))))
  rw [f4]
  have K4 := (K3.ex e4).upd (o := .ins C dx [("kind", .int k), ("told", v), ("x", u), ("y", u1)])
  have x4 : L2.upd H4 x (.ins C dx [("kind", .int k), ("told", v), ("x", u), ("y", u1)]) x = some (.ins C dx [("kind", .int k), ("told", v), ("x", u), ("y", u1)]) := upd_same
  generalize L2.upd H4 x (.ins C dx [("kind", .int k), ("told", v), ("x", u), ("y", u1)]) = G4 at K4 x4 ⊢
  -- w
  refine s_fldP T.cl TP.nW rfl x4 (ev G4 2 w2 K4 rfl) (by show 4 < 1000; decide) fun u2 H5 e5 hu => ?_
  obtain rfl : u2 = w2 := hu
  have f5 : putF "w" u2 [("kind", V.int (k : Int)), ("told", v), ("x", u), ("y", u1)] = ([("kind", .int k), ("told", v), ("x", u), ("y", u1), ("w", u2)] : List (Str × V)) := (put_past (by decide +kernel)).trans (congrArg _ ((put_past (by decide +kernel)).trans (congrArg _ ((put_past (by decide +kernel)).trans (congrArg _ (put_past (by decide +kernel)))))))
  rw [f5]
  have K5 := (K4.ex e5).upd (o := .ins C dx [("kind", .int k), ("told", v), ("x", u), ("y", u1), ("w", u2)])
  have x5 : L2.upd H5 x (.ins C dx [("kind", .int k), ("told", v), ("x", u), ("y", u1), ("w", u2)]) x = some (.ins C dx [("kind", .int k), ("told", v), ("x", u), ("y", u1), ("w", u2)]) := upd_same
  generalize L2.upd H5 x (.ins C dx [("kind", .int k), ("told", v), ("x", u), ("y", u1), ("w", u2)]) = G5 at K5 x5 ⊢
  -- reach
  refine s_fldP T.cl T.nR rfl x5 (evp_var (i := 4) (R := rV vr) rfl rfl) (by show 5 < 1000; decide) fun u3 H6 e6 hu => ?_
  obtain rfl : u3 = vr := hu
  have f6 : putF "reach" u3 [("kind", V.int (k : Int)), ("told", v), ("x", u), ("y", u1), ("w", u2)] = ([("kind", .int k), ("told", v), ("x", u), ("y", u1), ("w", u2), ("reach", u3)] : List (Str × V)) := (put_past (by decide +kernel)).trans (congrArg _ ((put_past (by decide +kernel)).trans (congrArg _ ((put_past (by decide +kernel)).trans (congrArg _ ((put_past (by decide +kernel)).trans (congrArg _ (put_past (by decide +kernel)))))))))
  rw [f6]
  have K6 := (K5.ex e6).upd (o := .ins C dx [("kind", .int k), ("told", v), ("x", u), ("y", u1), ("w", u2), ("reach", u3)])
  have x6 : L2.upd H6 x (.ins C dx [("kind", .int k), ("told", v), ("x", u), ("y", u1), ("w", u2), ("reach", u3)]) x = some (.ins C dx [("kind", .int k), ("told", v), ("x", u), ("y", u1), ("w", u2), ("reach", u3)]) := upd_same
  generalize L2.upd H6 x (.ins C dx [("kind", .int k), ("told", v), ("x", u), ("y", u1), ("w", u2), ("reach", u3)]) = G6 at K6 x6 ⊢
  -- heavy
  refine s_fldL T.cl T.nH rfl x6 (evp_var (i := 5) (R := rV (.int h)) rfl rfl) (by show 6 < 1000; decide) fun u4 H7 e7 hu => ?_
  obtain rfl : u4 = .int h := hu
  have f7 : putF "heavy" (V.int (h : Int)) [("kind", V.int (k : Int)), ("told", v), ("x", u), ("y", u1), ("w", u2), ("reach", u3)] = ptF k v u u1 u2 u3 h := (put_past (by decide +kernel)).trans (congrArg _ ((put_past (by decide +kernel)).trans (congrArg _ ((put_past (by decide +kernel)).trans (congrArg _ ((put_past (by decide +kernel)).trans (congrArg _ ((put_past (by decide +kernel)).trans (congrArg _ (put_past (by decide +kernel)))))))))))
  rw [f7]
  exact hq _ upd_same ((K6.ex e7).upd)
end
end Ds
end
section
set_option Elab.async false
set_option linter.all false
set_option maxHeartbeats 1000000
namespace Su
open Kh370 (Poly Term)
open Kh374 (Ops Tri Fig)
open Kh371 (Step args takes)
/-- a step's point keeps to its reach, whether it is ever there or not -/
theorem place_bound {a : Fig} (h : FigOk a) {s : Step} (hargs : ∀ i ∈ args s, i < a.length) (hnum : Kh371.okStep s = true) : G3 (fun l => Kh373.reach1 (Kh373.reaches a l) (mineL a s l) s) (20 * Kh371.weigh (Kh371.weights a) s - 10) (Kh374.place Kh374.polys (Kh374.points a) (lets.drop (Kh373.lettersOf a)) s) := by
  refine G3.of (place_rel (u := bOps) (qs := (List.range a.length).map fun i => ⟨bnAt a i, bnAt a i, bnAt a i⟩) (ms := (List.range 4).map fun j => ⟨b1 (Kh373.lettersOf a + j), 0⟩) b_rel (fun j => ?_) (fun j => ?_) s) (place_le _ _ s (Kh373.reaches a) (Kh371.weights a) (mineL a s) (fun j => ?_) (fun j hj => ?_) (fun j hj => (h.weights j (hargs j hj)).1) (num_ok hnum))
  · rw [getD_map_range]
    have g := h.bound j
    by_cases hj : j < a.length
    · rw [if_pos hj]
      exact ⟨g.x, g.y, g.w⟩
    · rw [if_neg hj, getD_out _ _ (by rw [points_len]; omega)]
      exact ⟨G3.zero.x, G3.zero.y, G3.zero.w⟩
  · rw [getD_map_range]
    by_cases h4 : Kh373.lettersOf a + j < 4
    · rw [if_pos (show j < 4 by omega), List.getD_eq_getElem?_getD, List.getElem?_drop, ← List.getD_eq_getElem?_getD, lets_get _ h4]
      exact G.letter
    · rw [List.getD_eq_getElem?_getD, List.getElem?_drop, ← List.getD_eq_getElem?_getD, getD_out _ _ (show lets.length ≤ _ by show 4 ≤ _; omega)]
      by_cases hj : j < 4
      · rw [if_pos hj]
        exact G.zero.mono (fun _ => Nat.zero_le _) (Nat.zero_le _)
      · rw [if_neg hj]
        exact G.zero
  · rw [getD_map_range]
    by_cases hj : j < a.length
    · rw [if_pos hj]
      rfl
    · rw [if_neg hj]
      have e1 : ∀ l, (Kh373.reaches a l).getD j 0 = 0 := fun l => getD_out _ _ (by rw [reaches_len]; omega)
      have e2 : (Kh371.weights a).getD j 0 = 0 := getD_out _ _ (by rw [weights_len]; omega)
      rw [e2]
      simp only [e1]
      rfl
  · have t4 : takes s ≤ 2 := by cases s <;> simp [takes]
    rw [getD_map_range, if_pos (show j < 4 by omega)]
    refine ⟨fun l => ?_, rfl⟩
    show (if l = Kh373.lettersOf a + j then 1 else 0) ≤ if mineL a s l = true then 1 else 0
    by_cases e : l = Kh373.lettersOf a + j
    · rw [if_pos e, if_pos]
      · exact Nat.le_refl _
      · unfold mineL
        exact decide_eq_true (by omega)
    · rw [if_neg e]
      exact Nat.zero_le _
theorem reach1_small {w : List Nat} (h : ∀ i, w.getD i 0 ≤ 200) (m : Bool) (s : Step) : Kh373.reach1 w m s < 1000000 := by
  cases s <;> unfold Kh373.reach1 <;> dsimp only
  case fixed => omega
  case free => split <;> omega
  case on a b =>
    have := h a
    have := h b
    split <;> omega
  case part a b _ _ =>
    have := h a
    have := h b
    omega
  case along a b c =>
    have := h a
    have := h b
    have := h c
    omega
  case meet a b c d =>
    have := h a
    have := h b
    have := h c
    have := h d
    omega
  case foot a b c =>
    have := h a
    have := h b
    have := h c
    omega
  case mirror a b c =>
    have := h a
    have := h b
    have := h c
    omega
  case turn a b =>
    have := h a
    have := h b
    omega
  case centre a b c =>
    have := h a
    have := h b
    have := h c
    omega
  case second a b c =>
    have := h a
    have := h b
    have := h c
    omega
  case round a b =>
    have := h a
    have := h b
    split <;> omega
  case inverse a b c =>
    have := h a
    have := h b
    have := h c
    omega
theorem reaches_small {a : Fig} (ok : FigOk a) (x p : Nat) : (Kh373.reaches a x).getD p 0 ≤ 200 := by
  have h3 : reachB a p x = (Kh373.reaches a x).getD p 0 := rfl
  by_cases hx : x < 4
  · have h1 := le_prod4 (reachB a p) x hx
    have h2 := ok.small p
    omega
  · have := reachB_far ok.letters p x (by omega)
    omega
end Su
namespace Ds
open Su
open Kh374 (Tri Fig)
/-- the program's w is nought just if the document's is -/
theorem new_nil {a : Fig} {ds : List PtD} (ok : FigOk a) (h : FigR a ds) {s : Kh371.Step} (hs : ∀ i ∈ Kh371.args s, i < a.length) (hn : Kh371.okStep s = true) (hl : Kh373.lettersOf (a ++ [s]) ≤ 4) (hw : Kh373.many (Kh373.gridAt (a ++ [s]) a.length) ≤ 200) :
    (newT a ds s).w = [] ↔ ((Kh374.points (a ++ [s])).getD a.length ⟨[], [], []⟩).w = [] := by
  have g := (place_bound ok hs hn).w
  have ep : (Kh374.points (a ++ [s])).getD a.length ⟨[], [], []⟩ = Kh374.place Kh374.polys (Kh374.points a) (lets.drop (Kh373.lettersOf a)) s := by rw [points_snoc, getD_new _ _ _ (by rw [points_len])]
  rw [ep]
  have e : reachB (a ++ [s]) a.length = fun l => Kh373.reach1 (Kh373.reaches a l) (mineL a s l) s := funext fun l => by
    show (Kh373.reaches (a ++ [s]) l).getD a.length 0 = _
    rw [reaches_snoc, getD_new _ _ _ (by rw [reaches_len])]
  rw [gridAt_many hl] at hw
  have hb := lt1000 hw (reachB_far hl a.length)
  rw [e] at hb
  obtain ⟨⟨_, _, d3⟩, _, _, c3⟩ := new_is ok h s
  rw [dn_nil d3, srt_coef g hb]
  constructor
  · intro z k
    rw [← eq_cls c3 k]
    exact z k
  · intro z k
    rw [eq_cls c3 k]
    exact z k
/-! ### A step's numbers -/
def cntL (k : Nat) : Nat := (weightsL.getD k []).length
theorem step_parts : ∀ (k : Nat), k < 13 → ∀ (l : List Int), l.length = (wholeL.getD (k + 1) 0).toNat → (∀ x ∈ l.take (cntL k), 0 ≤ x) → Kh371.args (stepOf k l) = (l.take (cntL k)).map Int.toNat ∧ numsOf (stepOf k l) = l.drop (cntL k) ∧ Kh371.numbers (stepOf k l) = l := by
  have key : ∀ (s : Kh371.Step) (l : List Int) (n : Nat), (∀ x ∈ l.take n, 0 ≤ x) → Kh371.args s = (l.take n).map Int.toNat → numsOf s = l.drop n → Kh371.numbers s = l := fun s l n h0 h1 h2 => by
    have e : Kh371.numbers s = (Kh371.args s).map Int.ofNat ++ numsOf s := by cases s <;> rfl
    rw [e, h1, h2, List.map_map]
    have e2 : (l.take n).map (Int.ofNat ∘ Int.toNat) = l.take n := by
      conv => rhs; rw [← List.map_id (l.take n)]
      refine List.map_congr_left fun x hx => ?_
      have := h0 x hx
      show ((x.toNat : Nat) : Int) = x
      omega
    rw [e2, List.take_append_drop]
  intro k hk l hl h0
  match k, hk, l, hl, h0 with
  | 0, _, [m, n], _, h0 => exact ⟨rfl, rfl, key _ _ _ h0 rfl rfl⟩
  | 1, _, [], _, h0 => exact ⟨rfl, rfl, key _ _ _ h0 rfl rfl⟩
  | 2, _, [a, b], _, h0 => exact ⟨rfl, rfl, key _ _ _ h0 rfl rfl⟩
  | 3, _, [a, b, m, n], _, h0 => exact ⟨rfl, rfl, key _ _ _ h0 rfl rfl⟩
  | 4, _, [a, b, c], _, h0 => exact ⟨rfl, rfl, key _ _ _ h0 rfl rfl⟩
  | 5, _, [a, b, c, d], _, h0 => exact ⟨rfl, rfl, key _ _ _ h0 rfl rfl⟩
  | 6, _, [a, b, c], _, h0 => exact ⟨rfl, rfl, key _ _ _ h0 rfl rfl⟩
  | 7, _, [a, b, c], _, h0 => exact ⟨rfl, rfl, key _ _ _ h0 rfl rfl⟩
  | 8, _, [a, b], _, h0 => exact ⟨rfl, rfl, key _ _ _ h0 rfl rfl⟩
  | 9, _, [a, b, c], _, h0 => exact ⟨rfl, rfl, key _ _ _ h0 rfl rfl⟩
  | 10, _, [a, b, c], _, h0 => exact ⟨rfl, rfl, key _ _ _ h0 rfl rfl⟩
  | 11, _, [a, b], _, h0 => exact ⟨rfl, rfl, key _ _ _ h0 rfl rfl⟩
  | 12, _, [a, b, c], _, h0 => exact ⟨rfl, rfl, key _ _ _ h0 rfl rfl⟩
end Ds
end
section
set_option Elab.async false
set_option linter.all false
set_option maxRecDepth 100000
set_option maxHeartbeats 1000000
namespace Ds
open PySem PySem.Spec PyProof.Rows L2 Su
open Evl (Ex EvT EvL)
open Kh374 (Tri Fig)
/-- x = a new thing, then the rest -/
theorem s_setF {u : TS} {D : Ends} {i : Nat} {te : TE} {σ : L2.St} {H : Hp} {R : Rp} {σ2 : V → L2.St} (hs : ∀ v, σ.set i (some v) = σ2 v) (h : EvF te σ H R) (k : ∀ p H1, H p = none → Ex H H1 → R.is (.ref p) H1 → u D (σ2 (.ref p)) H1) : tSeq (tAsg te (gName i)) u D σ H := h H (Ex.refl H) _ fun p H1 np e hp => by
  show u D (σ.set i (some (.ref p))) H1
  rw [hs]
  exact k p H1 np e hp
theorem not_t {b : Bool} (h : (!b) = true) : b = false := by cases b <;> first | rfl | cases h
theorem not_f {b : Bool} (h : (!b) = false) : b = true := by cases b <;> first | rfl | cases h
def spDraw (CF C : Addr) : Sp := fun vs H Q _ => ∃ (fa pl gl : Addr) (a : Fig) (ds : List PtD) (k : Nat) (nums : List Int) (vt : V), vs = [.ref fa, .int k, vt] ∧ FigAt CF C fa pl gl true ds (Kh373.lettersOf a) H ∧ FigOk a ∧ FigR a ds ∧ k < 13 ∧ (rInts nums).is vt (wo fa pl gl H) ∧ nums.length = (wholeL.getD (k + 1) 0).toNat ∧ (∀ x ∈ nums.take (cntL k), 0 ≤ x) ∧
  ∀ ds' H', FigAt CF C fa pl gl true ds' (Kh373.lettersOf (Kh374.add a (stepOf k nums)).1) H' → FigOk (Kh374.add a (stepOf k nums)).1 → FigR (Kh374.add a (stepOf k nums)).1 ds' → Fr fa pl pl gl H H' → Q (.int (Kh374.add a (stepOf k nums)).2.ret) H'
/-- a dict stands apart from the figure and the lists -/
theorem rD_wo {CF C fa pl gl : Addr} {bg : Bool} {ds : List PtD} {L : Nat} {H : Hp} {d : Raw} {v : V} (hF : FigAt CF C fa pl gl bg ds L H) (h : (rD d).is v H) : (rD d).is v (wo fa pl gl H) := by
  obtain ⟨p, hv, hp⟩ := h
  obtain ⟨⟨dx, h1⟩, ⟨us, h2, _⟩, ⟨gs, h4⟩, _⟩ := hF
  refine ⟨p, hv, ?_⟩
  show nw _ _ p = _
  rw [nw_ne]
  · exact hp
  · rintro (z | z | z)
    · rw [z, h1] at hp
      cases hp
    · rw [z, h2] at hp
      cases hp
    · rw [z, h4] at hp
      cases hp
section
variable {P : Program} {w : World} {K : PySem.W.Frag} {mg : Str → Option Value} {base : Heap} {CF C : Addr}
theorem sc_draw : FnScope ["self", "kind", "told", "count", "sources", "reach", "heavy", "numbers", "xyw", "p", "number"] ["self", "kind", "told"] (defScope s_Figure_draw) := ⟨rfl, rfl, rfl, by decide +kernel, rfl, by decide +kernel, by decide +kernel⟩
theorem good_draw {fI : Addr} {fdI : FuncData} (d : DeclM K CF "Figure" "draw" "Figure.draw" s_Figure_draw) (TF : FigC K CF) (mall : mg "all" = none) (iN : IntC mg "NOT_THERE" (-2)) (iD : IntC mg "DOES_NOT_FIT" (-22)) (iFu : IntC mg "FULL" (-28)) (iT : IntC mg "TOO_MUCH" (-75)) (iH : IntC mg "MOST_HEAVY" 400) (iP : IntC mg "MOST_PLACES" 200)
    (g_count_of_points : Good P w K mg base "count_of_points" 1 ["kind"] (pf cCount)) (g_has_point : GoodM P w K mg base CF "has_point" 1 ["self", "p"] (pf (cHasPt CF C))) (g_numbers_fit : Good P w K mg base "numbers_fit" 2 ["kind", "numbers"] (pf cFit)) (g_has_room : GoodM P w K mg base CF "has_room" 1 ["self", "kind"] (pf (cHasRoom CF C))) (g_reach_by : Good P w K mg base "reach_by" 2 ["kind", "sources", "first_letter"] (pfF (cReach C)))
    (g_heavy_by : Good P w K mg base "heavy_by" 1 ["kind", "sources"] (pf (cHeavy C))) (g_places : Good P w K mg base "places" 1 ["reach"] (pf cPlaces)) (g_constant : Good P w K mg base "constant" 1 ["number"] (pf cConst)) (g_drawn : Good P w K mg base "drawn" 8 ["kind", "told"] (pf (cDrawn C))) (g_next_letters : GoodM P w K mg base CF "next_letters" 2 ["self", "kind"] (pf (cNextL CF C))) (g_keep : GoodM P w K mg base CF "keep" 2 ["self", "point"] (spKeep CF C))
    (M : Mk K C fI) (G : FnOk P w K mg base CX0 1 fI fdI ["self", "kind", "told", "xyw", "reach", "heavy"] (spPtI C)) (bI : Binds K fdI ["self", "kind", "told", "xyw", "reach", "heavy"] []) (gC : mg "Point" = some (.ref C)) :
    GoodM P w K mg base CF "draw" 9 ["self", "kind", "told"] (spDraw CF C) := by
  refine d.good sc_draw (fun _ _ _ _ _ _ us hl => match us, hl with | [_, _, _], _ => rfl) (fun vs H Q E h => ?_) fun f cdv A outer s H vs Q E hr h => ?_
  · obtain ⟨_, _, _, _, _, _, _, _, rfl, _⟩ := h
    rfl
  obtain ⟨fa, pl, gl, a, ds, k, nums, vt, rfl, hF, ok, hR, hk, hT, hnl, h0n, hq⟩ := h
  refine ⟨_, pss_cons (ps_set (i := 3) sc_draw.nd rfl (.inl rfl) (pe_g g_count_of_points (hr.mono (by decide)) (by rfl) (pa_cons (pv 1) pa_nil)))
    (pss_cons (ps_if (pt_not (pt_val (pe_callB (cr_all rfl) (by rfl) mall (by decide +kernel) (pa_cons (pe_lc (own := [("p", 9)]) (g := gName 9) (te := tMeth CF "has_point" (pf (cHasPt CF C)) [] E0 (tVar 0) (tCons (tVar 9) tNil)) (by rfl) sc_draw.nd (pi_list (pe_slice sl_list (pv 2) po_none (po_some (pv 3))))
      (blkOk_by (own := [("p", 9)]) (N := ["self", "kind", "told", "count", "sources", "reach", "heavy", "numbers", "xyw", "p", "number"]) (sc := defScope s_Figure_draw) (by decide +kernel)) (fun _ _ _ _ _ => pg_name (i := 9) sc_draw.nd rfl (Or.inl rfl)) (fun _ _ _ _ _ => pts_nil) (fun _ _ _ _ _ => pe_gm g_has_point TF.cl (hr.mono (by decide)) (pv 0) (pa_cons (pv 9) pa_nil))) pa_nil)))) (pss_one (ps_ret (pe_ic iN (by rfl)))) pss_nil)
    (pss_cons (ps_if (pt_not (pt_val (pe_g g_numbers_fit (hr.mono (by decide)) (by rfl) (pa_cons (pv 1) (pa_cons (pe_slice sl_list (pv 2) (po_some (pv 3)) po_none) pa_nil))))) (pss_one (ps_ret (pe_ic iD (by rfl)))) pss_nil)
    (pss_cons (ps_if (pt_not (pt_val (pe_gm g_has_room TF.cl (hr.mono (by decide)) (pv 0) (pa_cons (pv 1) pa_nil)))) (pss_one (ps_ret (pe_ic iFu (by rfl)))) pss_nil)
    (pss_cons (ps_setLc (i := 4) (own := [("p", 9)]) (g := gName 9) (te := tOp (rIxL K) (tFld K (tVar 0) "points") (tVar 9)) (by rfl) sc_draw.nd rfl rfl (sw_true rfl rfl rfl (by decide +kernel)) (pi_list (pe_slice sl_list (pv 2) po_none (po_some (pv 3))))
      (blkOk_by (own := [("p", 9)]) (N := ["self", "kind", "told", "count", "sources", "reach", "heavy", "numbers", "xyw", "p", "number"]) (sc := defScope s_Figure_draw) (by decide +kernel)) (fun _ _ _ _ _ => pg_name (i := 9) sc_draw.nd rfl (Or.inl rfl)) (fun _ _ _ _ _ => pts_nil) (fun _ _ _ _ _ => pe_ix ix_list (pe_fld (pv 0) rfl) (pv 9) (fun _ _ => rfl)))
    (pss_cons (ps_set (i := 5) sc_draw.nd rfl (.inl rfl) (pe_g g_reach_by (hr.mono (by decide)) (by rfl) (pa_cons (pv 1) (pa_cons (pv 4) (pa_cons (pe_fld (pv 0) rfl) pa_nil)))))
    (pss_cons (ps_set (i := 6) sc_draw.nd rfl (.inl rfl) (pe_g g_heavy_by (hr.mono (by decide)) (by rfl) (pa_cons (pv 1) (pa_cons (pv 4) pa_nil))))
    (pss_cons (ps_if (PW.pt (pw_or (pt_cmpR op_gt (pv 6) (pe_ic iH (by rfl)) (nomark _)) (pw_or1 (pt_cmpR op_gt (pe_g g_places (hr.mono (by decide)) (by rfl) (pa_cons (pv 5) pa_nil)) (pe_ic iP (by rfl)) (nomark _))))) (pss_one (ps_ret (pe_ic iT (by rfl)))) pss_nil)
    (pss_cons (ps_setLc (i := 7) (own := [("number", 10)]) (g := gName 10) (te := tCall (pf cConst) [] E0 (tCons (tVar 10) tNil)) (by rfl) sc_draw.nd rfl rfl (sw_true rfl rfl rfl (by decide +kernel)) (pi_list (pe_slice sl_list (pv 2) (po_some (pv 3)) po_none))
      (blkOk_by (own := [("number", 10)]) (N := ["self", "kind", "told", "count", "sources", "reach", "heavy", "numbers", "xyw", "p", "number"]) (sc := defScope s_Figure_draw) (by decide +kernel)) (fun _ _ _ _ _ => pg_name (i := 10) sc_draw.nd rfl (Or.inl rfl)) (fun _ _ _ _ _ => pts_nil) (fun _ _ _ _ _ => pe_g g_constant (hr.mono (by decide)) (by rfl) (pa_cons (pv 10) pa_nil)))
    (pss_cons (ps_set (i := 8) sc_draw.nd rfl (.inl rfl) (pe_g g_drawn hr (by rfl) (pa_cons (pv 1) (pa_cons (pe_op op_cat (pe_op op_cat (pv 4) (pv 7)) (pe_gm g_next_letters TF.cl (hr.mono (by decide)) (pv 0) (pa_cons (pv 1) pa_nil))) pa_nil))))
    (pss_one (ps_ret (pe_gm g_keep TF.cl (hr.mono (by decide)) (pv 0) (pa_cons (pe_make M G (hr.mono (by decide)) (by rfl) gC bI .nil pass0 (pa_cons (pv 1) (pa_cons (pv 2) (pa_cons (pv 8) (pa_cons (pv 5) (pa_cons (pv 6) pa_nil)))))) pa_nil))))))))))))), ?_⟩
  refine s_st (σ2 := [some (.ref fa), some (.int k), some vt, none, none, none, none, none, none, none, none]) rfl ?_
  -- the step
  obtain ⟨p1, p2, p3⟩ := step_parts k hk nums hnl h0n
  have hkind := stepOf_kind hk nums
  generalize hs : stepOf k nums = st at p1 p2 p3 hkind hq
  have hws : weightsL[k]? = some (wsOf st) := by rw [← hkind]; exact wsOf_at st
  have hcl : cntL k = (wsOf st).length := by
    unfold cntL
    rw [List.getD_eq_getElem?_getD, hws]
    rfl
  have hcn : cntL k ≤ nums.length := by
    rw [hcl, wsOf_len, p1, List.length_map, List.length_take]
    omega
  have hn4 : nums.length ≤ 4 := by
    rw [hnl]
    exact (by decide : ∀ k : Nat, k < 13 → (wholeL.getD (k + 1) 0).toNat ≤ 4) k hk
  have hT0 : (rInts nums).is vt H := Rp.stay _ (wo_ex _ _ _ _) hT
  -- count
  refine s_set (σ2 := fun v => [some (.ref fa), some (.int k), some vt, some v, none, none, none, none, none, none, none]) (fun _ => rfl) (evp_call (E := E0) (evps_cons (evp_var (i := 1) rfl rfl) evps_nil) (cCount.mk k (wsOf st) hws)) fun v H1 e1 hv => ?_
  have hv : v = .int ((wsOf st).length : Int) := hv
  rw [← hcl] at hv
  subst hv
  have ef : ∀ {y4 y5 y6 y7 y8 y9 y10 : Option V} {H2 : Hp}, Ex H H2 → EvP (tVar 0) [some (.ref fa), some (.int k), some vt, some (.int (cntL k : Int)), y4, y5, y6, y7, y8, y9, y10] H2 (rFig CF C true ds (Kh373.lettersOf a)) := fun e => evp_var rfl (hF.stay e).rep
  have et : ∀ {y4 y5 y6 y7 y8 y9 y10 : Option V} {H2 : Hp}, Ex H H2 → EvP (tVar 2) [some (.ref fa), some (.int k), some vt, some (.int (cntL k : Int)), y4, y5, y6, y7, y8, y9, y10] H2 (rInts nums) := fun e => evp_var rfl (Rp.stay _ e hT0)
  -- there are such points
  have lc := evp_lcS (K := K) (σ := [some (.ref fa), some (.int (k : Int)), some vt, some (.int (cntL k : Int)), none, none, none, none, none, none, none]) (H := H1) (l := nums.take (cntL k)) (g := V.int) (j := 9) (vs := [9]) (tl := tSl (rSlL K) (tVar 2) tNoPart (tPart (tVar 3))) (te := tMeth CF "has_point" (pf (cHasPt CF C)) [] E0 (tVar 0) (tCons (tVar 9) tNil)) (fun x => rV (.bl (decide (0 ≤ x) && decide (x < (ds.length : Int))))) (evs_new (el_upto (et e1) (evp_var (i := 3) rfl rfl) hcn)) (by rw [List.length_take]; omega) (fun _ => rfl) (fun x _ H4 e4 => evp_hasPt (evp_var (i := 0) rfl (hF.stay (e1.trans e4)).rep) (evp_var (i := 9) rfl rfl)) (fun _ _ => apart_v _)
  have em : ((nums.take (cntL k)).map fun x => rV (.bl (decide (0 ≤ x) && decide (x < (ds.length : Int))))) = ((nums.take (cntL k)).map fun x => decide (0 ≤ x) && decide (x < (ds.length : Int))).map fun b => rV (.bl b) := by rw [List.map_map]; rfl
  rw [em] at lc
  have back : ∀ {H2 : Hp} (r : Int), Ex H H2 → Kh374.add a st = (a, Kh374.say r) → Q (.int r) H2 := fun {H2} r e hadd => by
    have z := hq ds H2
    rw [hadd] at z
    exact z (hF.stay e) ok hR (Fr.ex e)
  refine s_ifR (Evl.et_not (evt_B (evp_all lc))) (fun y H2 e2 => ?_) fun y H2 e2 => ?_
  · have hno : ¬ ∀ i ∈ Kh371.args st, i < a.length := fun hall => by
      have h1 : ((nums.take (cntL k)).map fun x => decide (0 ≤ x) && decide (x < (ds.length : Int))).all id = false := by simpa using y
      rw [List.all_eq_false] at h1
      obtain ⟨b, hb, hbn⟩ := h1
      obtain ⟨x, hx, rfl⟩ := List.mem_map.mp hb
      have hx0 := h0n x hx
      have := hall x.toNat (by rw [p1]; exact List.mem_map.mpr ⟨x, hx, rfl⟩)
      have hd := hR.1
      have : ¬ (0 ≤ x ∧ x < (ds.length : Int)) := by simpa using hbn
      omega
    exact s_retP (evp_c (R := rInt (-2)) rfl) fun v H' e hv => by
      rw [show v = .int (-2) from hv]
      exact back _ ((e1.trans e2).trans e) (add_2 hno)
  have hpts : ∀ x ∈ nums.take (cntL k), 0 ≤ x ∧ x < (ds.length : Int) := fun x hx => by
    have h1 : ((nums.take (cntL k)).map fun x => decide (0 ≤ x) && decide (x < (ds.length : Int))).all id = true := by simpa using y
    rw [List.all_eq_true] at h1
    have := h1 _ (List.mem_map.mpr ⟨x, hx, rfl⟩)
    simpa using this
  have hargs : ∀ i ∈ Kh371.args st, i < a.length := fun i hi => by
    rw [p1] at hi
    obtain ⟨x, hx, rfl⟩ := List.mem_map.mp hi
    have := hpts x hx
    have := hR.1
    omega
  have e12 := e1.trans e2
  -- m and n fit
  have hfit := fit_is st
  rw [hkind, p2] at hfit
  refine s_ifR (Evl.et_not (evt_B (evp_call (E := E0) (evps_cons (evp_var (i := 1) rfl rfl) (evps_cons (evp_new (el_from (et e12) (evp_var (i := 3) rfl rfl) hcn)) evps_nil)) (cFit.mk k (nums.drop (cntL k)) (fun h03 => by
    rw [List.length_drop, hnl]
    rcases h03 with rfl | rfl
    · rfl
    · rfl))))) (fun x H3 e3 => ?_) fun x H3 e3 => ?_
  · rw [hfit] at x
    exact s_retP (evp_c (R := rInt (-22)) rfl) fun v H' e hv => by
      rw [show v = .int (-22) from hv]
      exact back _ ((e12.trans e3).trans e) (add_22 hargs (by simpa using x))
  rw [hfit] at x
  have hnum : Kh371.okStep st = true := by simpa using x
  have e13 := e12.trans e3
  -- there is room
  have hot : ownLetL.getD k 0 = Kh371.takes st := by rw [← hkind]; exact own_takes st
  have hls := letters_snoc a st
  refine s_ifR (Evl.et_not (evt_B (evp_meth (D := cHasRoom CF C) (E := E0) (m := "has_room") (ef e13) rFig_lk (evps_cons (evp_var (i := 1) rfl rfl) evps_nil) (cHasRoom.mk true ds (Kh373.lettersOf a) k hk)))) (fun u H4 e4 => ?_) fun u H4 e4 => ?_
  · have h1 := not_t u
    have h2 : 12 ≤ a.length ∨ 4 < Kh373.lettersOf (a ++ [st]) := by
      rw [hls, ← hot, ← hR.1]
      by_cases hh : ds.length < 12
      · rw [decide_eq_true hh, Bool.true_and] at h1
        have := of_decide_eq_false h1
        omega
      · omega
    exact s_retP (evp_c (R := rInt (-28)) rfl) fun v H' e hv => by
      rw [show v = .int (-28) from hv]
      exact back _ ((e13.trans e4).trans e) (add_28 hargs hnum h2)
  have hroom : ds.length < 12 ∧ Kh373.lettersOf a + ownLetL.getD k 0 ≤ 4 := by
    have h1 := not_f u
    rw [Bool.and_eq_true, decide_eq_true_eq, decide_eq_true_eq] at h1
    exact h1
  have hl4 : Kh373.lettersOf (a ++ [st]) ≤ 4 := by rw [hls, ← hot]; exact hroom.2
  have h28 : ¬ (12 ≤ a.length ∨ 4 < Kh373.lettersOf (a ++ [st])) := by
    have := hR.1
    omega
  have e14 := e13.trans e4
  -- sources
  obtain ⟨⟨dxF, hfa⟩, ⟨us, hpl, hus⟩, ⟨gs, hgl⟩, hng⟩ := id hF
  have hus0 : All2 (ds.map (rP C)) us H := hus.stay (wo_ex _ _ _ _)
  have srcE : ((nums.take (cntL k)).map fun x => rP C (pd ds x.toNat)) = (srcs ds st).map (rP C) := by
    unfold srcs
    rw [p1, List.map_map, List.map_map]
    rfl
  have evs := evp_lcP (K := K) (σ := [some (.ref fa), some (.int (k : Int)), some vt, some (.int (cntL k : Int)), none, none, none, none, none, none, none]) (H := H4) (l := nums.take (cntL k)) (g := V.int) (w := fun x : Int => us.getD x.toNat .non) (j := 9) (vs := [9]) (tl := tSl (rSlL K) (tVar 2) tNoPart (tPart (tVar 3))) (te := tOp (rIxL K) (tFld K (tVar 0) "points") (tVar 9)) (fun x => rP C (pd ds x.toNat)) (evs_new (el_upto (et e14) (evp_var (i := 3) rfl rfl) hcn)) (by rw [List.length_take]; omega) (fun _ => rfl) (fun x hxm => by
    obtain ⟨n, rfl⟩ := Int.eq_ofNat_of_zero_le (hpts x hxm).1
    have hn : n < ds.length := by have := (hpts _ hxm).2; omega
    obtain ⟨v, hv, hr⟩ := hus0.get n (rP C (ds[n])) (by rw [List.getElem?_map, List.getElem?_eq_getElem hn]; rfl)
    have q1 : pd ds (n : Int).toNat = ds[n] := by
      show ds.getD n ptD0 = ds[n]
      rw [List.getD_eq_getElem?_getD, List.getElem?_eq_getElem hn]
      rfl
    have q2 : us.getD (n : Int).toNat .non = v := by
      show us.getD n .non = v
      rw [List.getD_eq_getElem?_getD, hv]
      rfl
    show (rP C (pd ds (n : Int).toNat)).is (us.getD (n : Int).toNat .non) H4
    rw [q1, q2]
    exact Rp.stay _ e14 hr) (fun x hxm H5 e5 => by
    obtain ⟨n, rfl⟩ := Int.eq_ofNat_of_zero_le (hpts x hxm).1
    have hn : n < ds.length := by have := (hpts _ hxm).2; omega
    have hun : n < us.length := by rw [hus0.len, List.length_map]; exact hn
    intro H6 e6 Q q
    have e56 := e14.trans (e5.trans e6)
    refine ⟨_, rfl, fa, CF, dxF, _, .ref pl, rfl, e56 _ _ hfa, TF.cl, TF.nP, lkF_pts, _, rfl, pl, us, n, us[n], rfl, rfl, .inl (.inl (e56 _ _ hpl)), atI_nat (List.getElem?_eq_getElem hun), q _ H6 (Ex.refl _) ?_⟩
    show us[n] = us.getD n .non
    rw [List.getD_eq_getElem?_getD, List.getElem?_eq_getElem hun]
    rfl)
  rw [srcE] at evs
  refine s_set (σ2 := fun v => [some (.ref fa), some (.int k), some vt, some (.int (cntL k : Int)), some v, none, none, none, none, none, none]) (fun _ => rfl) evs fun v4 H5 e5 h4 => ?_
  have e15 := e14.trans e5
  have es : ∀ {y5 y6 y7 y8 y9 y10 : Option V} {H6 : Hp}, Ex H5 H6 → EvP (tVar 4) [some (.ref fa), some (.int k), some vt, some (.int (cntL k : Int)), some v4, y5, y6, y7, y8, y9, y10] H6 (rLst ((srcs ds st).map (rP C))) := fun e => evp_var rfl (Rp.stay _ e h4)
  have hsl : (srcs ds st).length = (wsOf st).length := by
    unfold srcs
    rw [List.length_map, wsOf_len]
  have hs4 : ∀ d ∈ srcs ds st, d.reach.length = 4 := fun d hd => by
    obtain ⟨i, hi, rfl⟩ := List.mem_map.mp hd
    rw [(srcs_at hR (hargs i hi)).reach]
    rfl
  -- reach
  refine s_setF (σ2 := fun v => [some (.ref fa), some (.int k), some vt, some (.int (cntL k : Int)), some v4, some v, none, none, none, none, none]) (fun _ => rfl) (evf_call (E := E0) (evps_cons (evp_var (i := 1) rfl rfl) (evps_cons (es (Ex.refl _)) (evps_cons (evp_lts TF (ef e15)) evps_nil))) (cReach.mk k (wsOf st) (srcs ds st) (Kh373.lettersOf a) hws hsl hs4 hroom.2)) fun pr H6 npr e6 h5 => ?_
  have e16 := e15.trans e6
  have nprH : H pr = none := Evl.fresh_back e15 npr
  -- heavy
  refine s_set (σ2 := fun v => [some (.ref fa), some (.int k), some vt, some (.int (cntL k : Int)), some v4, some (.ref pr), some v, none, none, none, none]) (fun _ => rfl) (evp_call (E := E0) (evps_cons (evp_var (i := 1) rfl rfl) (evps_cons (es e6) evps_nil)) (cHeavy.mk k (wsOf st) (srcs ds st) hws hsl)) fun v6 H7 e7 h6 => ?_
  have h6 : v6 = .int (hvy k (wsOf st) (srcs ds st) : Int) := h6
  subst h6
  have e17 := e16.trans e7
  have ehv := hvy_is hR st hargs
  have erc := reach_is hR st hargs hl4
  rw [hkind] at ehv erc
  have h57 : (rInts (nI (mReach k (wsOf st) (srcs ds st) (Kh373.lettersOf a)))).is (.ref pr) H7 := Rp.stay _ e7 h5
  have epl : mPlaces (mReach k (wsOf st) (srcs ds st) (Kh373.lettersOf a)) = Kh373.many (Kh373.gridAt (a ++ [st]) a.length) := by
    rw [erc, places_is, gridAt_many hl4]
    congr 1
    funext l
    show _ = (Kh373.reaches (a ++ [st]) l).getD a.length 0
    rw [reaches_snoc, getD_new _ _ _ (by rw [reaches_len])]
  have hsm : ∀ x ∈ mReach k (wsOf st) (srcs ds st) (Kh373.lettersOf a), x < 1000000 := fun x hx => by
    rw [erc] at hx
    obtain ⟨l, _, rfl⟩ := List.mem_map.mp hx
    exact reach1_small (fun i => reaches_small ok l i) _ _
  refine s_ifR (Evl.et_or (evt_gt (evp_var (i := 6) rfl rfl) (evp_c rfl)) fun _ => evt_gt (evp_call (E := E0) (evps_cons (evp_var (i := 5) rfl h57) evps_nil) (cPlaces.mk _ hsm)) (evp_c rfl)) (fun t H8 e8 => ?_) fun t H8 e8 => ?_
  · rw [ehv, epl, Bool.or_eq_true, decide_eq_true_eq, decide_eq_true_eq] at t
    exact s_retP (evp_c (R := rInt (-75)) rfl) fun v H' e hv => by
      rw [show v = .int (-75) from hv]
      exact back _ ((e17.trans e8).trans e) (add_75 hargs hnum h28 (by omega))
  rw [ehv, epl, Bool.or_eq_false_iff, decide_eq_false_iff_not, decide_eq_false_iff_not] at t
  have h75 : ¬ (400 < Kh371.weigh (Kh371.weights a) st ∨ 200 < Kh373.many (Kh373.gridAt (a ++ [st]) a.length)) := by omega
  have e18 := e17.trans e8
  -- numbers
  have lcn := evp_lcS (K := K) (σ := [some (.ref fa), some (.int (k : Int)), some vt, some (.int (cntL k : Int)), some v4, some (.ref pr), some (.int (hvy k (wsOf st) (srcs ds st) : Int)), none, none, none, none]) (H := H8) (l := nums.drop (cntL k)) (g := V.int) (j := 10) (vs := [10]) (tl := tSl (rSlL K) (tVar 2) (tPart (tVar 3)) tNoPart) (te := tCall (pf cConst) [] E0 (tCons (tVar 10) tNil)) (fun c => rD (dOps.number c)) (evs_new (el_from (et e18) (evp_var (i := 3) rfl rfl) hcn)) (by rw [List.length_drop]; omega) (fun _ => rfl) (fun x _ H9 _ => evp_call (evps_cons (evp_var (i := 10) rfl rfl) evps_nil) (cConst.mk x)) (fun _ _ => apart_d _)
  refine s_set (σ2 := fun v => [some (.ref fa), some (.int k), some vt, some (.int (cntL k : Int)), some v4, some (.ref pr), some (.int (hvy k (wsOf st) (srcs ds st) : Int)), some v, none, none, none]) (fun _ => rfl) lcn fun v7 H9 e9 h7 => ?_
  have e19 := e18.trans e9
  -- xyw
  have e59 := e6.trans (e7.trans (e8.trans e9))
  have evx := evp_catL (te := tOp rCat (tVar 4) (tVar 7)) (tf := tMeth CF "next_letters" (pf (cNextL CF C)) [] E0 (tVar 0) (tCons (tVar 1) tNil)) (σ := [some (.ref fa), some (.int (k : Int)), some vt, some (.int (cntL k : Int)), some v4, some (.ref pr), some (.int (hvy k (wsOf st) (srcs ds st) : Int)), some v7, none, none, none]) (H := H9) (evp_catL (es e59) (evp_var (i := 7) rfl h7) (by
    rw [List.length_map, List.length_map, hsl, ← hcl, List.length_drop]
    omega)) (evp_meth (D := cNextL CF C) (ef e19) rFig_lk (evps_cons (evp_var (i := 1) rfl rfl) evps_nil) (cNextL.mk true ds (Kh373.lettersOf a) k hk hroom.2)) (by
    rw [List.length_append, List.length_map, List.length_map, List.length_map, List.length_range, hsl, ← hcl, List.length_drop]
    omega)
  have etr : ((srcs ds st).map (rP C) ++ (nums.drop (cntL k)).map fun c => rD (dOps.number c)) ++ ((List.range (ownLetL.getD k 0)).map fun j => rD (mLet (Kh373.lettersOf a + j))) = toldR C a ds st := by
    unfold toldR
    rw [List.append_assoc, p2, hot]
  rw [etr] at evx
  have hdc := draw_c (C := C) ok hR hargs hnum hl4 (by omega)
  rw [hkind] at hdc
  refine s_set (σ2 := fun v => [some (.ref fa), some (.int k), some vt, some (.int (cntL k : Int)), some v4, some (.ref pr), some (.int (hvy k (wsOf st) (srcs ds st) : Int)), some v7, some v, none, none]) (fun _ => rfl) (evp_call (E := E0) (evps_cons (evp_var (i := 1) rfl rfl) (evps_cons evx evps_nil)) hdc) fun v8 H10 e10 h8 => ?_
  have e110 := e19.trans e10
  obtain ⟨p8, _, rfl, hp8, w0, _, rfl, rx, w1, _, rfl, ry, w2, _, rfl, rw', rfl⟩ := h8
  have hF10 := hF.stay e110
  obtain ⟨⟨dx10, hfa10⟩, ⟨us10, hpl10, _⟩, ⟨gs10, hgl10⟩, _⟩ := id hF10
  -- keep(Point(..))
  refine ⟨.ref fa, rfl, fa, dx10, _, rfl, hfa10, ?_, ?_⟩
  · exact (lkg_past (by decide +kernel)).trans ((lkg_past (by decide +kernel)).trans ((lkg_past (by decide +kernel)).trans rfl))
  refine ⟨_, rfl, _, rfl, _, rfl, _, rfl, _, rfl, fun x dx nx nd ne => ?_⟩
  have exn : Ex H10 (L2.upd (L2.upd H10 dx (.own x)) x (.ins C dx [])) := fun b o hb => by
    rw [upd_ne (ne_of_none hb nx), upd_ne (ne_of_none hb nd)]
    exact hb
  refine ⟨x, dx, p8, k, _, vt, .ref pr, w0, w1, w2, rfl, upd_same, exn _ _ hp8, fun H11 hx11 kp => ⟨rfl, ?_⟩⟩
  have e11 : Ex H10 H11 := fun b o hb => kp b o (exn b o hb) (ne_of_none hb nx)
  have e111 := e110.trans e11
  have hF11 := hF.stay e111
  have nxf : x ≠ fa := (ne_of_none hfa10 nx).symm
  have nxp : x ≠ pl := (ne_of_none hpl10 nx).symm
  have nxg : x ≠ gl := (ne_of_none hgl10 nx).symm
  have hpt : (rP C ⟨newT a ds st, mReach k (wsOf st) (srcs ds st) (Kh373.lettersOf a), hvy k (wsOf st) (srcs ds st), k, nums⟩).is (.ref x) (wo fa pl gl H11) := by
    have hrch : (rInts (nI (mReach k (wsOf st) (srcs ds st) (Kh373.lettersOf a)))).is (.ref pr) (wo fa pl gl H11) := by
      obtain ⟨q, hq1, hq2⟩ := Rp.stay _ (e8.trans (e9.trans (e10.trans e11))) h57
      have eq : pr = q := V.ref.inj hq1
      subst eq
      refine ⟨pr, rfl, ?_⟩
      show nw _ _ pr = _
      rw [nw_ne]
      · exact hq2
      · rintro (z | z | z)
        · rw [z, hfa] at nprH
          cases nprH
        · rw [z, hpl] at nprH
          cases nprH
        · rw [z, hgl] at nprH
          cases nprH
    refine ⟨x, dx, ptF k vt w0 w1 w2 (.ref pr) (hvy k (wsOf st) (srcs ds st)), rfl, ?_, _, _, rfl, rfl, _, _, rfl, Rp.stay _ (wo_mono e111) hT, _, _, rfl, rD_wo hF11 (Rp.stay _ e11 rx), _, _, rfl, rD_wo hF11 (Rp.stay _ e11 ry), _, _, rfl, rD_wo hF11 (Rp.stay _ e11 rw'), _, _, rfl, hrch, _, _, rfl, rfl, rfl⟩
    show nw _ _ x = _
    rw [nw_ne (fun z => z.elim nxf fun z => z.elim nxp nxg)]
    exact hx11
  refine ⟨fa, pl, gl, ds, Kh373.lettersOf a, _, .ref x, rfl, hF11, hpt, hk, by omega, fun hnil H12 e12' => ?_, fun hne H12 hF12 hFr => ?_⟩
  · have h33 := (new_nil ok hR hargs hnum hl4 (by omega)).mp hnil
    exact back _ (e111.trans e12') (add_33 hargs hnum h28 h75 h33)
  · have hthere : ((Kh374.points (a ++ [st])).getD a.length ⟨[], [], []⟩).w ≠ [] := fun z => hne ((new_nil ok hR hargs hnum hl4 (by omega)).mpr z)
    have so : StepOk a st := ⟨hargs, hnum, by have := hR.1; omega, hl4, by omega, by omega, hthere⟩
    have hadd := add_ok so
    have z := hq (ds ++ [⟨newT a ds st, mReach k (wsOf st) (srcs ds st) (Kh373.lettersOf a), hvy k (wsOf st) (srcs ds st), k, nums⟩]) H12
    rw [hadd] at z
    have hsn := FigR.snoc ok hR hargs hl4
    rw [hkind, p3] at hsn
    have z2 := z (by
      show FigAt CF C fa pl gl true _ (Kh373.lettersOf (a ++ [st])) H12
      rw [hls, ← hot]
      exact hF12) (FigOk.snoc ok so) hsn ((Fr.ex e111).trans hFr)
    have z3 : Q (.int (a.length : Int)) H12 := z2
    rw [← hR.1] at z3
    exact z3
end
end Ds
end
section
set_option Elab.async false
set_option linter.all false
namespace Ds
open Su
open Kh374 (Fig)
/-! ### What each call does, by its number -/
theorem step_begin (s : Option Fig) (nums : List Int) (xs : List (List Int)) : Kh374Neutral.step s ((((0 : Nat) : Int) :: nums) :: xs) = (some [], [0]) := by
  cases s <;> rfl
theorem add_out (a : Fig) (s : Kh371.Step) : (Kh374.add a s).2.out = [] := by
  unfold Kh374.add
  split
  · rfl
  · split
    · rfl
    · split
      · rfl
      · split
        · rfl
        · split <;> rfl
theorem step_draw (a : Fig) {k : Nat} (hk : k < 13) (nums : List Int) : Kh374Neutral.step (some a) [((k + 1 : Nat) : Int) :: nums] = (some (Kh374.add a (stepOf k nums)).1, [(Kh374.add a (stepOf k nums)).2.ret]) := by
  unfold Kh374Neutral.step
  rw [does_step a k hk nums]
  show (_, _ :: (Kh374.add a (stepOf k nums)).2.out) = _
  rw [add_out]
theorem step_out (a : Fig) (nums : List Int) (xs : List (List Int)) : Kh374Neutral.step (some a) ((((14 : Nat) : Int) :: nums) :: xs) = if a = [] then (some a, [-2]) else (some a.dropLast, [((a.length - 1 : Nat) : Int)]) := by
  show (some (if a = [] then (a, Kh374.say (-2)) else (a.dropLast, Kh374.say (a.length - 1 : Nat))).1, (if a = [] then (a, Kh374.say (-2)) else (a.dropLast, Kh374.say (a.length - 1 : Nat))).2.ret :: (if a = [] then (a, Kh374.say (-2)) else (a.dropLast, Kh374.say (a.length - 1 : Nat))).2.out) = _
  split <;> rfl
theorem step_none {p : Nat} (h1 : 1 ≤ p) (h2 : p ≤ 26) (nums : List Int) (xs : List (List Int)) : Kh374Neutral.step none (((p : Int) :: nums) :: xs) = (none, [-61]) := by
  match p, h1, h2 with
  | 1, _, _ => rfl
  | 2, _, _ => rfl
  | 3, _, _ => rfl
  | 4, _, _ => rfl
  | 5, _, _ => rfl
  | 6, _, _ => rfl
  | 7, _, _ => rfl
  | 8, _, _ => rfl
  | 9, _, _ => rfl
  | 10, _, _ => rfl
  | 11, _, _ => rfl
  | 12, _, _ => rfl
  | 13, _, _ => rfl
  | 14, _, _ => rfl
  | 15, _, _ => rfl
  | 16, _, _ => rfl
  | 17, _, _ => rfl
  | 18, _, _ => rfl
  | 19, _, _ => rfl
  | 20, _, _ => rfl
  | 21, _, _ => rfl
  | 22, _, _ => rfl
  | 23, _, _ => rfl
  | 24, _, _ => rfl
  | 25, _, _ => rfl
  | 26, _, _ => rfl
  | p + 27, _, h => exact absurd h (by omega)
theorem step_look (a : Fig) {p : Nat} (h1 : 15 ≤ p) (h2 : p ≤ 26) (nums : List Int) (xs : List (List Int)) : Kh374Neutral.step (some a) (((p : Int) :: nums) :: xs) = (some a, (Kh374.does a (Kh374Neutral.callOf1 (((p : Int) :: nums) :: xs))).2.ret :: (Kh374.does a (Kh374Neutral.callOf1 (((p : Int) :: nums) :: xs))).2.out) := by
  match p, h1, h2 with
  | 15, _, _ => rfl
  | 16, _, _ => rfl
  | 17, _, _ => rfl
  | 18, _, _ => rfl
  | 19, _, _ => rfl
  | 20, _, _ => rfl
  | 21, _, _ => rfl
  | 22, _, _ => rfl
  | 23, _, _ => rfl
  | 24, _, _ => rfl
  | 25, _, _ => rfl
  | 26, _, _ => rfl
  | p + 27, _, h => exact absurd h (by omega)
/-- what a call that is handed in keeps to -/
structure CallOk (p : Nat) (nums : List Int) (xs : List (List Int)) : Prop where
  lt : p ≤ 26
  whole : (nums.length : Int) = wholeL.getD p 0
  rows : (xs.length : Int) = rowsL.getD p 0
  step : 1 ≤ p → p ≤ 13 → ∀ x ∈ nums.take (cntL (p - 1)), 0 ≤ x
  look : 15 ≤ p → p ≤ 19 → ∀ x ∈ nums, 0 ≤ x
  ask : 20 ≤ p → ∀ i, i < 3 → 0 ≤ nums.getD i 0
  long : ∀ x ∈ xs, x.length ≤ 1000
  its : 20 ≤ p → ∀ x ∈ xs.getD 0 [], 0 ≤ x
theorem w0 {hi z : Int} (h : PyInside.within 0 hi z = true) : 0 ≤ z := by
  unfold PyInside.within at h
  rw [Bool.and_eq_true, decide_eq_true_eq, decide_eq_true_eq] at h
  exact h.1
theorem all0 {hi : Int} {l : List Int} (h : l.all (PyInside.within 0 hi) = true) : ∀ x ∈ l, 0 ≤ x := fun x hx => w0 (List.all_eq_true.mp h x hx)
theorem callOk_of {c : CallL} {p : Nat} {nums : List Int} {xs : List (List Int)} (h : Shaped c p nums xs) (hb : PyInside.call PyKh374.bound c = true) : CallOk p nums xs := by
  obtain ⟨rfl, hp, hn, hr⟩ := h
  have hn' : nums.length = (wholeL.getD p 0).toNat := by omega
  have hr' : xs.length = (rowsL.getD p 0).toNat := by omega
  have hb : (PyInside.each (PyKh374.bound (p : Int)).1 nums && PyInside.lists (PyKh374.bound (p : Int)).2 xs) = true := hb
  rw [Bool.and_eq_true] at hb
  obtain ⟨b1, b2⟩ := hb
  refine ⟨by omega, hn, hr, fun h1 h13 => ?_, fun h15 h19 => ?_, fun h20 => ?_, ?_, fun h20 => ?_⟩
  · have hp' : p = 1 ∨ p = 2 ∨ p = 3 ∨ p = 4 ∨ p = 5 ∨ p = 6 ∨ p = 7 ∨ p = 8 ∨ p = 9 ∨ p = 10 ∨ p = 11 ∨ p = 12 ∨ p = 13 := by omega
    rcases hp' with rfl | rfl | rfl | rfl | rfl | rfl | rfl | rfl | rfl | rfl | rfl | rfl | rfl
    · exact fun x hx => absurd hx (by simp [cntL, weightsL])
    · exact fun x hx => absurd hx (by simp [cntL, weightsL])
    · match nums, hn', b1 with
      | [a0, a1], _, b1 =>
        have b1 : (PyInside.within 0 2147483647 a0 && (PyInside.within 0 2147483647 a1 && true)) = true := b1
        simp only [Bool.and_eq_true, Bool.and_true] at b1
        intro x hx
        have hx : x ∈ [a0, a1] := hx
        simp only [List.mem_cons, List.not_mem_nil, or_false] at hx
        rcases hx with rfl | rfl
        · exact w0 b1.1
        · exact w0 b1.2
    · match nums, hn', b1 with
      | [a0, a1, a2, a3], _, b1 =>
        have b1 : (PyInside.within 0 2147483647 a0 && (PyInside.within 0 2147483647 a1 && (PyInside.within (-2147483648) 2147483647 a2 && (PyInside.within (-2147483648) 2147483647 a3 && true)))) = true := b1
        simp only [Bool.and_eq_true, Bool.and_true] at b1
        intro x hx
        have hx : x ∈ [a0, a1] := hx
        simp only [List.mem_cons, List.not_mem_nil, or_false] at hx
        rcases hx with rfl | rfl
        · exact w0 b1.1
        · exact w0 b1.2.1
    · match nums, hn', b1 with
      | [a0, a1, a2], _, b1 =>
        have b1 : (PyInside.within 0 2147483647 a0 && (PyInside.within 0 2147483647 a1 && (PyInside.within 0 2147483647 a2 && true))) = true := b1
        simp only [Bool.and_eq_true, Bool.and_true] at b1
        intro x hx
        have hx : x ∈ [a0, a1, a2] := hx
        simp only [List.mem_cons, List.not_mem_nil, or_false] at hx
        rcases hx with rfl | rfl | rfl
        · exact w0 b1.1
        · exact w0 b1.2.1
        · exact w0 b1.2.2
    · match nums, hn', b1 with
      | [a0, a1, a2, a3], _, b1 =>
        have b1 : (PyInside.within 0 2147483647 a0 && (PyInside.within 0 2147483647 a1 && (PyInside.within 0 2147483647 a2 && (PyInside.within 0 2147483647 a3 && true)))) = true := b1
        simp only [Bool.and_eq_true, Bool.and_true] at b1
        intro x hx
        have hx : x ∈ [a0, a1, a2, a3] := hx
        simp only [List.mem_cons, List.not_mem_nil, or_false] at hx
        rcases hx with rfl | rfl | rfl | rfl
        · exact w0 b1.1
        · exact w0 b1.2.1
        · exact w0 b1.2.2.1
        · exact w0 b1.2.2.2
    · match nums, hn', b1 with
      | [a0, a1, a2], _, b1 =>
        have b1 : (PyInside.within 0 2147483647 a0 && (PyInside.within 0 2147483647 a1 && (PyInside.within 0 2147483647 a2 && true))) = true := b1
        simp only [Bool.and_eq_true, Bool.and_true] at b1
        intro x hx
        have hx : x ∈ [a0, a1, a2] := hx
        simp only [List.mem_cons, List.not_mem_nil, or_false] at hx
        rcases hx with rfl | rfl | rfl
        · exact w0 b1.1
        · exact w0 b1.2.1
        · exact w0 b1.2.2
    · match nums, hn', b1 with
      | [a0, a1, a2], _, b1 =>
        have b1 : (PyInside.within 0 2147483647 a0 && (PyInside.within 0 2147483647 a1 && (PyInside.within 0 2147483647 a2 && true))) = true := b1
        simp only [Bool.and_eq_true, Bool.and_true] at b1
        intro x hx
        have hx : x ∈ [a0, a1, a2] := hx
        simp only [List.mem_cons, List.not_mem_nil, or_false] at hx
        rcases hx with rfl | rfl | rfl
        · exact w0 b1.1
        · exact w0 b1.2.1
        · exact w0 b1.2.2
    · match nums, hn', b1 with
      | [a0, a1], _, b1 =>
        have b1 : (PyInside.within 0 2147483647 a0 && (PyInside.within 0 2147483647 a1 && true)) = true := b1
        simp only [Bool.and_eq_true, Bool.and_true] at b1
        intro x hx
        have hx : x ∈ [a0, a1] := hx
        simp only [List.mem_cons, List.not_mem_nil, or_false] at hx
        rcases hx with rfl | rfl
        · exact w0 b1.1
        · exact w0 b1.2
    · match nums, hn', b1 with
      | [a0, a1, a2], _, b1 =>
        have b1 : (PyInside.within 0 2147483647 a0 && (PyInside.within 0 2147483647 a1 && (PyInside.within 0 2147483647 a2 && true))) = true := b1
        simp only [Bool.and_eq_true, Bool.and_true] at b1
        intro x hx
        have hx : x ∈ [a0, a1, a2] := hx
        simp only [List.mem_cons, List.not_mem_nil, or_false] at hx
        rcases hx with rfl | rfl | rfl
        · exact w0 b1.1
        · exact w0 b1.2.1
        · exact w0 b1.2.2
    · match nums, hn', b1 with
      | [a0, a1, a2], _, b1 =>
        have b1 : (PyInside.within 0 2147483647 a0 && (PyInside.within 0 2147483647 a1 && (PyInside.within 0 2147483647 a2 && true))) = true := b1
        simp only [Bool.and_eq_true, Bool.and_true] at b1
        intro x hx
        have hx : x ∈ [a0, a1, a2] := hx
        simp only [List.mem_cons, List.not_mem_nil, or_false] at hx
        rcases hx with rfl | rfl | rfl
        · exact w0 b1.1
        · exact w0 b1.2.1
        · exact w0 b1.2.2
    · match nums, hn', b1 with
      | [a0, a1], _, b1 =>
        have b1 : (PyInside.within 0 2147483647 a0 && (PyInside.within 0 2147483647 a1 && true)) = true := b1
        simp only [Bool.and_eq_true, Bool.and_true] at b1
        intro x hx
        have hx : x ∈ [a0, a1] := hx
        simp only [List.mem_cons, List.not_mem_nil, or_false] at hx
        rcases hx with rfl | rfl
        · exact w0 b1.1
        · exact w0 b1.2
    · match nums, hn', b1 with
      | [a0, a1, a2], _, b1 =>
        have b1 : (PyInside.within 0 2147483647 a0 && (PyInside.within 0 2147483647 a1 && (PyInside.within 0 2147483647 a2 && true))) = true := b1
        simp only [Bool.and_eq_true, Bool.and_true] at b1
        intro x hx
        have hx : x ∈ [a0, a1, a2] := hx
        simp only [List.mem_cons, List.not_mem_nil, or_false] at hx
        rcases hx with rfl | rfl | rfl
        · exact w0 b1.1
        · exact w0 b1.2.1
        · exact w0 b1.2.2
  · have hp' : p = 15 ∨ p = 16 ∨ p = 17 ∨ p = 18 ∨ p = 19 := by omega
    rcases hp' with rfl | rfl | rfl | rfl | rfl
    · match nums, hn' with
      | [], _ => exact fun x hx => absurd hx List.not_mem_nil
    · match nums, hn', b1 with
      | [a0], _, b1 =>
        have b1 : (PyInside.within 0 2147483647 a0 && true) = true := b1
        simp only [Bool.and_eq_true, Bool.and_true] at b1
        intro x hx
        simp only [List.mem_cons, List.not_mem_nil, or_false] at hx
        rw [hx]
        exact w0 b1
    · match nums, hn', b1 with
      | [a0, a1], _, b1 =>
        have b1 : (PyInside.within 0 2147483647 a0 && (PyInside.within 0 2147483647 a1 && true)) = true := b1
        simp only [Bool.and_eq_true, Bool.and_true] at b1
        intro x hx
        simp only [List.mem_cons, List.not_mem_nil, or_false] at hx
        rcases hx with rfl | rfl
        · exact w0 b1.1
        · exact w0 b1.2
    · match nums, hn', b1 with
      | [a0, a1], _, b1 =>
        have b1 : (PyInside.within 0 2147483647 a0 && (PyInside.within 0 2147483647 a1 && true)) = true := b1
        simp only [Bool.and_eq_true, Bool.and_true] at b1
        intro x hx
        simp only [List.mem_cons, List.not_mem_nil, or_false] at hx
        rcases hx with rfl | rfl
        · exact w0 b1.1
        · exact w0 b1.2
    · match nums, hn', b1 with
      | [a0], _, b1 =>
        have b1 : (PyInside.within 0 2147483647 a0 && true) = true := b1
        simp only [Bool.and_eq_true, Bool.and_true] at b1
        intro x hx
        simp only [List.mem_cons, List.not_mem_nil, or_false] at hx
        rw [hx]
        exact w0 b1
  · have hp' : p = 20 ∨ p = 21 ∨ p = 22 ∨ p = 23 ∨ p = 24 ∨ p = 25 ∨ p = 26 := by omega
    rcases hp' with rfl | rfl | rfl | rfl | rfl | rfl | rfl
    · match nums, hn', b1 with
      | [a0], _, b1 =>
        have b1 : (PyInside.within 0 2147483647 a0 && true) = true := b1
        simp only [Bool.and_eq_true, Bool.and_true] at b1
        intro i hi
        match i, hi with
        | 0, _ => exact w0 b1
        | 1, _ => exact Int.le_refl _
        | 2, _ => exact Int.le_refl _
    · match nums, hn', b1 with
      | [a0], _, b1 =>
        have b1 : (PyInside.within 0 2147483647 a0 && true) = true := b1
        simp only [Bool.and_eq_true, Bool.and_true] at b1
        intro i hi
        match i, hi with
        | 0, _ => exact w0 b1
        | 1, _ => exact Int.le_refl _
        | 2, _ => exact Int.le_refl _
    · match nums, hn', b1 with
      | [a0, a1], _, b1 =>
        have b1 : (PyInside.within 0 2147483647 a0 && (PyInside.within 0 2147483647 a1 && true)) = true := b1
        simp only [Bool.and_eq_true, Bool.and_true] at b1
        intro i hi
        match i, hi with
        | 0, _ => exact w0 b1.1
        | 1, _ => exact w0 b1.2
        | 2, _ => exact Int.le_refl _
    · match nums, hn', b1 with
      | [a0, a1], _, b1 =>
        have b1 : (PyInside.within 0 2147483647 a0 && (PyInside.within 0 2147483647 a1 && true)) = true := b1
        simp only [Bool.and_eq_true, Bool.and_true] at b1
        intro i hi
        match i, hi with
        | 0, _ => exact w0 b1.1
        | 1, _ => exact w0 b1.2
        | 2, _ => exact Int.le_refl _
    · match nums, hn', b1 with
      | [a0, a1], _, b1 =>
        have b1 : (PyInside.within 0 2147483647 a0 && (PyInside.within 0 2147483647 a1 && true)) = true := b1
        simp only [Bool.and_eq_true, Bool.and_true] at b1
        intro i hi
        match i, hi with
        | 0, _ => exact w0 b1.1
        | 1, _ => exact w0 b1.2
        | 2, _ => exact Int.le_refl _
    · match nums, hn', b1 with
      | [a0, a1], _, b1 =>
        have b1 : (PyInside.within 0 2147483647 a0 && (PyInside.within 0 2147483647 a1 && true)) = true := b1
        simp only [Bool.and_eq_true, Bool.and_true] at b1
        intro i hi
        match i, hi with
        | 0, _ => exact w0 b1.1
        | 1, _ => exact w0 b1.2
        | 2, _ => exact Int.le_refl _
    · match nums, hn', b1 with
      | [a0, a1, a2, a3], _, b1 =>
        have b1 : (PyInside.within 0 2147483647 a0 && (PyInside.within 0 2147483647 a1 && (PyInside.within 0 2147483647 a2 && (PyInside.within (-2147483648) 2147483647 a3 && true)))) = true := b1
        simp only [Bool.and_eq_true, Bool.and_true] at b1
        intro i hi
        match i, hi with
        | 0, _ => exact w0 b1.1
        | 1, _ => exact w0 b1.2.1
        | 2, _ => exact w0 b1.2.2.1
  · by_cases h20 : p < 20
    · have : xs.length = 0 := by
        rw [hr']
        exact (by decide : ∀ p : Nat, p < 20 → (rowsL.getD p 0).toNat = 0) p h20
      rw [List.length_eq_zero_iff.mp this]
      exact fun x hx => absurd hx List.not_mem_nil
    · have hp' : p = 20 ∨ p = 21 ∨ p = 22 ∨ p = 23 ∨ p = 24 ∨ p = 25 ∨ p = 26 := by omega
      rcases hp' with rfl | rfl | rfl | rfl | rfl | rfl | rfl
      · match xs, hr', b2 with
        | [r], _, b2 =>
          have b2 : (decide (0 ≤ r.length) && decide (r.length ≤ 6) && r.all (PyInside.within 0 2147483647) && true) = true := b2
          simp only [Bool.and_eq_true, Bool.and_true, decide_eq_true_eq] at b2
          intro x hx
          simp only [List.mem_cons, List.not_mem_nil, or_false] at hx
          rw [hx]
          omega
      · match xs, hr', b2 with
        | [r], _, b2 =>
          have b2 : (decide (0 ≤ r.length) && decide (r.length ≤ 6) && r.all (PyInside.within 0 2147483647) && true) = true := b2
          simp only [Bool.and_eq_true, Bool.and_true, decide_eq_true_eq] at b2
          intro x hx
          simp only [List.mem_cons, List.not_mem_nil, or_false] at hx
          rw [hx]
          omega
      · match xs, hr', b2 with
        | [r], _, b2 =>
          have b2 : (decide (0 ≤ r.length) && decide (r.length ≤ 6) && r.all (PyInside.within 0 2147483647) && true) = true := b2
          simp only [Bool.and_eq_true, Bool.and_true, decide_eq_true_eq] at b2
          intro x hx
          simp only [List.mem_cons, List.not_mem_nil, or_false] at hx
          rw [hx]
          omega
      · match xs, hr', b2 with
        | [r], _, b2 =>
          have b2 : (decide (0 ≤ r.length) && decide (r.length ≤ 6) && r.all (PyInside.within 0 2147483647) && true) = true := b2
          simp only [Bool.and_eq_true, Bool.and_true, decide_eq_true_eq] at b2
          intro x hx
          simp only [List.mem_cons, List.not_mem_nil, or_false] at hx
          rw [hx]
          omega
      · match xs, hr', b2 with
        | [r, v], _, b2 =>
          have b2 : (decide (0 ≤ r.length) && decide (r.length ≤ 6) && r.all (PyInside.within 0 2147483647) && (decide (0 ≤ v.length) && decide (v.length ≤ 4) && v.all (PyInside.within (-2147483648) 2147483647) && true)) = true := b2
          simp only [Bool.and_eq_true, Bool.and_true, decide_eq_true_eq] at b2
          intro x hx
          simp only [List.mem_cons, List.not_mem_nil, or_false] at hx
          rcases hx with rfl | rfl <;> omega
      · match xs, hr', b2 with
        | [r, v], _, b2 =>
          have b2 : (decide (0 ≤ r.length) && decide (r.length ≤ 6) && r.all (PyInside.within 0 2147483647) && (decide (0 ≤ v.length) && decide (v.length ≤ 1000) && v.all (PyInside.within (-2147483648) 2147483647) && true)) = true := b2
          simp only [Bool.and_eq_true, Bool.and_true, decide_eq_true_eq] at b2
          intro x hx
          simp only [List.mem_cons, List.not_mem_nil, or_false] at hx
          rcases hx with rfl | rfl <;> omega
      · match xs, hr', b2 with
        | [r], _, b2 =>
          have b2 : (decide (0 ≤ r.length) && decide (r.length ≤ 6) && r.all (PyInside.within 0 2147483647) && true) = true := b2
          simp only [Bool.and_eq_true, Bool.and_true, decide_eq_true_eq] at b2
          intro x hx
          simp only [List.mem_cons, List.not_mem_nil, or_false] at hx
          rw [hx]
          omega
  · have hp' : p = 20 ∨ p = 21 ∨ p = 22 ∨ p = 23 ∨ p = 24 ∨ p = 25 ∨ p = 26 := by omega
    rcases hp' with rfl | rfl | rfl | rfl | rfl | rfl | rfl
    · match xs, hr', b2 with
      | [r], _, b2 =>
        have b2 : (decide (0 ≤ r.length) && decide (r.length ≤ 6) && r.all (PyInside.within 0 2147483647) && true) = true := b2
        simp only [Bool.and_eq_true, Bool.and_true, decide_eq_true_eq] at b2
        exact all0 b2.2
    · match xs, hr', b2 with
      | [r], _, b2 =>
        have b2 : (decide (0 ≤ r.length) && decide (r.length ≤ 6) && r.all (PyInside.within 0 2147483647) && true) = true := b2
        simp only [Bool.and_eq_true, Bool.and_true, decide_eq_true_eq] at b2
        exact all0 b2.2
    · match xs, hr', b2 with
      | [r], _, b2 =>
        have b2 : (decide (0 ≤ r.length) && decide (r.length ≤ 6) && r.all (PyInside.within 0 2147483647) && true) = true := b2
        simp only [Bool.and_eq_true, Bool.and_true, decide_eq_true_eq] at b2
        exact all0 b2.2
    · match xs, hr', b2 with
      | [r], _, b2 =>
        have b2 : (decide (0 ≤ r.length) && decide (r.length ≤ 6) && r.all (PyInside.within 0 2147483647) && true) = true := b2
        simp only [Bool.and_eq_true, Bool.and_true, decide_eq_true_eq] at b2
        exact all0 b2.2
    · match xs, hr', b2 with
      | [r, v], _, b2 =>
        have b2 : (decide (0 ≤ r.length) && decide (r.length ≤ 6) && r.all (PyInside.within 0 2147483647) && (decide (0 ≤ v.length) && decide (v.length ≤ 4) && v.all (PyInside.within (-2147483648) 2147483647) && true)) = true := b2
        simp only [Bool.and_eq_true, Bool.and_true, decide_eq_true_eq] at b2
        exact all0 b2.1.2
    · match xs, hr', b2 with
      | [r, v], _, b2 =>
        have b2 : (decide (0 ≤ r.length) && decide (r.length ≤ 6) && r.all (PyInside.within 0 2147483647) && (decide (0 ≤ v.length) && decide (v.length ≤ 1000) && v.all (PyInside.within (-2147483648) 2147483647) && true)) = true := b2
        simp only [Bool.and_eq_true, Bool.and_true, decide_eq_true_eq] at b2
        exact all0 b2.1.2
    · match xs, hr', b2 with
      | [r], _, b2 =>
        have b2 : (decide (0 ≤ r.length) && decide (r.length ≤ 6) && r.all (PyInside.within 0 2147483647) && true) = true := b2
        simp only [Bool.and_eq_true, Bool.and_true, decide_eq_true_eq] at b2
        exact all0 b2.2
end Ds
end
section
set_option Elab.async false
set_option linter.all false
set_option maxRecDepth 100000
set_option maxHeartbeats 1000000
namespace Ds
open PySem PySem.Spec PyProof.Rows L2 Su
open Evl (Ex EvT EvL)
open Kh374 (Tri Fig)
theorem pe_gm0 {X : Cx} {C : Addr} {m : Str} {k : Nat} {ps : List Str} {sp : Sp} {o : Expr} {ta : TE} {apos pos : Pos} {pl : Sem Bool} (g : GoodM X.prog X.w X.K X.mg X.base C m k ps sp) (c : Cls X.K C) (hr : Room k X.A) (ho : PE X o ta)
    (ht : eval (.Call (.Attribute o m apos) [] [] pos) X.env = (do
      let ov ← eval o X.env
      standAt apos.atName
      let (f, first) ← holding [ov] (getMethod ov m pl)
      callWith pos f first (backTo pos (starEach [] X.env)) (backToKw pos (keywordEach [] X.env))) := by rfl) : PE X (.Call (.Attribute o m apos) [] [] pos) (tMeth C m sp [] E0 ta tNil) := by
  obtain ⟨f, fd, h1, h2, h3⟩ := g
  exact pe_meth0 ho c h1 h3 hr h2 .nil pass0 ht
/-- the program's figure and the document's -/
def StR (s : Option Fig) (bg : Bool) (ds : List PtD) (L : Nat) : Prop := match s with
  | none => bg = false ∧ ds = [] ∧ L = 0
  | some a => bg = true ∧ FigOk a ∧ FigR a ds ∧ L = Kh373.lettersOf a
abbrev callC (p : Nat) (nums : List Int) (xs : List (List Int)) : CallL := ((p : Int) :: nums) :: xs
def spAns (CF C CC : Addr) : Sp := fun vs H Q _ => ∃ (fa pl gl : Addr) (s : Option Fig) (bg : Bool) (ds : List PtD) (L p : Nat) (nums : List Int) (xs : List (List Int)) (b : Nat) (vc : V), vs = [.ref fa, vc] ∧ FigAt CF C fa pl gl bg ds L H ∧ StR s bg ds L ∧ (rCall CC p nums xs b).is vc (wo fa pl gl H) ∧ CallOk p nums xs ∧
  ∀ q pl' bg' ds' L' H', FigAt CF C fa pl' gl bg' ds' L' H' → StR (Kh374Neutral.step s (callC p nums xs)).1 bg' ds' L' → Fr fa pl pl' gl H H' → q ≠ gl → (rInts (Kh374Neutral.step s (callC p nums xs)).2).is (.ref q) H' → Q (.ref q) H'
theorem lkF_none {bg : Bool} {pl : Addr} {L : Nat} {m : Str} (h1 : (m == ("begun" : Str)) = false := by decide +kernel) (h2 : (m == ("points" : Str)) = false := by decide +kernel) (h3 : (m == ("letters" : Str)) = false := by decide +kernel) : List.lookup m (fF bg pl L) = none := by
  unfold fF
  simp only [List.lookup, h1, h2, h3]
theorem evp_begun {K : PySem.W.Frag} {σ : L2.St} {H : Hp} {te : TE} {CF C : Addr} {bg : Bool} {ds : List PtD} {L : Nat} (T : FigC K CF) (h : EvP te σ H (rFig CF C bg ds L)) : EvP (tFld K te "begun") σ H (rV (.bl bg)) := evp_fld T.cl T.nB h lkg_here
section
variable {P : Program} {w : World} {K : PySem.W.Frag} {mg : Str → Option Value} {base : Heap} {CF C CC : Addr}
theorem sc_answer : FnScope ["self", "call"] ["self", "call"] (defScope s_Figure_answer) := ⟨rfl, rfl, rfl, by decide +kernel, rfl, by decide +kernel, by decide +kernel⟩
theorem good_answer (d : DeclM K CF "Figure" "answer" "Figure.answer" s_Figure_answer) (TF : FigC K CF) (TC : CallC K CC) (iB : IntC mg "BEGIN" 0) (iNB : IntC mg "NOT_BEGUN" (-61)) (iLS : IntC mg "LAST_STEP" 13) (iFS : IntC mg "FIRST_STEP" 1) (iO : IntC mg "OUT" 14) (iC : IntC mg "COMMON" 19)
    (g_begin : GoodM P w K mg base CF "begin" 1 ["self"] (spBegin CF C)) (g_draw : GoodM P w K mg base CF "draw" 9 ["self", "kind", "told"] (spDraw CF C)) (g_take_out : GoodM P w K mg base CF "take_out" 1 ["self"] (spOut CF C)) (g_looked_at : Good P w K mg base "looked_at" 6 ["figure", "call"] (pfF (cLook CF C CC))) (g_asked : Good P w K mg base "asked" 12 ["figure", "call"] (pfF (cAsk CF C CC))) :
    GoodM P w K mg base CF "answer" 13 ["self", "call"] (spAns CF C CC) := by
  refine d.good sc_answer (fun _ _ _ _ _ _ us hl => match us, hl with | [_, _], _ => rfl) (fun vs H Q E h => ?_) fun f cdv A outer s0 H vs Q E hr h => ?_
  · obtain ⟨_, _, _, _, _, _, _, _, _, _, _, _, rfl, _⟩ := h
    rfl
  obtain ⟨fa, pl, gl, s, bg, ds, L, p, nums, xs, b, vc, rfl, hF, hS, hC, cok, hq⟩ := h
  refine ⟨_, pss_cons (ps_if (pt_cmpR op_eq (pe_fld (pv 1) rfl) (pe_ic iB (by rfl)) (nomark _)) (pss_one (ps_ret (pe_lst (pa_cons (pe_gm0 g_begin TF.cl (hr.mono (by decide)) (pv 0)) pa_nil)))) pss_nil)
    (pss_cons (ps_if (pt_not (pt_val (pe_fld (pv 0) rfl))) (pss_one (ps_ret (pe_lst (pa_cons (pe_ic iNB (by rfl)) pa_nil)))) pss_nil)
    (pss_cons (ps_if (pt_cmpR op_le (pe_fld (pv 1) rfl) (pe_ic iLS (by rfl)) (nomark _)) (pss_one (ps_ret (pe_lst (pa_cons (pe_gm g_draw TF.cl (hr.mono (by decide)) (pv 0) (pa_cons (pe_op op_sub (pe_fld (pv 1) rfl) (pe_ic iFS (by rfl))) (pa_cons (pe_fld (pv 1) rfl) pa_nil))) pa_nil)))) pss_nil)
    (pss_cons (ps_if (pt_cmpR op_eq (pe_fld (pv 1) rfl) (pe_ic iO (by rfl)) (nomark _)) (pss_one (ps_ret (pe_lst (pa_cons (pe_gm0 g_take_out TF.cl (hr.mono (by decide)) (pv 0)) pa_nil)))) pss_nil)
    (pss_cons (ps_if (pt_cmpR op_le (pe_fld (pv 1) rfl) (pe_ic iC (by rfl)) (nomark _)) (pss_one (ps_ret (pe_g g_looked_at (hr.mono (by decide)) (by rfl) (pa_cons (pv 0) (pa_cons (pv 1) pa_nil))))) pss_nil)
    (pss_one (ps_ret (pe_g g_asked hr (by rfl) (pa_cons (pv 0) (pa_cons (pv 1) pa_nil))))))))), ?_⟩
  refine s_st (σ2 := [some (.ref fa), some vc]) rfl ?_
  have ec : ∀ {H1 : Hp}, Ex H H1 → EvP (tVar 1) [some (.ref fa), some vc] H1 (rCall CC p nums xs b) := fun e => evp_var rfl (Rp.stay _ ((wo_ex fa pl gl _).trans e) hC)
  have ef : ∀ {H1 : Hp}, Ex H H1 → EvP (tVar 0) [some (.ref fa), some vc] H1 (rFig CF C bg ds L) := fun e => evp_var rfl (hF.stay e).rep
  obtain ⟨gs, hgl⟩ := hF.gls
  -- one number, in a new list
  have one : ∀ {H1 : Hp} {r : Int} {pl' : Addr} {bg' : Bool} {ds' : List PtD} {L' : Nat}, (Kh374Neutral.step s (callC p nums xs)).2 = [r] → FigAt CF C fa pl' gl bg' ds' L' H1 → StR (Kh374Neutral.step s (callC p nums xs)).1 bg' ds' L' → Fr fa pl pl' gl H H1 → [V.int r].length ≤ sizeLine ∧ ∀ q, H1 q = none → Q (.ref q) (L2.upd H1 q (.lst [V.int r])) := fun {H1} {r} {pl'} {bg'} {ds'} {L'} e1 hF1 hS1 hFr => by
    refine ⟨by show 1 ≤ sizeLine; decide, fun q nq => ?_⟩
    have en : Ex H1 (L2.upd H1 q (.lst [V.int r])) := Ex.new nq
    obtain ⟨gs1, hg1⟩ := hF1.gls
    refine hq q pl' bg' ds' L' _ (hF1.stay en) hS1 (hFr.trans (Fr.ex en)) (ne_of_none hg1 nq).symm ?_
    rw [e1]
    exact ⟨q, rfl, upd_same⟩
  refine s_ifR (evt_eq (evp_cnum TC (ec (Ex.refl _))) (evp_c rfl)) (fun z H1 e1 => ?_) fun z H1 e1 => ?_
  · have ep : p = 0 := by
      have := of_decide_eq_true z
      omega
    subst ep
    obtain ⟨⟨dx, hfa⟩, _⟩ := hF.stay e1
    refine ⟨_, rfl, fa, dx, _, rfl, hfa, lkF_none, ?_⟩
    refine ⟨fa, pl, gl, bg, ds, L, rfl, hF.stay e1, fun pl' H2 hF2 hFr => ?_⟩
    have es := step_begin s nums xs
    exact one (r := 0) (by rw [es]) hF2 (by rw [es]; exact ⟨rfl, FigOk.nil, ⟨rfl, fun i d hd => by cases hd⟩, rfl⟩) ((Fr.ex e1).trans hFr)
  have z := of_decide_eq_false z
  have hp1 : 1 ≤ p := by omega
  refine s_ifR (Evl.et_not (evt_B (evp_begun TF (ef e1)))) (fun y H2 e2 => ?_) fun y H2 e2 => ?_
  · have hb := not_t y
    subst hb
    cases s with
    | some a => exact absurd hS.1 (by decide)
    | none =>
      have es := step_none hp1 cok.lt nums xs
      exact one (r := -61) (by rw [es]) (hF.stay (e1.trans e2)) (by rw [es]; exact hS) (Fr.ex (e1.trans e2))
  have hb := not_f y
  subst hb
  cases s with
  | none => exact absurd hS.1 (by decide)
  | some a =>
  obtain ⟨_, ok, hR, rfl⟩ := hS
  have e12 := e1.trans e2
  have hxl : p < 20 → xs = [] := fun h20 => by
    have h1 := cok.rows
    have h2 := (by decide : ∀ p : Nat, p < 20 → rowsL.getD p 0 = 0) p h20
    rw [h2] at h1
    exact List.length_eq_zero_iff.mp (by omega)
  refine s_ifR (evt_le (evp_cnum TC (ec e12)) (evp_c rfl)) (fun x H3 e3 => ?_) fun x H3 e3 => ?_
  · have h13 : p ≤ 13 := by
      have := of_decide_eq_true x
      omega
    obtain ⟨k, rfl⟩ : ∃ k, p = k + 1 := ⟨p - 1, by omega⟩
    obtain rfl := hxl (by omega)
    have e13 := e12.trans e3
    have hF3 := hF.stay e13
    obtain ⟨⟨dx, hfa⟩, _⟩ := id hF3
    refine ⟨_, rfl, fa, dx, _, rfl, hfa, lkF_none, ?_⟩
    have hC3 : (rCall CC ((k + 1 : Nat) : Int) nums [] b).is vc (wo fa pl gl H3) := Rp.stay _ (wo_mono e13) hC
    obtain ⟨pc, dxc, fsc, rfl, hpc, u0, _, rfl, hu0, u1, _, rfl, hu1, _⟩ := hC3
    have hu0 : u0 = .int ((k + 1 : Nat) : Int) := hu0
    subst hu0
    have hpc3 : H3 pc = some (.ins CC dxc _) := (nw_some hpc).2
    have ci : ((k + 1 : Nat) : Int) - 1 = (k : Int) := by omega
    refine ⟨_, rfl, pc, CC, dxc, _, _, rfl, hpc3, TC.cl, TC.nN, lkg_here, _, _, rfl, rfl, _, rfl, pc, CC, dxc, _, u1, rfl, hpc3, TC.cl, TC.nT, (lkg_past (by decide +kernel)).trans lkg_here, ?_⟩
    have hst := step_draw a (show k < 13 by omega) nums
    have hw : nums.length = (wholeL.getD (k + 1) 0).toNat := by
      have := cok.whole
      omega
    refine ⟨fa, pl, gl, a, ds, k, nums, u1, congrArg (fun (z : Int) => ([V.ref fa, V.int z, u1] : List V)) ci, hF3, ok, hR, by omega, hu1, hw, cok.step (by omega) h13, fun ds' H4 hF4 ok4 hR4 hFr => ?_⟩
    exact one (r := (Kh374.add a (stepOf k nums)).2.ret) (by rw [hst]) hF4 (by rw [hst]; exact ⟨rfl, ok4, hR4, rfl⟩) ((Fr.ex e13).trans hFr)
  have x := of_decide_eq_false x
  have e13 := e12.trans e3
  refine s_ifR (evt_eq (evp_cnum TC (ec e13)) (evp_c rfl)) (fun u H4 e4 => ?_) fun u H4 e4 => ?_
  · have ep : p = 14 := by
      have := of_decide_eq_true u
      omega
    subst ep
    have e14 := e13.trans e4
    have hF4 := hF.stay e14
    obtain ⟨⟨dx, hfa⟩, _⟩ := id hF4
    refine ⟨_, rfl, fa, dx, _, rfl, hfa, lkF_none, ?_⟩
    have hst := step_out a nums xs
    refine ⟨fa, pl, gl, ds, Kh373.lettersOf a, rfl, hF4, ?_⟩
    by_cases ha : a = []
    · rw [if_pos ha] at hst
      left
      have hd0 : ds = [] := List.length_eq_zero_iff.mp (by rw [hR.1, ha]; rfl)
      refine ⟨hd0, fun H5 e5 => ?_⟩
      exact one (r := -2) (by rw [hst]) (hF4.stay e5) (by rw [hst]; exact ⟨rfl, ok, hR, rfl⟩) (Fr.ex (e14.trans e5))
    · rw [if_neg ha] at hst
      right
      have hds : ds ≠ [] := fun z => ha (List.length_eq_zero_iff.mp (by rw [← hR.1, z]; rfl))
      obtain ⟨a', st, rfl⟩ : ∃ a' st, a = a' ++ [st] := ⟨a.dropLast, a.getLast ha, (List.dropLast_concat_getLast ha).symm⟩
      obtain ⟨ds', dd, rfl⟩ : ∃ ds' dd, ds = ds' ++ [dd] := ⟨ds.dropLast, ds.getLast hds, (List.dropLast_concat_getLast hds).symm⟩
      have hlen : ds'.length = a'.length := by
        have := hR.1
        rw [List.length_append, List.length_append] at this
        have : ds'.length + 1 = a'.length + 1 := this
        omega
      have hPt := hR.2 ds'.length dd (by rw [List.getElem?_append_right (Nat.le_refl _), Nat.sub_self]; rfl)
      obtain ⟨st', hst1, hk, _⟩ := hPt.step
      rw [hlen, List.getElem?_append_right (Nat.le_refl _), Nat.sub_self] at hst1
      have est : st = st' := Option.some.inj hst1
      subst est
      have hk13 : Kh371.kind st < 13 := by cases st <;> simp [Kh371.kind]
      have hls := letters_snoc a' st
      rw [List.dropLast_concat, List.length_append] at hst
      have hst : Kh374Neutral.step (some (a' ++ [st])) (callC 14 nums xs) = (some a', [((a'.length + 1 - 1 : Nat) : Int)]) := hst
      rw [Nat.add_sub_cancel] at hst
      refine ⟨ds', dd, Kh373.lettersOf a', rfl, by rw [hk]; exact hk13, by rw [hk, own_takes, hls], fun H5 hF5 hFr => ?_⟩
      rw [hlen]
      exact one (r := (a'.length : Int)) (by rw [hst]) hF5 (by rw [hst]; exact ⟨rfl, (FigOk.inv ok).1, FigR.drop hR, rfl⟩) ((Fr.ex e14).trans hFr)
  have u := of_decide_eq_false u
  have e14 := e13.trans e4
  have h15 : 15 ≤ p := by omega
  have hst := step_look a h15 cok.lt nums xs
  have fin : ∀ {H5 : Hp} (q : Addr), H q = none → Ex H H5 → (rInts (ansC a p nums xs)).is (.ref q) H5 → Q (.ref q) H5 := fun {H5} q nq e5 hr5 => by
    refine hq q pl true ds _ H5 (hF.stay e5) (by rw [hst]; exact ⟨rfl, ok, hR, rfl⟩) (Fr.ex e5) (ne_of_none hgl nq).symm ?_
    rw [hst]
    exact hr5
  refine s_ifR (evt_le (evp_cnum TC (ec e14)) (evp_c rfl)) (fun t H5 e5 => ?_) fun t H5 e5 => ?_
  · have h19 : p ≤ 19 := by
      have := of_decide_eq_true t
      omega
    exact s_retF (e14.trans e5) (evf_call (E := E0) (evps_cons (ef (e14.trans e5)) (evps_cons (ec (e14.trans e5)) evps_nil)) (cLook.mk ok hR h15 h19 cok.whole (cok.look h15 h19))) fun q H6 nq e6 hr6 => fin q nq e6 hr6
  · have h20 : 20 ≤ p := by
      have := of_decide_eq_false t
      omega
    exact s_retF (e14.trans e5) (evf_call (E := E0) (evps_cons (ef (e14.trans e5)) (evps_cons (ec (e14.trans e5)) evps_nil)) (cAsk.mk ok hR h20 cok.lt cok.whole cok.rows (cok.ask h20) cok.long (cok.its h20))) fun q H6 nq e6 hr6 => fin q nq e6 hr6
end
end Ds
end
section
set_option Elab.async false
set_option linter.all false
set_option maxRecDepth 100000
set_option maxHeartbeats 1000000
namespace Ds
open PySem PySem.Spec PyProof.Rows L2 Su
open Evl (Ex EvT EvL)
open Kh374 (Tri Fig)
theorem toldUp_app : ∀ (b a : List CallL), ∃ r, toldUp (a ++ b) = toldUp a ++ r
  | [], a => ⟨[], by rw [List.append_nil, List.append_nil]⟩
  | c :: b, a => by
    obtain ⟨r, hr⟩ := toldUp_app b (a ++ [c])
    rw [List.append_assoc, List.singleton_append, toldUp_snoc, List.append_assoc] at hr
    exact ⟨_, hr⟩
theorem toldUp_take {cs : List CallL} (i : Nat) : (toldUp (cs.take i)).length ≤ (toldUp cs).length := by
  obtain ⟨r, hr⟩ := toldUp_app (cs.drop i) (cs.take i)
  rw [List.take_append_drop] at hr
  rw [hr, List.length_append]
  omega
theorem FigAt.given {CF C fa pl gl : Addr} {bg : Bool} {ds : List PtD} {L : Nat} {H : Hp} {zs : List V} (h : FigAt CF C fa pl gl bg ds L H) : FigAt CF C fa pl gl bg ds L (L2.upd H gl (.lst zs)) := by
  have nfg := h.nfg
  obtain ⟨⟨dx, h1⟩, ⟨us, h2, h3⟩, ⟨gs, h4⟩, h5⟩ := h
  refine ⟨⟨dx, ?_⟩, ⟨us, ?_, ?_⟩, ⟨zs, upd_same⟩, h5⟩
  · rw [upd_ne nfg]
    exact h1
  · rw [upd_ne h5.symm]
    exact h2
  · rw [wo_g]
    exact h3
def spAnswers (K : PySem.W.Frag) : Sp := fun vs H Q _ => ∃ (a : Addr) (l : List Int) (cs : List CallL), vs = [.ref a] ∧ SqL K H a (l.map V.int) ∧ l.length ≤ 30000 ∧ Asked l cs ∧ ∀ (p : Addr) (H' : Hp), H' p = some (.lst ((toldUp cs).map V.int)) → Q (.ref p) H'
section
variable {P : Program} {w : World} {K : PySem.W.Frag} {mg : Str → Option Value} {base : Heap} {CF C CC : Addr}
theorem sc_answers : FnScope ["calls", "figure", "given", "call", "answered"] ["calls"] (defScope s_answers) := ⟨rfl, rfl, rfl, by decide +kernel, rfl, by decide +kernel, by decide +kernel⟩
theorem ok_answers {f fI : Addr} {fd fdI : FuncData} (F : FnP K "answers" "answers" s_answers f fd) (TF : FigC K CF) (M : Mk K CF fI) (G : FnOk P w K mg base CX0 1 fI fdI ["self"] (spFigI CF C)) (bI : Binds K fdI ["self"] []) (gF : mg "Figure" = some (.ref CF)) (ml : mg "len" = none)
    (g_read : Good P w K mg base "read_calls" 3 ["calls"] (spRead K CC)) (g_answer : GoodM P w K mg base CF "answer" 13 ["self", "call"] (spAns CF C CC)) :
    FnOk P w K mg base CX0 14 f fd ["calls"] (spAnswers K) := by
  refine F.ok sc_answers (fun vs H Q E h => ?_) fun cdv A outer s H vs Q E hr h => ?_
  · obtain ⟨_, _, _, rfl, _⟩ := h
    rfl
  obtain ⟨a, l, cs, rfl, hS, hlen, hA, hq⟩ := h
  refine ⟨_, PSs.nox (pss_cons (ps_set (i := 1) sc_answers.nd rfl (.inl rfl) (pe_make0 M G (hr.mono (by decide)) (by rfl) gF bI .nil pass0))
    (pss_cons (ps_set (i := 2) sc_answers.nd rfl (.inl rfl) (pe_lst pa_nil))
    (pss_cons (ps_for PassesOwn.never rfl (pi_list (pe_g g_read (hr.mono (by decide)) (by rfl) (pa_cons (pv 0) pa_nil))) (pg_name (i := 3) sc_answers.nd rfl (.inl rfl))
      (pss_cons (ps_set (i := 4) sc_answers.nd rfl (.inl rfl) (pe_gm g_answer TF.cl hr (pv 1) (pa_cons (pv 3) pa_nil)))
      (pss_cons (ps_expr (pe_bm PySem.F.plainAttrs_list PySem.F.slot_list_append PySem.F.type_list_append mt_append (pv 2) (pa_cons (pe_callB call_len_seq (by rfl) ml PySem.boot_len (pa_cons (pv 4) pa_nil)) pa_nil)))
      (pss_one (ps_expr (pe_bm PySem.F.plainAttrs_list PySem.F.slot_list_extend PySem.F.type_list_extend mt_extend (pv 2) (pa_cons (pv 4) pa_nil)))))))
    (pss_one (ps_ret (pv 2)))))), ?_⟩
  refine s_st (σ2 := [some (.ref a), none, none, none, none]) rfl ?_
  -- figure = Figure()
  refine s_seq ?_
  intro fa dx nf nd ne
  have exn : Ex H (L2.upd (L2.upd H dx (.own fa)) fa (.ins CF dx [])) := fun p o hp => by
    rw [upd_ne (ne_of_none hp nf), upd_ne (ne_of_none hp nd)]
    exact hp
  refine ⟨fa, dx, rfl, upd_same, fun pl H1 npl hfa hpl kp => ⟨rfl, ?_⟩⟩
  have e1 : Ex H H1 := fun p o hp => kp p o (exn p o hp) (ne_of_none hp nf)
  show tSeq _ _ _ [some (.ref a), some (.ref fa), none, none, none] H1
  -- given = []
  refine s_seq ⟨Nat.zero_le _, fun gl ngl => ?_⟩
  have e2 : Ex H1 (L2.upd H1 gl (.lst [])) := Ex.new ngl
  have h2g : L2.upd H1 gl (.lst []) gl = some (.lst []) := upd_same
  have h2f := e2 _ _ hfa
  have h2p := e2 _ _ hpl
  have ngp : gl ≠ pl := (ne_of_none hpl ngl).symm
  generalize L2.upd H1 gl (.lst []) = H2 at e2 h2g h2f h2p
  show tSeq _ _ _ [some (.ref a), some (.ref fa), some (.ref gl), none, none] H2
  refine s_seq ⟨_, rfl, a, l, cs, rfl, Evl.ex_l (e1.trans e2) hS, hlen, hA.read, fun fl us H3 e3 nfl hfl hus => ?_⟩
  have h3f := e3 _ _ h2f
  have h3p := e3 _ _ h2p
  have h3g := e3 _ _ h2g
  have lf : fl ≠ fa := (ne_of_none h2f nfl).symm
  have lp : fl ≠ pl := (ne_of_none h2p nfl).symm
  have lg : fl ≠ gl := (ne_of_none h2g nfl).symm
  have toW : Ex (nw (fun a => H2 a ≠ none) H3) (wo fa pl gl H3) := fun p o hp => by
    obtain ⟨h1, h2⟩ := nw_some hp
    unfold wo
    rw [nw_ne]
    · exact h2
    · rintro (rfl | rfl | rfl)
      · exact h1 (by rw [h2f]; exact fun z => by cases z)
      · exact h1 (by rw [h2p]; exact fun z => by cases z)
      · exact h1 (by rw [h2g]; exact fun z => by cases z)
  have hwl : wo fa pl gl H3 fl = some (.lst us) := by
    unfold wo
    rw [nw_ne]
    · exact hfl
    · rintro (z | z | z)
      · exact lf z
      · exact lp z
      · exact lg z
  have hul : us.length = cs.length := by rw [hus.len, List.length_map]
  refine ⟨fl, rfl, ⟨us, .inl (.inl hfl)⟩, for_list (K := K) (xs := us) (fun i σ H' => ∃ pl bg ds L y3 y4, σ = [some (.ref a), some (.ref fa), some (.ref gl), y3, y4] ∧ FigAt CF C fa pl gl bg ds L H' ∧ StR (after (cs.take i)) bg ds L ∧ H' gl = some (.lst ((toldUp (cs.take i)).map V.int)) ∧ wo fa pl gl H' fl = some (.lst us) ∧ All2 (cs.map (rCal CC)) us (wo fa pl gl H'))
    ⟨pl, false, [], 0, none, none, rfl, ⟨⟨dx, h3f⟩, ⟨[], h3p, rfl⟩, ⟨[], h3g⟩, ngp⟩, ⟨rfl, rfl, rfl⟩, h3g, hwl, hus.stay toW⟩ (fun i σ H' _ ⟨_, _, _, _, _, _, _, _, _, _, hw, _⟩ => .inl (.inl (wo_ex _ _ _ _ _ _ hw))) ?_ ?_⟩
  · rintro i x σ H' hx ⟨pl, bg, ds, L, y3, y4, rfl, hF, hSt, hg, hw, hu⟩
    obtain ⟨c, hc, hxc⟩ := all2_at hu hx
    obtain ⟨p, nums, xs, sh⟩ := calls_shaped hA.read c (List.mem_of_getElem? hc)
    have ec := sh.eq
    have tk : cs.take (i + 1) = cs.take i ++ [c] := by rw [List.take_add_one, hc]; rfl
    have cok := callOk_of sh (hA.inside c (List.mem_of_getElem? hc))
    rw [ec] at hxc
    obtain ⟨b, hxc⟩ := hxc
    have hxc : (rCall CC p nums xs b).is x (wo fa pl gl H') := hxc
    have hsn := toldUp_snoc (cs.take i) c
    have haf := after_snoc (cs.take i) c
    have hsh := Nat.le_trans (toldUp_take (cs := cs) (i + 1)) hA.short
    rw [← tk] at hsn haf
    show tSeq _ _ _ [some (.ref a), some (.ref fa), some (.ref gl), some x, y4] H'
    obtain ⟨⟨dx, hfa⟩, _⟩ := id hF
    refine ⟨_, rfl, fa, dx, _, rfl, hfa, lkF_none, _, rfl, ?_⟩
    refine ⟨fa, pl, gl, after (cs.take i), bg, ds, L, p, nums, xs, b, x, rfl, hF, hSt, hxc, cok, fun q pl' bg' ds' L' H4 hF4 hS4 hFr nq hr4 => ?_⟩
    rw [show callC p nums xs = c from ec.symm] at hS4 hr4
    have hS4 : StR (Kh374Neutral.step (after (cs.take i)) c).1 bg' ds' L' := hS4
    have hr4 : (rInts (Kh374Neutral.step (after (cs.take i)) c).2).is (.ref q) H4 := hr4
    obtain ⟨q', eq, hq4⟩ := hr4
    obtain rfl : q = q' := V.ref.inj eq
    rw [← haf] at hS4
    generalize (Kh374Neutral.step (after (cs.take i)) c).2 = ans at hsn hq4
    rw [hsn, List.length_append, List.length_cons] at hsh
    have hg4 := hFr.2 _ hg
    show tSeq _ _ _ [some (.ref a), some (.ref fa), some (.ref gl), some x, some (.ref q)] H4
    have l1 : ((toldUp (cs.take i)).map V.int).length < sizeLine := by
      rw [List.length_map]
      refine Nat.lt_of_lt_of_le ?_ (show 10000000 ≤ sizeLine by rw [sizeLine_eq]; decide)
      omega
    refine s_seq ⟨_, rfl, .inl ⟨rfl, _, .inl (.inl hg4)⟩, _, rfl, q, _, rfl, .inl (.inl (.inl hq4)), gl, _, _, rfl, rfl, hg4, l1, ?_⟩
    have l2 : ((toldUp (cs.take i)).map V.int ++ [V.int ((ans.map V.int).length : Int)]).length + (ans.map V.int).length ≤ sizeLine := by
      rw [List.length_append, List.length_map, List.length_map]
      refine Nat.le_trans ?_ (show 10000000 ≤ sizeLine by rw [sizeLine_eq]; decide)
      show _ + 1 + _ ≤ _
      omega
    refine ⟨_, rfl, .inl ⟨rfl, _, .inl (.inl upd_same)⟩, _, rfl, gl, q, _, _, rfl, rfl, upd_same, by rw [upd_ne nq]; exact hq4, l2, ?_⟩
    refine ⟨pl', bg', ds', L', _, _, rfl, hF4.given.given, hS4, ?_, ?_, ?_⟩
    · rw [upd_same, hsn, List.length_map, List.append_assoc, List.map_append]
      rfl
    · rw [wo_g, wo_g]
      exact hFr.1 _ _ hw
    · rw [wo_g, wo_g]
      exact hu.stay hFr.1
  · rintro σ H' ⟨pl, bg, ds, L, y3, y4, rfl, hF, hSt, hg, hw, hu⟩
    rw [hul, List.take_length] at hg
    exact ⟨_, rfl, hq gl H' hg⟩
end
end Ds
end
section
set_option Elab.async false
set_option linter.all false
set_option maxRecDepth 100000
set_option maxHeartbeats 4000000
namespace Ds
open PySem PySem.Spec PyProof.Rows L2 Su
/-! ### the head's facts, and each def's promise (printed by gen_fin.py) -/
theorem decl_of {K : PySem.W.Frag} {mg : Str → Option Value} {x : Str} {st : Stmt} {f : Addr} (h : ∃ fd, FnP K x x st f fd) (g : mg x = some (.ref f)) : Decl K mg x st := by
  obtain ⟨fd, F⟩ := h
  exact ⟨f, fd, F, g⟩
theorem declM_of {K : PySem.W.Frag} {C : Addr} {cn m qual : Str} {st : Stmt} {f : Addr} (h : ∃ fd, FnP K m qual st f fd) (g : Meth K C m f) : DeclM K C cn m qual st := by
  obtain ⟨fd, F⟩ := h
  exact ⟨f, fd, F, g⟩
theorem wt_of {K : PySem.W.Frag} {mg : Str → Option Value} {x : Str} {p : Addr} {T : List (List Nat)} (g : mg x = some (.ref p)) (h : nestAt K p (T.map nI) = true) : WtN K mg x T := by
  obtain ⟨rs, h1, h2, h3⟩ := nestAt_ok h
  refine ⟨p, rs, g, h1, by rw [h2, List.length_map], fun i ws hw => ?_⟩
  exact h3 i (nI ws) (by rw [List.getElem?_map, hw]; rfl)
theorem say_of {K : PySem.W.Frag} {mg : Str → Option Value} {p : Addr} (g : mg "SAYINGS" = some (.ref p)) (h : fnsAt K p (sayNames.map (He.ga K)) = true) (hx : ∀ x ∈ sayNames, mg x = some (.ref (He.ga K x))) : SayT K mg := by
  refine ⟨p, sayNames.map (He.ga K), g, fnsAt_ok h, fun i x hi => ⟨He.ga K x, by rw [List.getElem?_map, hi]; rfl, hx x (List.mem_of_getElem? hi)⟩⟩

theorem chain {P : Program} {w : World} {K : PySem.W.Frag} {mg : Str → Option Value} {base : Heap} {C CF CC f fC fF fP : Addr} {fd fdC fdF fdP : FuncData}
    (h1 : Binds K fdC ["self", "calls", "at"] [])
    (h2 : Binds K fdF ["self"] [])
    (h3 : Binds K fdP ["self", "kind", "told", "xyw", "reach", "heavy"] [])
    (d_without_noughts_ : Decl K mg "without_noughts" s_without_noughts)
    (d_plus_ : Decl K mg "plus" s_plus)
    (h4 : mg "dict" = none)
    (d_less_ : Decl K mg "less" s_less)
    (d_times_ : Decl K mg "times" s_times)
    (d_constant_ : Decl K mg "constant" s_constant)
    (d_letter_ : Decl K mg "letter" s_letter)
    (t_PLACES : TupC K mg "PLACES" placesL)
    (d_is_nought_ : Decl K mg "is_nought" s_is_nought)
    (h5 : mg "len" = none)
    (d_fixed_ : Decl K mg "fixed" s_fixed)
    (d_free_ : Decl K mg "free" s_free)
    (d_without_points_ : Decl K mg "without_points" s_without_points)
    (i_FIXED : IntC mg "FIXED" 0)
    (d_added_products_ : Decl K mg "added_products" s_added_products)
    (d_crossed_products_ : Decl K mg "crossed_products" s_crossed_products)
    (d_way_ : Decl K mg "way" s_way)
    (h6 : PtC K C)
    (d_line_ : Decl K mg "line" s_line)
    (d_beside_ : Decl K mg "beside" s_beside)
    (d_area_ : Decl K mg "area" s_area)
    (d_square_ : Decl K mg "square" s_square)
    (d_matched_ : Decl K mg "matched" s_matched)
    (d_moved_ : Decl K mg "moved" s_moved)
    (d_part_ : Decl K mg "part" s_part)
    (d_on_ : Decl K mg "on" s_on)
    (d_along_ : Decl K mg "along" s_along)
    (d_meeting_ : Decl K mg "meeting" s_meeting)
    (d_meet_ : Decl K mg "meet" s_meet)
    (d_dropped_ : Decl K mg "dropped" s_dropped)
    (d_foot_ : Decl K mg "foot" s_foot)
    (d_mirror_ : Decl K mg "mirror" s_mirror)
    (d_turn_ : Decl K mg "turn" s_turn)
    (d_centre_ : Decl K mg "centre" s_centre)
    (d_second_ : Decl K mg "second" s_second)
    (d_round_about_ : Decl K mg "round_about" s_round_about)
    (d_inverse_ : Decl K mg "inverse" s_inverse)
    (d_crossed_ : Decl K mg "crossed" s_crossed)
    (d_weights_ : Decl K mg "weights" s_weights)
    (d_same_ : Decl K mg "same" s_same)
    (d_on_one_line_ : Decl K mg "on_one_line" s_on_one_line)
    (d_parallel_ : Decl K mg "parallel" s_parallel)
    (d_right_ : Decl K mg "right" s_right)
    (d_far_ : Decl K mg "far" s_far)
    (d_so_many_times_ : Decl K mg "so_many_times" s_so_many_times)
    (d_equal_ : Decl K mg "equal" s_equal)
    (d_around_ : Decl K mg "around" s_around)
    (d_circle_ : Decl K mg "circle" s_circle)
    (d_angles_ : Decl K mg "angles" s_angles)
    (d_areas_ : Decl K mg "areas" s_areas)
    (d_through_ : Decl K mg "through" s_through)
    (d_middle_ : Decl K mg "middle" s_middle)
    (d_touches_ : Decl K mg "touches" s_touches)
    (d_together_ : Decl K mg "together" s_together)
    (d_alike_ : Decl K mg "alike" s_alike)
    (h7 : FnP K "__init__" "Call.__init__" s_Call_init fC fdC)
    (h8 : CallC K CC)
    (t_WHOLE_NUMBERS : TupC K mg "WHOLE_NUMBERS" wholeL)
    (t_ROWS : TupC K mg "ROWS" rowsL)
    (h9 : mg "range" = none)
    (d_read_calls_ : Decl K mg "read_calls" s_read_calls)
    (h10 : Mk K CC fC)
    (h11 : mg "Call" = some (.ref CC))
    (d_count_of_points_ : Decl K mg "count_of_points" s_count_of_points)
    (h12 : WtC K mg)
    (d_places_ : Decl K mg "places" s_places)
    (d_heavy_by_ : Decl K mg "heavy_by" s_heavy_by)
    (h13 : LimC K C)
    (t_OWN_HEAVY : TupC K mg "OWN_HEAVY" (nI ownHeavyL))
    (h14 : mg "zip" = none)
    (d_value_fits_ : Decl K mg "value_fits" s_value_fits)
    (i_MOST_VALUE : IntC mg "MOST_VALUE" 1000)
    (h15 : mg "abs" = none)
    (d_numbers_fit_ : Decl K mg "numbers_fit" s_numbers_fit)
    (i_PART : IntC mg "PART" 3)
    (d_weighted_reach_ : Decl K mg "weighted_reach" s_weighted_reach)
    (i_MOST_LETTERS : IntC mg "MOST_LETTERS" 4)
    (h16 : mg "enumerate" = none)
    (d_reach_by_ : Decl K mg "reach_by" s_reach_by)
    (t_OWN_LETTERS : TupC K mg "OWN_LETTERS" (nI ownLetL))
    (t_OWN_REACH : TupC K mg "OWN_REACH" (nI ownReachL))
    (d_reach_in_ : Decl K mg "reach_in" s_reach_in)
    (h17 : WtN K mg "SAYING_WEIGHTS" sayWtL)
    (dm_has_point : DeclM K CF "Figure" "has_point" "Figure.has_point" s_Figure_has_point)
    (h18 : FigC K CF)
    (dm_has_room : DeclM K CF "Figure" "has_room" "Figure.has_room" s_Figure_has_room)
    (i_MOST_POINTS : IntC mg "MOST_POINTS" 12)
    (dm_has_letter : DeclM K CF "Figure" "has_letter" "Figure.has_letter" s_Figure_has_letter)
    (dm_next_letters : DeclM K CF "Figure" "next_letters" "Figure.next_letters" s_Figure_next_letters)
    (d_power_in_ : Decl K mg "power_in" s_power_in)
    (i_POWERS_BELOW : IntC mg "POWERS_BELOW" 1000)
    (d_terms_ : Decl K mg "terms" s_terms)
    (h19 : mg "sorted" = none)
    (d_power_of_ : Decl K mg "power_of" s_power_of)
    (h20 : mg "max" = none)
    (d_most_in_ : Decl K mg "most_in" s_most_in)
    (d_flat_terms_ : Decl K mg "flat_terms" s_flat_terms)
    (d_common_of_two_ : Decl K mg "common_of_two" s_common_of_two)
    (d_common_in_ : Decl K mg "common_in" s_common_in)
    (d_raised_ : Decl K mg "raised" s_raised)
    (d_put_ : Decl K mg "put" s_put)
    (d_comes_to_ : Decl K mg "comes_to" s_comes_to)
    (d_points_in_saying_ : Decl K mg "points_in_saying" s_points_in_saying)
    (d_saying_fits_ : Decl K mg "saying_fits" s_saying_fits)
    (t_SAYING_NUMBERS : TupC K mg "SAYING_NUMBERS" (nI sayNumL))
    (h21 : mg "all" = none)
    (d_left_ : Decl K mg "left" s_left)
    (h22 : SayT K mg)
    (d_told_terms_ : Decl K mg "told_terms" s_told_terms)
    (i_MOST_TOLD : IntC mg "MOST_TOLD" 1000000000000000)
    (i_TOO_MUCH : IntC mg "TOO_MUCH" (-75))
    (d_numbers_ : Decl K mg "numbers" s_numbers)
    (i_DOES_NOT_FIT : IntC mg "DOES_NOT_FIT" (-22))
    (d_degree_ : Decl K mg "degree" s_degree)
    (i_NOT_THERE : IntC mg "NOT_THERE" (-2))
    (d_common_ : Decl K mg "common" s_common)
    (d_looked_at_ : Decl K mg "looked_at" s_looked_at)
    (h23 : NoAttr K C "kind")
    (h24 : NoAttr K C "told")
    (i_POINTS : IntC mg "POINTS" 15)
    (i_STEP : IntC mg "STEP" 16)
    (i_NUMBERS : IntC mg "NUMBERS" 17)
    (i_DEGREE : IntC mg "DEGREE" 18)
    (d_yes_or_no_ : Decl K mg "yes_or_no" s_yes_or_no)
    (d_named_points_ : Decl K mg "named_points" s_named_points)
    (d_refusal_of_ : Decl K mg "refusal_of" s_refusal_of)
    (i_MOST_PLACES : IntC mg "MOST_PLACES" 200)
    (d_power_ : Decl K mg "power" s_power)
    (d_at_ : Decl K mg "at" s_at)
    (d_goes_ : Decl K mg "goes" s_goes)
    (d_asked_of_one_ : Decl K mg "asked_of_one" s_asked_of_one)
    (i_REST : IntC mg "REST" 22)
    (i_AT : IntC mg "AT" 24)
    (i_IS : IntC mg "IS" 25)
    (d_asked_ : Decl K mg "asked" s_asked)
    (i_HOLDS : IntC mg "HOLDS" 20)
    (i_RESTS : IntC mg "RESTS" 21)
    (i_POWER : IntC mg "POWER" 23)
    (dm_keep : DeclM K CF "Figure" "keep" "Figure.keep" s_Figure_keep)
    (i_NEVER_THERE : IntC mg "NEVER_THERE" (-33))
    (dm_take_out : DeclM K CF "Figure" "take_out" "Figure.take_out" s_Figure_take_out)
    (dm_begin : DeclM K CF "Figure" "begin" "Figure.begin" s_Figure_begin)
    (h25 : FnP K "__init__" "Figure.__init__" s_Figure_init fF fdF)
    (h26 : FnP K "__init__" "Point.__init__" s_Point_init fP fdP)
    (d_from_two_ : Decl K mg "from_two" s_from_two)
    (i_ON : IntC mg "ON" 2)
    (i_TURN : IntC mg "TURN" 8)
    (d_from_three_ : Decl K mg "from_three" s_from_three)
    (i_ALONG : IntC mg "ALONG" 4)
    (i_FOOT : IntC mg "FOOT" 6)
    (i_MIRROR : IntC mg "MIRROR" 7)
    (i_CENTRE : IntC mg "CENTRE" 9)
    (i_SECOND : IntC mg "SECOND" 10)
    (d_drawn_ : Decl K mg "drawn" s_drawn)
    (i_FREE : IntC mg "FREE" 1)
    (i_ROUND : IntC mg "ROUND" 11)
    (i_MEET : IntC mg "MEET" 5)
    (dm_draw : DeclM K CF "Figure" "draw" "Figure.draw" s_Figure_draw)
    (i_FULL : IntC mg "FULL" (-28))
    (i_MOST_HEAVY : IntC mg "MOST_HEAVY" 400)
    (h27 : Mk K C fP)
    (h28 : mg "Point" = some (.ref C))
    (dm_answer : DeclM K CF "Figure" "answer" "Figure.answer" s_Figure_answer)
    (i_BEGIN : IntC mg "BEGIN" 0)
    (i_NOT_BEGUN : IntC mg "NOT_BEGUN" (-61))
    (i_LAST_STEP : IntC mg "LAST_STEP" 13)
    (i_FIRST_STEP : IntC mg "FIRST_STEP" 1)
    (i_OUT : IntC mg "OUT" 14)
    (i_COMMON : IntC mg "COMMON" 19)
    (h29 : FnP K "answers" "answers" s_answers f fd)
    (h30 : Mk K CF fF)
    (h31 : mg "Figure" = some (.ref CF))
    : FnOk P w K mg base CX0 14 f fd ["calls"] (spAnswers K) := by
  have g0 : Good P w K mg base "without_noughts" 1 ["f"] (pf cWo) := good_wo d_without_noughts_
  have g1 : Good P w K mg base "plus" 2 ["f", "g"] (pf cPlus) := good_plus d_plus_ g0 h4
  have g2 : Good P w K mg base "less" 2 ["f", "g"] (pf cLess) := good_less d_less_ g0 h4
  have g3 : Good P w K mg base "times" 2 ["f", "g"] (pf cTimes) := good_times d_times_ g0
  have g4 : Good P w K mg base "times" 2 ["f", "g"] (pf cTimesG) := good_timesG g3
  have g5 : Good P w K mg base "plus" 2 ["f", "g"] (pf cPlusG) := good_plusG g1
  have g6 : Good P w K mg base "less" 2 ["f", "g"] (pf cLessG) := good_lessG g2
  have g7 : Good P w K mg base "constant" 1 ["number"] (pf cConst) := good_constant d_constant_
  have g8 : Good P w K mg base "letter" 1 ["index"] (pf cLetter) := good_letter d_letter_ t_PLACES
  have g9 : Good P w K mg base "is_nought" 1 ["f"] (pf cNought) := good_is_nought d_is_nought_ h5
  have g10 : Good P w K mg base "fixed" 2 ["m", "n"] (pf cFixed) := good_fixed d_fixed_ g7
  have g11 : Good P w K mg base "free" 2 ["s", "t"] (pf cFixed) := good_free d_free_ g7
  have g12 : Good P w K mg base "without_points" 3 ["kind", "told"] (pf (cNoPts C)) := good_without_points d_without_points_ i_FIXED g10 g11
  have g13 : Good P w K mg base "added_products" 3 ["f", "g", "h", "k"] (pf cAdded) := good_added_products d_added_products_ g5 g4
  have g14 : Good P w K mg base "crossed_products" 3 ["f", "g", "h", "k"] (pf cCross) := good_crossed_products d_crossed_products_ g6 g4
  have g15 : Good P w K mg base "way" 4 ["a", "b"] (pf (cWay C)) := good_way d_way_ h6 g14
  have g16 : Good P w K mg base "line" 4 ["a", "b"] (pf (cLine C)) := good_line d_line_ h6 g14
  have g17 : Good P w K mg base "beside" 4 ["pqr", "c"] (pf (cBeside C)) := good_beside d_beside_ h6 g5 g13 g4
  have g18 : Good P w K mg base "area" 5 ["a", "b", "c"] (pf (cArea C)) := good_area d_area_ h6 g17 g16
  have g19 : Good P w K mg base "square" 4 ["a"] (pf (cSquare C)) := good_square d_square_ h6 g13
  have g20 : Good P w K mg base "matched" 4 ["first", "other"] (pf cMatched) := good_matched d_matched_ g13
  have g21 : Good P w K mg base "moved" 3 ["a", "scale", "across", "up"] (pf (cMoved C)) := good_moved d_moved_ h6 g5 g4
  have g22 : Good P w K mg base "part" 5 ["a", "b", "m", "n"] (pf (cPart C)) := good_part d_part_ h6 g15 g21 g4
  have g23 : Good P w K mg base "on" 6 ["a", "b", "s"] (pf (cOn C)) := good_on d_on_ h6 g22 g7
  have g24 : Good P w K mg base "along" 5 ["a", "b", "c"] (pf (cAlong C)) := good_along d_along_ h6 g15 g21 g4
  have g25 : Good P w K mg base "meeting" 4 ["pqr", "other"] (pf cMeeting) := good_meeting d_meeting_ g14
  have g26 : Good P w K mg base "meet" 5 ["a", "b", "c", "d"] (pf (cMeet C)) := good_meet d_meet_ h6 g25 g16
  have g27 : Good P w K mg base "dropped" 5 ["c", "a", "b", "share"] (pf (cDropped C)) := good_dropped d_dropped_ h6 g16 g4 g17 g21 g20
  have g28 : Good P w K mg base "foot" 6 ["c", "a", "b"] (pf (cFoot C)) := good_foot d_foot_ h6 g27 g7
  have g29 : Good P w K mg base "mirror" 6 ["c", "a", "b"] (pf (cMirror C)) := good_mirror d_mirror_ h6 g27 g7
  have g30 : Good P w K mg base "turn" 5 ["a", "b"] (pf (cTurn C)) := good_turn d_turn_ h6 g15 g21 g4 g7
  have g31 : Good P w K mg base "centre" 6 ["a", "b", "c"] (pf (cCentre C)) := good_centre d_centre_ h6 g4 g19 g16 g7 g5 g13 g18
  have g32 : Good P w K mg base "second" 5 ["a", "b", "o"] (pf (cSecond C)) := good_second d_second_ h6 g15 g4 g7 g20 g21
  have g33 : Good P w K mg base "round_about" 5 ["o", "a", "s"] (pf (cRound C)) := good_round_about d_round_about_ h6 g15 g5 g7 g4 g6 g21
  have g34 : Good P w K mg base "inverse" 5 ["o", "a", "p"] (pf (cInverse C)) := good_inverse d_inverse_ h6 g15 g4 g20 g21
  have g35 : Good P w K mg base "crossed" 4 ["first", "other"] (pf cCrossed) := good_crossed d_crossed_ g14
  have g36 : Good P w K mg base "weights" 3 ["a", "b", "c"] (pf (cWts C)) := good_weights d_weights_ h6 g4
  have g37 : Good P w K mg base "same" 4 ["a", "b"] (pf (cSame C)) := good_same d_same_ h6 g14
  have g38 : Good P w K mg base "on_one_line" 6 ["a", "b", "c"] (pf (cOneLine C)) := good_on_one_line d_on_one_line_ h6 g18
  have g39 : Good P w K mg base "parallel" 5 ["a", "b", "c", "d"] (pf (cParallel C)) := good_parallel d_parallel_ h6 g35 g15
  have g40 : Good P w K mg base "right" 5 ["a", "b", "c", "d"] (pf (cRight C)) := good_right d_right_ h6 g20 g15
  have g41 : Good P w K mg base "far" 5 ["a", "b", "c", "d"] (pf (cFar C)) := good_far d_far_ h6 g15 g4 g20
  have g42 : Good P w K mg base "so_many_times" 6 ["a", "b", "c", "d", "m", "n"] (pf (cMany C)) := good_so_many_times d_so_many_times_ h6 g14 g7 g41
  have g43 : Good P w K mg base "equal" 7 ["a", "b", "c", "d"] (pf (cEqual C)) := good_equal d_equal_ h6 g42
  have g44 : Good P w K mg base "around" 6 ["a", "b", "c", "d"] (pf (cAround C)) := good_around d_around_ h6 g4 g19 g36 g18
  have g45 : Good P w K mg base "circle" 7 ["a", "b", "c", "d"] (pf (cCircle C)) := good_circle d_circle_ h6 g6 g44 g5
  have g46 : Good P w K mg base "angles" 5 ["a", "b", "c", "d", "e", "f"] (pf (cAngles C)) := good_angles d_angles_ h6 g15 g14 g35 g20
  have g47 : Good P w K mg base "areas" 6 ["a", "b", "c", "d", "e", "f"] (pf (cAreas C)) := good_areas d_areas_ h6 g14 g18 g36
  have g48 : Good P w K mg base "through" 5 ["a", "b", "c", "d", "e", "f"] (pf (cThrough C)) := good_through d_through_ h6 g16 g25 g5 g20 g4
  have g49 : Good P w K mg base "middle" 4 ["a", "b", "c"] (pf (cMiddle C)) := good_middle d_middle_ h6 g4 g7 g14 g13
  have g50 : Good P w K mg base "touches" 5 ["a", "b", "c", "d"] (pf (cTouches C)) := good_touches d_touches_ h6 g16 g15 g4 g17 g14 g20
  have g51 : Good P w K mg base "together" 4 ["first", "other"] (pf cTogether) := good_together d_together_ g14 g13
  have g52 : Good P w K mg base "alike" 5 ["a", "b", "c", "d", "e", "f"] (pf (cAlike C)) := good_alike d_alike_ h6 g51 g15 g4 g14
  have g53 : FnOk P w K mg base CX0 1 fC fdC ["self", "calls", "at"] (spCallI K CC) := ok_Call_init h7 h8 t_WHOLE_NUMBERS t_ROWS h9
  have g54 : Good P w K mg base "read_calls" 3 ["calls"] (spRead K CC) := good_read_calls d_read_calls_ h8 h10 g53 h1 h11 h5
  have g55 : Good P w K mg base "count_of_points" 1 ["kind"] (pf cCount) := good_count_of_points d_count_of_points_ h12 h5
  have g56 : Good P w K mg base "places" 1 ["reach"] (pf cPlaces) := good_places d_places_
  have g57 : Good P w K mg base "heavy_by" 1 ["kind", "sources"] (pf (cHeavy C)) := good_heavy_by d_heavy_by_ h13 h12 t_OWN_HEAVY h14
  have g58 : Good P w K mg base "value_fits" 1 ["number"] (pf cVal) := good_value_fits d_value_fits_ i_MOST_VALUE h15
  have g59 : Good P w K mg base "numbers_fit" 2 ["kind", "numbers"] (pf cFit) := good_numbers_fit d_numbers_fit_ i_FIXED i_PART h15 g58
  have g60 : Good P w K mg base "weighted_reach" 1 ["weights", "sources"] (pfN (cWR K C)) := good_weighted_reach d_weighted_reach_ h13 i_MOST_LETTERS h14 h16
  have g61 : Good P w K mg base "reach_by" 2 ["kind", "sources", "first_letter"] (pfF (cReach C)) := good_reach_by d_reach_by_ h12 t_OWN_LETTERS t_OWN_REACH h9 g60
  have g62 : Good P w K mg base "reach_in" 2 ["kind", "sources"] (pf (cReachIn C)) := good_reach_in d_reach_in_ h17 g60
  have g63 : GoodM P w K mg base CF "has_point" 1 ["self", "p"] (pf (cHasPt CF C)) := good_has_point dm_has_point h18 h5
  have g64 : GoodM P w K mg base CF "has_room" 1 ["self", "kind"] (pf (cHasRoom CF C)) := good_has_room dm_has_room h18 h5 i_MOST_POINTS i_MOST_LETTERS t_OWN_LETTERS
  have g65 : GoodM P w K mg base CF "has_letter" 1 ["self", "index"] (pf (cHasLet CF C)) := good_has_letter dm_has_letter h18
  have g66 : GoodM P w K mg base CF "next_letters" 2 ["self", "kind"] (pf (cNextL CF C)) := good_next_letters dm_next_letters h18 h9 t_OWN_LETTERS g8
  have g67 : Good P w K mg base "power_in" 1 ["key", "index"] (pf cPowIn) := good_power_in d_power_in_ t_PLACES i_POWERS_BELOW
  have g68 : Good P w K mg base "terms" 2 ["f"] (pfL cTerms) := good_terms d_terms_ h19 g67
  have g69 : Good P w K mg base "power_of" 2 ["f", "index"] (pf cPowOf) := good_power_of d_power_of_ h20 g67
  have g70 : Good P w K mg base "most_in" 1 ["f"] (pf cMost) := good_most_in d_most_in_ h20 h15
  have g71 : Good P w K mg base "flat_terms" 3 ["f"] (pf cFlat) := good_flat_terms d_flat_terms_ g68
  have g72 : Good P w K mg base "common_of_two" 1 ["number", "other"] (pf cGcd) := good_common_of_two d_common_of_two_
  have g73 : Good P w K mg base "common_in" 2 ["sums"] (pf cComIn) := good_common_in d_common_in_ h15 g72
  have g74 : Good P w K mg base "raised" 1 ["v", "power"] (pf cRaised) := good_raised d_raised_ h9
  have g75 : Good P w K mg base "put" 2 ["f", "index", "v"] (pf cPut) := good_put d_put_ t_PLACES g67 g74 g0
  have g76 : Good P w K mg base "comes_to" 3 ["f", "values"] (pf cComes) := good_comes_to d_comes_to_ h16 g75
  have g77 : Good P w K mg base "points_in_saying" 1 ["kind"] (pf cPtsIn) := good_points_in_saying d_points_in_saying_ h17 h5
  have g78 : Good P w K mg base "saying_fits" 2 ["kind", "its"] (pf cSayFit) := good_saying_fits d_saying_fits_ h17 t_SAYING_NUMBERS h5 h21 g77
  have sg : SayG P w K mg base C := ⟨g37.mono (by decide), g38.mono (by decide), g39.mono (by decide), g40.mono (by decide), g43.mono (by decide), g42.mono (by decide), g45.mono (by decide), g46.mono (by decide), g47.mono (by decide), g48.mono (by decide), g49.mono (by decide), g50.mono (by decide), g52.mono (by decide)⟩
  have g80 : Good P w K mg base "left" 11 ["kind", "told"] (pf (cLeft C)) := good_left d_left_ h22 sg h5
  have g81 : Good P w K mg base "told_terms" 4 ["f"] (pfF cTold) := good_told_terms d_told_terms_ i_MOST_TOLD i_TOO_MUCH h5 g70 g71
  have g82 : Good P w K mg base "numbers" 5 ["point", "i"] (pfF (cNums C)) := good_numbers d_numbers_ h6 i_DOES_NOT_FIT g81
  have g83 : Good P w K mg base "degree" 3 ["figure", "point", "index"] (pfF (cDeg CF C)) := good_degree d_degree_ h18 h6 i_NOT_THERE h20 g65 g69
  have g84 : Good P w K mg base "common" 3 ["point"] (pfF (cCom C)) := good_common d_common_ h6 i_MOST_TOLD i_TOO_MUCH g73
  have g85 : Good P w K mg base "looked_at" 6 ["figure", "call"] (pfF (cLook CF C CC)) := good_looked_at d_looked_at_ h18 h13 h23 h24 h8 h5 i_POINTS i_STEP i_NUMBERS i_DEGREE i_NOT_THERE g63 g82 g83 g84
  have g86 : Good P w K mg base "yes_or_no" 1 ["verdict"] (pf cYes) := good_yes_or_no d_yes_or_no_
  have g87 : Good P w K mg base "named_points" 2 ["figure", "kind", "its"] (pf (cNamed CF C)) := good_named_points d_named_points_ h18 g77
  have g88 : Good P w K mg base "refusal_of" 3 ["figure", "kind", "its"] (pf (cRef CF C)) := good_refusal_of d_refusal_of_ h18 i_DOES_NOT_FIT i_NOT_THERE i_TOO_MUCH i_MOST_PLACES h21 g78 g77 g63 g56 g62 g87
  have g89 : Good P w K mg base "power" 3 ["figure", "sums", "index"] (pfF (cPower CF C)) := good_power d_power_ h18 i_NOT_THERE h20 g65 g69
  have g90 : Good P w K mg base "at" 4 ["figure", "f", "values"] (pfF (cAt CF C)) := good_at d_at_ h18 h5 h21 h15 i_DOES_NOT_FIT i_MOST_TOLD i_TOO_MUCH g58 g76
  have g91 : Good P w K mg base "goes" 3 ["figure", "f", "index", "v"] (pfF (cGoes CF C)) := good_goes d_goes_ h18 i_NOT_THERE i_DOES_NOT_FIT g65 g58 g86 g9 g75
  have g92 : Good P w K mg base "asked_of_one" 5 ["figure", "sums", "call"] (pfF (cOne CF C CC)) := good_asked_of_one d_asked_of_one_ h8 h5 i_NOT_THERE i_REST i_AT i_IS g81 g90 g86 g71 g91
  have g93 : Good P w K mg base "asked" 12 ["figure", "call"] (pfF (cAsk CF C CC)) := good_asked d_asked_ h8 h5 h21 i_HOLDS i_RESTS i_POWER g88 g80 g87 g77 g86 g9 g89 g92
  have g94 : GoodM P w K mg base CF "keep" 2 ["self", "point"] (spKeep CF C) := good_keep dm_keep h18 h6 h23 h5 i_NEVER_THERE t_OWN_LETTERS g9
  have g95 : GoodM P w K mg base CF "take_out" 1 ["self"] (spOut CF C) := good_take_out dm_take_out h18 h6 h23 h5 i_NOT_THERE t_OWN_LETTERS
  have g96 : GoodM P w K mg base CF "begin" 1 ["self"] (spBegin CF C) := good_begin dm_begin h18
  have g97 : FnOk P w K mg base CX0 1 fF fdF ["self"] (spFigI CF C) := ok_Figure_init h25 h18
  have g98 : FnOk P w K mg base CX0 1 fP fdP ["self", "kind", "told", "xyw", "reach", "heavy"] (spPtI C) := ok_Point_init h26 h13 h6 h23 h24
  have g99 : Good P w K mg base "from_two" 7 ["kind", "told"] (pf (cTwo C)) := good_from_two d_from_two_ i_ON i_PART i_TURN g23 g22 g30 g33
  have g100 : Good P w K mg base "from_three" 7 ["kind", "told"] (pf (cThree C)) := good_from_three d_from_three_ i_ALONG i_FOOT i_MIRROR i_CENTRE i_SECOND g24 g28 g29 g31 g32 g34
  have g101 : Good P w K mg base "drawn" 8 ["kind", "told"] (pf (cDrawn C)) := good_drawn d_drawn_ i_FIXED i_FREE i_ON i_PART i_TURN i_ROUND i_MEET g12 g99 g26 g100
  have g102 : GoodM P w K mg base CF "draw" 9 ["self", "kind", "told"] (spDraw CF C) := good_draw dm_draw h18 h21 i_NOT_THERE i_DOES_NOT_FIT i_FULL i_TOO_MUCH i_MOST_HEAVY i_MOST_PLACES g55 g63 g59 g64 g61 g57 g56 g7 g101 g66 g94 h27 g98 h3 h28
  have g103 : GoodM P w K mg base CF "answer" 13 ["self", "call"] (spAns CF C CC) := good_answer dm_answer h18 h8 i_BEGIN i_NOT_BEGUN i_LAST_STEP i_FIRST_STEP i_OUT i_COMMON g96 g102 g95 g85 g93
  exact ok_answers h29 h18 h30 g97 h2 h31 h5 g54 g103
theorem facts {P : Program} {w : World} {K : PySem.W.Frag} {h : Heap} {mg : Str → Option Value} {base : Heap} {fd : FuncData} (X : K.In h) (G : h.Ns mainGlobals mg) (c : He.SaysD fa fn K) (xb : exB K = true) (FA : FnP K "answers" "answers" s_answers (He.ga K "answers") fd) : FnOk P w K mg base CX0 14 (He.ga K "answers") fd ["calls"] (spAnswers K) := by
  unfold exB at xb
  simp only [Bool.and_eq_true] at xb
  obtain ⟨x_PLACES, x_WHOLE_NUMBERS, x_ROWS, x_OWN_LETTERS, x_OWN_REACH, x_OWN_HEAVY, x_WEIGHTS, x_SAYING_NUMBERS, x_SAYING_WEIGHTS, x_SAYINGS⟩ := xb
  obtain ⟨fdCall, FCall⟩ := (c.def_ 56 (d := d_Call_init) rfl)
  obtain ⟨fdFigure, FFigure⟩ := (c.def_ 90 (d := d_Figure_init) rfl)
  obtain ⟨fdPoint, FPoint⟩ := (c.def_ 89 (d := d_Point_init) rfl)
  have sayT : SayT K mg := say_of (He.glo_ok X G (c.fact 182 (f := .glo "SAYINGS") rfl)) x_SAYINGS (fun x hx => ?_)
  · exact chain (C := He.ga K "Point") (CF := He.ga K "Figure") (CC := He.ga K "Call")
      (FCall.bindsN fun _ _ _ _ _ _ us hl => match us, hl with | [_, _, _], _ => rfl)
      (FFigure.bindsN fun _ _ _ _ _ _ us hl => match us, hl with | [_], _ => rfl)
      (FPoint.bindsN fun _ _ _ _ _ _ us hl => match us, hl with | [_, _, _, _, _, _], _ => rfl)
      (decl_of (x := "without_noughts") (st := s_without_noughts) (c.def_ 3 (d := d_without_noughts) rfl) (He.glo_ok X G (c.fact 3 (f := .glo "without_noughts") rfl)))
      (decl_of (x := "plus") (st := s_plus) (c.def_ 4 (d := d_plus) rfl) (He.glo_ok X G (c.fact 4 (f := .glo "plus") rfl)))
      (He.free_ok X G (c.fact 91 (f := .free "dict") rfl))
      (decl_of (x := "less") (st := s_less) (c.def_ 5 (d := d_less) rfl) (He.glo_ok X G (c.fact 5 (f := .glo "less") rfl)))
      (decl_of (x := "times") (st := s_times) (c.def_ 6 (d := d_times) rfl) (He.glo_ok X G (c.fact 6 (f := .glo "times") rfl)))
      (decl_of (x := "constant") (st := s_constant) (c.def_ 0 (d := d_constant) rfl) (He.glo_ok X G (c.fact 0 (f := .glo "constant") rfl)))
      (decl_of (x := "letter") (st := s_letter) (c.def_ 1 (d := d_letter) rfl) (He.glo_ok X G (c.fact 1 (f := .glo "letter") rfl)))
      ⟨_, He.glo_ok X G (c.fact 173 (f := .glo "PLACES") rfl), tupAt_ok x_PLACES⟩
      (decl_of (x := "is_nought") (st := s_is_nought) (c.def_ 2 (d := d_is_nought) rfl) (He.glo_ok X G (c.fact 2 (f := .glo "is_nought") rfl)))
      (He.free_ok X G (c.fact 93 (f := .free "len") rfl))
      (decl_of (x := "fixed") (st := s_fixed) (c.def_ 28 (d := d_fixed) rfl) (He.glo_ok X G (c.fact 28 (f := .glo "fixed") rfl)))
      (decl_of (x := "free") (st := s_free) (c.def_ 29 (d := d_free) rfl) (He.glo_ok X G (c.fact 29 (f := .glo "free") rfl)))
      (decl_of (x := "without_points") (st := s_without_points) (c.def_ 42 (d := d_without_points) rfl) (He.glo_ok X G (c.fact 42 (f := .glo "without_points") rfl)))
      (He.int_ok X G (c.fact 99 (f := .int "FIXED" (0)) rfl))
      (decl_of (x := "added_products") (st := s_added_products) (c.def_ 17 (d := d_added_products) rfl) (He.glo_ok X G (c.fact 17 (f := .glo "added_products") rfl)))
      (decl_of (x := "crossed_products") (st := s_crossed_products) (c.def_ 18 (d := d_crossed_products) rfl) (He.glo_ok X G (c.fact 18 (f := .glo "crossed_products") rfl)))
      (decl_of (x := "way") (st := s_way) (c.def_ 19 (d := d_way) rfl) (He.glo_ok X G (c.fact 19 (f := .glo "way") rfl)))
      ⟨He.cls_ok (c.fact 147 (f := .cls "Point") rfl), He.noat_ok (c.fact 151 (f := .noat "Point" "x") rfl), He.noat_ok (c.fact 152 (f := .noat "Point" "y") rfl), He.noat_ok (c.fact 153 (f := .noat "Point" "w") rfl)⟩
      (decl_of (x := "line") (st := s_line) (c.def_ 20 (d := d_line) rfl) (He.glo_ok X G (c.fact 20 (f := .glo "line") rfl)))
      (decl_of (x := "beside") (st := s_beside) (c.def_ 21 (d := d_beside) rfl) (He.glo_ok X G (c.fact 21 (f := .glo "beside") rfl)))
      (decl_of (x := "area") (st := s_area) (c.def_ 23 (d := d_area) rfl) (He.glo_ok X G (c.fact 23 (f := .glo "area") rfl)))
      (decl_of (x := "square") (st := s_square) (c.def_ 24 (d := d_square) rfl) (He.glo_ok X G (c.fact 24 (f := .glo "square") rfl)))
      (decl_of (x := "matched") (st := s_matched) (c.def_ 25 (d := d_matched) rfl) (He.glo_ok X G (c.fact 25 (f := .glo "matched") rfl)))
      (decl_of (x := "moved") (st := s_moved) (c.def_ 27 (d := d_moved) rfl) (He.glo_ok X G (c.fact 27 (f := .glo "moved") rfl)))
      (decl_of (x := "part") (st := s_part) (c.def_ 31 (d := d_part) rfl) (He.glo_ok X G (c.fact 31 (f := .glo "part") rfl)))
      (decl_of (x := "on") (st := s_on) (c.def_ 30 (d := d_on) rfl) (He.glo_ok X G (c.fact 30 (f := .glo "on") rfl)))
      (decl_of (x := "along") (st := s_along) (c.def_ 32 (d := d_along) rfl) (He.glo_ok X G (c.fact 32 (f := .glo "along") rfl)))
      (decl_of (x := "meeting") (st := s_meeting) (c.def_ 22 (d := d_meeting) rfl) (He.glo_ok X G (c.fact 22 (f := .glo "meeting") rfl)))
      (decl_of (x := "meet") (st := s_meet) (c.def_ 33 (d := d_meet) rfl) (He.glo_ok X G (c.fact 33 (f := .glo "meet") rfl)))
      (decl_of (x := "dropped") (st := s_dropped) (c.def_ 36 (d := d_dropped) rfl) (He.glo_ok X G (c.fact 36 (f := .glo "dropped") rfl)))
      (decl_of (x := "foot") (st := s_foot) (c.def_ 34 (d := d_foot) rfl) (He.glo_ok X G (c.fact 34 (f := .glo "foot") rfl)))
      (decl_of (x := "mirror") (st := s_mirror) (c.def_ 35 (d := d_mirror) rfl) (He.glo_ok X G (c.fact 35 (f := .glo "mirror") rfl)))
      (decl_of (x := "turn") (st := s_turn) (c.def_ 37 (d := d_turn) rfl) (He.glo_ok X G (c.fact 37 (f := .glo "turn") rfl)))
      (decl_of (x := "centre") (st := s_centre) (c.def_ 38 (d := d_centre) rfl) (He.glo_ok X G (c.fact 38 (f := .glo "centre") rfl)))
      (decl_of (x := "second") (st := s_second) (c.def_ 39 (d := d_second) rfl) (He.glo_ok X G (c.fact 39 (f := .glo "second") rfl)))
      (decl_of (x := "round_about") (st := s_round_about) (c.def_ 40 (d := d_round_about) rfl) (He.glo_ok X G (c.fact 40 (f := .glo "round_about") rfl)))
      (decl_of (x := "inverse") (st := s_inverse) (c.def_ 41 (d := d_inverse) rfl) (He.glo_ok X G (c.fact 41 (f := .glo "inverse") rfl)))
      (decl_of (x := "crossed") (st := s_crossed) (c.def_ 26 (d := d_crossed) rfl) (He.glo_ok X G (c.fact 26 (f := .glo "crossed") rfl)))
      (decl_of (x := "weights") (st := s_weights) (c.def_ 63 (d := d_weights) rfl) (He.glo_ok X G (c.fact 62 (f := .glo "weights") rfl)))
      (decl_of (x := "same") (st := s_same) (c.def_ 64 (d := d_same) rfl) (He.glo_ok X G (c.fact 63 (f := .glo "same") rfl)))
      (decl_of (x := "on_one_line") (st := s_on_one_line) (c.def_ 65 (d := d_on_one_line) rfl) (He.glo_ok X G (c.fact 64 (f := .glo "on_one_line") rfl)))
      (decl_of (x := "parallel") (st := s_parallel) (c.def_ 66 (d := d_parallel) rfl) (He.glo_ok X G (c.fact 65 (f := .glo "parallel") rfl)))
      (decl_of (x := "right") (st := s_right) (c.def_ 67 (d := d_right) rfl) (He.glo_ok X G (c.fact 66 (f := .glo "right") rfl)))
      (decl_of (x := "far") (st := s_far) (c.def_ 70 (d := d_far) rfl) (He.glo_ok X G (c.fact 69 (f := .glo "far") rfl)))
      (decl_of (x := "so_many_times") (st := s_so_many_times) (c.def_ 69 (d := d_so_many_times) rfl) (He.glo_ok X G (c.fact 68 (f := .glo "so_many_times") rfl)))
      (decl_of (x := "equal") (st := s_equal) (c.def_ 68 (d := d_equal) rfl) (He.glo_ok X G (c.fact 67 (f := .glo "equal") rfl)))
      (decl_of (x := "around") (st := s_around) (c.def_ 72 (d := d_around) rfl) (He.glo_ok X G (c.fact 71 (f := .glo "around") rfl)))
      (decl_of (x := "circle") (st := s_circle) (c.def_ 71 (d := d_circle) rfl) (He.glo_ok X G (c.fact 70 (f := .glo "circle") rfl)))
      (decl_of (x := "angles") (st := s_angles) (c.def_ 73 (d := d_angles) rfl) (He.glo_ok X G (c.fact 72 (f := .glo "angles") rfl)))
      (decl_of (x := "areas") (st := s_areas) (c.def_ 74 (d := d_areas) rfl) (He.glo_ok X G (c.fact 73 (f := .glo "areas") rfl)))
      (decl_of (x := "through") (st := s_through) (c.def_ 75 (d := d_through) rfl) (He.glo_ok X G (c.fact 74 (f := .glo "through") rfl)))
      (decl_of (x := "middle") (st := s_middle) (c.def_ 76 (d := d_middle) rfl) (He.glo_ok X G (c.fact 75 (f := .glo "middle") rfl)))
      (decl_of (x := "touches") (st := s_touches) (c.def_ 77 (d := d_touches) rfl) (He.glo_ok X G (c.fact 76 (f := .glo "touches") rfl)))
      (decl_of (x := "together") (st := s_together) (c.def_ 79 (d := d_together) rfl) (He.glo_ok X G (c.fact 78 (f := .glo "together") rfl)))
      (decl_of (x := "alike") (st := s_alike) (c.def_ 78 (d := d_alike) rfl) (He.glo_ok X G (c.fact 77 (f := .glo "alike") rfl)))
      FCall
      ⟨He.cls_ok (c.fact 139 (f := .cls "Call") rfl), He.noat_ok (c.fact 141 (f := .noat "Call" "number") rfl), He.noat_ok (c.fact 142 (f := .noat "Call" "told") rfl), He.noat_ok (c.fact 143 (f := .noat "Call" "rows") rfl), He.noat_ok (c.fact 144 (f := .noat "Call" "behind") rfl)⟩
      ⟨_, He.glo_ok X G (c.fact 180 (f := .glo "WHOLE_NUMBERS") rfl), tupAt_ok x_WHOLE_NUMBERS⟩
      ⟨_, He.glo_ok X G (c.fact 181 (f := .glo "ROWS") rfl), tupAt_ok x_ROWS⟩
      (He.free_ok X G (c.fact 95 (f := .free "range") rfl))
      (decl_of (x := "read_calls") (st := s_read_calls) (c.def_ 57 (d := d_read_calls) rfl) (He.glo_ok X G (c.fact 56 (f := .glo "read_calls") rfl)))
      (He.mkr_ok (c.fact 140 (f := .mkr "Call") rfl))
      (He.glo_ok X G (c.fact 138 (f := .glo "Call") rfl))
      (decl_of (x := "count_of_points") (st := s_count_of_points) (c.def_ 46 (d := d_count_of_points) rfl) (He.glo_ok X G (c.fact 46 (f := .glo "count_of_points") rfl)))
      (wt_of (He.glo_ok X G (c.fact 174 (f := .glo "WEIGHTS") rfl)) x_WEIGHTS)
      (decl_of (x := "places") (st := s_places) (c.def_ 52 (d := d_places) rfl) (He.glo_ok X G (c.fact 52 (f := .glo "places") rfl)))
      (decl_of (x := "heavy_by") (st := s_heavy_by) (c.def_ 49 (d := d_heavy_by) rfl) (He.glo_ok X G (c.fact 49 (f := .glo "heavy_by") rfl)))
      ⟨He.cls_ok (c.fact 147 (f := .cls "Point") rfl), He.noat_ok (c.fact 154 (f := .noat "Point" "reach") rfl), He.noat_ok (c.fact 155 (f := .noat "Point" "heavy") rfl)⟩
      ⟨_, He.glo_ok X G (c.fact 177 (f := .glo "OWN_HEAVY") rfl), tupAt_ok x_OWN_HEAVY⟩
      (He.free_ok X G (c.fact 97 (f := .free "zip") rfl))
      (decl_of (x := "value_fits") (st := s_value_fits) (c.def_ 47 (d := d_value_fits) rfl) (He.glo_ok X G (c.fact 47 (f := .glo "value_fits") rfl)))
      (He.int_ok X G (c.fact 115 (f := .int "MOST_VALUE" (1000)) rfl))
      (He.free_ok X G (c.fact 89 (f := .free "abs") rfl))
      (decl_of (x := "numbers_fit") (st := s_numbers_fit) (c.def_ 48 (d := d_numbers_fit) rfl) (He.glo_ok X G (c.fact 48 (f := .glo "numbers_fit") rfl)))
      (He.int_ok X G (c.fact 102 (f := .int "PART" (3)) rfl))
      (decl_of (x := "weighted_reach") (st := s_weighted_reach) (c.def_ 51 (d := d_weighted_reach) rfl) (He.glo_ok X G (c.fact 51 (f := .glo "weighted_reach") rfl)))
      (He.int_ok X G (c.fact 112 (f := .int "MOST_LETTERS" (4)) rfl))
      (He.free_ok X G (c.fact 92 (f := .free "enumerate") rfl))
      (decl_of (x := "reach_by") (st := s_reach_by) (c.def_ 50 (d := d_reach_by) rfl) (He.glo_ok X G (c.fact 50 (f := .glo "reach_by") rfl)))
      ⟨_, He.glo_ok X G (c.fact 175 (f := .glo "OWN_LETTERS") rfl), tupAt_ok x_OWN_LETTERS⟩
      ⟨_, He.glo_ok X G (c.fact 176 (f := .glo "OWN_REACH") rfl), tupAt_ok x_OWN_REACH⟩
      (decl_of (x := "reach_in") (st := s_reach_in) (c.def_ 55 (d := d_reach_in) rfl) (He.glo_ok X G (c.fact 55 (f := .glo "reach_in") rfl)))
      (wt_of (He.glo_ok X G (c.fact 178 (f := .glo "SAYING_WEIGHTS") rfl)) x_SAYING_WEIGHTS)
      (declM_of (st := s_Figure_has_point) (c.def_ 94 (d := d_Figure_has_point) rfl) (He.meth_ok (c.fact 167 (f := .meth "Figure" "has_point") rfl)))
      ⟨He.cls_ok (c.fact 158 (f := .cls "Figure") rfl), He.noat_ok (c.fact 160 (f := .noat "Figure" "begun") rfl), He.noat_ok (c.fact 161 (f := .noat "Figure" "points") rfl), He.noat_ok (c.fact 162 (f := .noat "Figure" "letters") rfl)⟩
      (declM_of (st := s_Figure_has_room) (c.def_ 96 (d := d_Figure_has_room) rfl) (He.meth_ok (c.fact 169 (f := .meth "Figure" "has_room") rfl)))
      (He.int_ok X G (c.fact 111 (f := .int "MOST_POINTS" (12)) rfl))
      (declM_of (st := s_Figure_has_letter) (c.def_ 95 (d := d_Figure_has_letter) rfl) (He.meth_ok (c.fact 168 (f := .meth "Figure" "has_letter") rfl)))
      (declM_of (st := s_Figure_next_letters) (c.def_ 97 (d := d_Figure_next_letters) rfl) (He.meth_ok (c.fact 170 (f := .meth "Figure" "next_letters") rfl)))
      (decl_of (x := "power_in") (st := s_power_in) (c.def_ 7 (d := d_power_in) rfl) (He.glo_ok X G (c.fact 7 (f := .glo "power_in") rfl)))
      (He.int_ok X G (c.fact 98 (f := .int "POWERS_BELOW" (1000)) rfl))
      (decl_of (x := "terms") (st := s_terms) (c.def_ 8 (d := d_terms) rfl) (He.glo_ok X G (c.fact 8 (f := .glo "terms") rfl)))
      (He.free_ok X G (c.fact 96 (f := .free "sorted") rfl))
      (decl_of (x := "power_of") (st := s_power_of) (c.def_ 10 (d := d_power_of) rfl) (He.glo_ok X G (c.fact 10 (f := .glo "power_of") rfl)))
      (He.free_ok X G (c.fact 94 (f := .free "max") rfl))
      (decl_of (x := "most_in") (st := s_most_in) (c.def_ 11 (d := d_most_in) rfl) (He.glo_ok X G (c.fact 11 (f := .glo "most_in") rfl)))
      (decl_of (x := "flat_terms") (st := s_flat_terms) (c.def_ 9 (d := d_flat_terms) rfl) (He.glo_ok X G (c.fact 9 (f := .glo "flat_terms") rfl)))
      (decl_of (x := "common_of_two") (st := s_common_of_two) (c.def_ 13 (d := d_common_of_two) rfl) (He.glo_ok X G (c.fact 13 (f := .glo "common_of_two") rfl)))
      (decl_of (x := "common_in") (st := s_common_in) (c.def_ 12 (d := d_common_in) rfl) (He.glo_ok X G (c.fact 12 (f := .glo "common_in") rfl)))
      (decl_of (x := "raised") (st := s_raised) (c.def_ 15 (d := d_raised) rfl) (He.glo_ok X G (c.fact 15 (f := .glo "raised") rfl)))
      (decl_of (x := "put") (st := s_put) (c.def_ 14 (d := d_put) rfl) (He.glo_ok X G (c.fact 14 (f := .glo "put") rfl)))
      (decl_of (x := "comes_to") (st := s_comes_to) (c.def_ 16 (d := d_comes_to) rfl) (He.glo_ok X G (c.fact 16 (f := .glo "comes_to") rfl)))
      (decl_of (x := "points_in_saying") (st := s_points_in_saying) (c.def_ 53 (d := d_points_in_saying) rfl) (He.glo_ok X G (c.fact 53 (f := .glo "points_in_saying") rfl)))
      (decl_of (x := "saying_fits") (st := s_saying_fits) (c.def_ 54 (d := d_saying_fits) rfl) (He.glo_ok X G (c.fact 54 (f := .glo "saying_fits") rfl)))
      ⟨_, He.glo_ok X G (c.fact 179 (f := .glo "SAYING_NUMBERS") rfl), tupAt_ok x_SAYING_NUMBERS⟩
      (He.free_ok X G (c.fact 90 (f := .free "all") rfl))
      (decl_of (x := "left") (st := s_left) (c.def_ 80 (d := d_left) rfl) (He.glo_ok X G (c.fact 79 (f := .glo "left") rfl)))
      sayT
      (decl_of (x := "told_terms") (st := s_told_terms) (c.def_ 60 (d := d_told_terms) rfl) (He.glo_ok X G (c.fact 59 (f := .glo "told_terms") rfl)))
      (He.int_ok X G (c.fact 116 (f := .int "MOST_TOLD" (1000000000000000)) rfl))
      (He.int_ok X G (c.fact 136 (f := .int "TOO_MUCH" (-75)) rfl))
      (decl_of (x := "numbers") (st := s_numbers) (c.def_ 59 (d := d_numbers) rfl) (He.glo_ok X G (c.fact 58 (f := .glo "numbers") rfl)))
      (He.int_ok X G (c.fact 134 (f := .int "DOES_NOT_FIT" (-22)) rfl))
      (decl_of (x := "degree") (st := s_degree) (c.def_ 61 (d := d_degree) rfl) (He.glo_ok X G (c.fact 60 (f := .glo "degree") rfl)))
      (He.int_ok X G (c.fact 133 (f := .int "NOT_THERE" (-2)) rfl))
      (decl_of (x := "common") (st := s_common) (c.def_ 62 (d := d_common) rfl) (He.glo_ok X G (c.fact 61 (f := .glo "common") rfl)))
      (decl_of (x := "looked_at") (st := s_looked_at) (c.def_ 58 (d := d_looked_at) rfl) (He.glo_ok X G (c.fact 57 (f := .glo "looked_at") rfl)))
      (He.noat_ok (c.fact 149 (f := .noat "Point" "kind") rfl))
      (He.noat_ok (c.fact 150 (f := .noat "Point" "told") rfl))
      (He.int_ok X G (c.fact 121 (f := .int "POINTS" (15)) rfl))
      (He.int_ok X G (c.fact 122 (f := .int "STEP" (16)) rfl))
      (He.int_ok X G (c.fact 123 (f := .int "NUMBERS" (17)) rfl))
      (He.int_ok X G (c.fact 124 (f := .int "DEGREE" (18)) rfl))
      (decl_of (x := "yes_or_no") (st := s_yes_or_no) (c.def_ 84 (d := d_yes_or_no) rfl) (He.glo_ok X G (c.fact 83 (f := .glo "yes_or_no") rfl)))
      (decl_of (x := "named_points") (st := s_named_points) (c.def_ 83 (d := d_named_points) rfl) (He.glo_ok X G (c.fact 82 (f := .glo "named_points") rfl)))
      (decl_of (x := "refusal_of") (st := s_refusal_of) (c.def_ 82 (d := d_refusal_of) rfl) (He.glo_ok X G (c.fact 81 (f := .glo "refusal_of") rfl)))
      (He.int_ok X G (c.fact 114 (f := .int "MOST_PLACES" (200)) rfl))
      (decl_of (x := "power") (st := s_power) (c.def_ 85 (d := d_power) rfl) (He.glo_ok X G (c.fact 84 (f := .glo "power") rfl)))
      (decl_of (x := "at") (st := s_at) (c.def_ 87 (d := d_at) rfl) (He.glo_ok X G (c.fact 86 (f := .glo "at") rfl)))
      (decl_of (x := "goes") (st := s_goes) (c.def_ 88 (d := d_goes) rfl) (He.glo_ok X G (c.fact 87 (f := .glo "goes") rfl)))
      (decl_of (x := "asked_of_one") (st := s_asked_of_one) (c.def_ 86 (d := d_asked_of_one) rfl) (He.glo_ok X G (c.fact 85 (f := .glo "asked_of_one") rfl)))
      (He.int_ok X G (c.fact 128 (f := .int "REST" (22)) rfl))
      (He.int_ok X G (c.fact 130 (f := .int "AT" (24)) rfl))
      (He.int_ok X G (c.fact 131 (f := .int "IS" (25)) rfl))
      (decl_of (x := "asked") (st := s_asked) (c.def_ 81 (d := d_asked) rfl) (He.glo_ok X G (c.fact 80 (f := .glo "asked") rfl)))
      (He.int_ok X G (c.fact 126 (f := .int "HOLDS" (20)) rfl))
      (He.int_ok X G (c.fact 127 (f := .int "RESTS" (21)) rfl))
      (He.int_ok X G (c.fact 129 (f := .int "POWER" (23)) rfl))
      (declM_of (st := s_Figure_keep) (c.def_ 98 (d := d_Figure_keep) rfl) (He.meth_ok (c.fact 171 (f := .meth "Figure" "keep") rfl)))
      (He.int_ok X G (c.fact 137 (f := .int "NEVER_THERE" (-33)) rfl))
      (declM_of (st := s_Figure_take_out) (c.def_ 99 (d := d_Figure_take_out) rfl) (He.meth_ok (c.fact 172 (f := .meth "Figure" "take_out") rfl)))
      (declM_of (st := s_Figure_begin) (c.def_ 92 (d := d_Figure_begin) rfl) (He.meth_ok (c.fact 165 (f := .meth "Figure" "begin") rfl)))
      FFigure
      FPoint
      (decl_of (x := "from_two") (st := s_from_two) (c.def_ 43 (d := d_from_two) rfl) (He.glo_ok X G (c.fact 43 (f := .glo "from_two") rfl)))
      (He.int_ok X G (c.fact 101 (f := .int "ON" (2)) rfl))
      (He.int_ok X G (c.fact 107 (f := .int "TURN" (8)) rfl))
      (decl_of (x := "from_three") (st := s_from_three) (c.def_ 44 (d := d_from_three) rfl) (He.glo_ok X G (c.fact 44 (f := .glo "from_three") rfl)))
      (He.int_ok X G (c.fact 103 (f := .int "ALONG" (4)) rfl))
      (He.int_ok X G (c.fact 105 (f := .int "FOOT" (6)) rfl))
      (He.int_ok X G (c.fact 106 (f := .int "MIRROR" (7)) rfl))
      (He.int_ok X G (c.fact 108 (f := .int "CENTRE" (9)) rfl))
      (He.int_ok X G (c.fact 109 (f := .int "SECOND" (10)) rfl))
      (decl_of (x := "drawn") (st := s_drawn) (c.def_ 45 (d := d_drawn) rfl) (He.glo_ok X G (c.fact 45 (f := .glo "drawn") rfl)))
      (He.int_ok X G (c.fact 100 (f := .int "FREE" (1)) rfl))
      (He.int_ok X G (c.fact 110 (f := .int "ROUND" (11)) rfl))
      (He.int_ok X G (c.fact 104 (f := .int "MEET" (5)) rfl))
      (declM_of (st := s_Figure_draw) (c.def_ 93 (d := d_Figure_draw) rfl) (He.meth_ok (c.fact 166 (f := .meth "Figure" "draw") rfl)))
      (He.int_ok X G (c.fact 135 (f := .int "FULL" (-28)) rfl))
      (He.int_ok X G (c.fact 113 (f := .int "MOST_HEAVY" (400)) rfl))
      (He.mkr_ok (c.fact 148 (f := .mkr "Point") rfl))
      (He.glo_ok X G (c.fact 146 (f := .glo "Point") rfl))
      (declM_of (st := s_Figure_answer) (c.def_ 91 (d := d_Figure_answer) rfl) (He.meth_ok (c.fact 164 (f := .meth "Figure" "answer") rfl)))
      (He.int_ok X G (c.fact 117 (f := .int "BEGIN" (0)) rfl))
      (He.int_ok X G (c.fact 132 (f := .int "NOT_BEGUN" (-61)) rfl))
      (He.int_ok X G (c.fact 119 (f := .int "LAST_STEP" (13)) rfl))
      (He.int_ok X G (c.fact 118 (f := .int "FIRST_STEP" (1)) rfl))
      (He.int_ok X G (c.fact 120 (f := .int "OUT" (14)) rfl))
      (He.int_ok X G (c.fact 125 (f := .int "COMMON" (19)) rfl))
      FA
      (He.mkr_ok (c.fact 159 (f := .mkr "Figure") rfl))
      (He.glo_ok X G (c.fact 157 (f := .glo "Figure") rfl))
  · simp only [sayNames, List.mem_cons, List.not_mem_nil, or_false] at hx
    rcases hx with rfl | rfl | rfl | rfl | rfl | rfl | rfl | rfl | rfl | rfl | rfl | rfl | rfl
    · exact He.glo_ok X G (c.fact 63 (f := .glo "same") rfl)
    · exact He.glo_ok X G (c.fact 64 (f := .glo "on_one_line") rfl)
    · exact He.glo_ok X G (c.fact 65 (f := .glo "parallel") rfl)
    · exact He.glo_ok X G (c.fact 66 (f := .glo "right") rfl)
    · exact He.glo_ok X G (c.fact 67 (f := .glo "equal") rfl)
    · exact He.glo_ok X G (c.fact 68 (f := .glo "so_many_times") rfl)
    · exact He.glo_ok X G (c.fact 70 (f := .glo "circle") rfl)
    · exact He.glo_ok X G (c.fact 72 (f := .glo "angles") rfl)
    · exact He.glo_ok X G (c.fact 73 (f := .glo "areas") rfl)
    · exact He.glo_ok X G (c.fact 74 (f := .glo "through") rfl)
    · exact He.glo_ok X G (c.fact 75 (f := .glo "middle") rfl)
    · exact He.glo_ok X G (c.fact 76 (f := .glo "touches") rfl)
    · exact He.glo_ok X G (c.fact 77 (f := .glo "alike") rfl)
end Ds
end
section
set_option Elab.async false
set_option linter.all false
set_option maxRecDepth 100000
set_option maxHeartbeats 4000000
namespace Ds
open PySem PySem.Spec PyProof.Rows L2 Su
open PySem.W (Codec OpenSpec)
theorem says_it {K : PySem.W.Frag} (H : Hp) (xs : List V) (a : Codec.denoteAll RowA.args) (hw : Codec.withinAll RowA.args a = true) (hk : Codec.app RowA.args RowA.asked a = true) (hd : DwAll K H xs (Codec.encAll RowA.args a)) : spAnswers K xs H (fun v H' => Dw K H' v (RowA.ret.enc (Codec.app RowA.args RowA.f a))) fun _ _ _ => False := by
  obtain ⟨l, u⟩ := a
  have hk : PyKh374.answers_asked l = true := hk
  obtain ⟨cs, hA⟩ := asked_of hk
  have hw : ((decide (0 ≤ l.length) && decide (l.length ≤ 30000) && l.all _) && true) = true := hw
  rw [Bool.and_true, Bool.and_eq_true, Bool.and_eq_true] at hw
  have hl : l.length ≤ 30000 := of_decide_eq_true hw.1.2
  have hd : DwAll K H xs [PySem.W.WData.list (l.map PySem.W.WData.int)] := hd
  have ea : PyKh374.answers l = toldUp cs := answers_eq hA.read
  have eR : RowA.ret.enc (Codec.app RowA.args RowA.f (l, u)) = PySem.W.WData.list ((toldUp cs).map PySem.W.WData.int) := by
    rw [← ea]
    rfl
  rw [eR]
  cases hd with
  | cons h1 h2 =>
    cases h2
    cases h1 with
    | lst hs ha =>
      have e := L2.ints_dw l _ ha
      subst e
      exact ⟨_, l, cs, rfl, hs, hl, hA, fun p H' hp => .lst (L2.SqL.of hp) (L2.dw_ints _)⟩
theorem the_facts (w : World) (mg : Str → Option Value) (fa' : Addr) (h : Heap) (Y : hkA.says w h) (G : h.Ns mainGlobals mg) (hmg : mg "answers" = some (.ref fa')) : ∃ (K : PySem.W.Frag) (fd : FuncData) (sp : Sp), K.In h ∧ (∀ (s : Shared) (us : List Value), us.length = ["calls"].length → BindsTo s fd ⟨us, []⟩ ((["calls"] : List Str).zip us)) ∧
      (∀ (H : Hp) (xs : List V) (a : Codec.denoteAll RowA.args), OnlyF H → Codec.withinAll RowA.args a = true → Codec.app RowA.args RowA.asked a = true → DwAll K H xs (Codec.encAll RowA.args a) → sp xs H (fun v H' => Dw K H' v (RowA.ret.enc (Codec.app RowA.args RowA.f a))) fun _ _ _ => False) ∧
      ∀ base : Heap, K.In base → base.Ns mainGlobals mg → FnOk RowA.prog w K mg base CX0 14 fa' fd ["calls"] sp := by
  obtain ⟨K, KX, c, xb⟩ := Y
  obtain ⟨fd, F⟩ := c.def_ 100 (d := d_answers) rfl
  have F : FnP K "answers" "answers" s_answers (He.ga K "answers") fd := F
  have e := hmg.symm.trans (He.glo_ok KX G (c.fact 88 (f := .glo "answers") rfl))
  cases e
  refine ⟨K, fd, spAnswers K, KX, fun s us hu => FunD.bindsA (ps := ["calls"]) F (fun _ _ _ _ _ _ us hl => match us, hl with | [_], _ => rfl) s us hu, fun H xs a _ hw hk hd => says_it H xs a hw hk hd, fun base hb hn => facts KX G c xb F⟩
end Ds
end
set_option Elab.async false
set_option linter.all false
set_option maxRecDepth 100000
set_option maxHeartbeats 8000000
open PySem PySem.W PySem.Calls PyProof.Rows
theorem PySem.Challenge.cw_drawnsums_s01_answers_holds : PySem.Challenge.rw_drawnsums_s01_answers.Holds := by
  refine HandSHeadRun.head_spec (r := PySem.Challenge.rw_drawnsums_s01_answers) (q := Ds.qvA) (H := Ds.hkA) (ob := Ds.obA) (M := 12000) (loose := Ds.names) (d := Ds.dA) (kwd := []) Ds.obA_eq Ds.h_open Ds.h_fence Ds.runA Ds.h_def Ds.h_the Ds.h_kw os_shapes Ds.h_well Ds.h_ok Ds.h_bare Ds.h_some ?hc
  refine Ds.walk_specE (r := PySem.Challenge.rw_drawnsums_s01_answers) (k := 14) (ps := ["calls"]) Ds.h_well rfl ⟨rfl, by decide, by decide⟩ ?F
  intro w mg fa h Y G hmg
  rw [Ds.h_name] at hmg
  exact Ds.the_facts w mg fa h Y G hmg
