"""The interface: names, parameters and methods, each in the file and in the class that lists it."""

import importlib
import inspect
import unittest

FUNCTIONS = {
    "operations": """
        unlike_values(operation) values_from(operation,values) stopping_sums(values,zero) differences(values)
        swallowing(operation,value) opposite(operation) renamed(operation,sent) is_likeness(operation,value)
        likeness_by(operation,pairs) folded(operation,likeness) bracket_likeness(operation)
    """,
    "typings": """
        breaking(operation,kinds,holding) is_breaking(operation,kinds,holding,value) kinds_of_value(typed,word)
        least_holding(operation,kinds,told) least_typing(operation,kinds,told) kinds_typing(kinds)
        finest_typing(operation) likeness_steps(operation) are_likeness_steps(operation,value)
    """,
    "rights": """
        right_triples(typed) is_right(typed,triple) parting_values(typed,triple) are_parting_values(typed,triple,value)
        is_settled(kinds,triples,word) missing_triple(kinds,triples,word) is_missing(kinds,triples,word,value)
        right_base(typed,word) greatest_lots(typed,word) kinds_base(kinds,triples,word) mirrored_base(base)
    """,
    "folding": """
        is_folding(kinds,triples,value) all_foldings(kinds,triples) coarsest(kinds,triples)
        apart(kinds,triples,one,other) is_mark(kinds,triples,one,other,value) folded_kinds(kinds,triples,lists)
        folded_triples(kinds,triples,lists) row_folded(kinds,triples,lists,row) folded_typing(typed,lists)
    """,
    "shifts": """
        is_row(kinds,value) is_grouping(size,value) plain(size) let_deeds(kinds,triples,row,grouping)
        done(kinds,triples,row,grouping,deed) is_chain(kinds,triples,row,one,other,value) joined(base,row,one,other)
        chain_between(base,row,one,other) hull(kinds,triples,word) side(typed,row,one,other)
    """,
    "classes": """
        last_of(base,row,grouping) class_of(base,row,grouping) are_joined(base,row,one,other)
        splits_of(base,row,grouping) class_with(base,row,one,other) class_size(base,row,grouping)
        size_by_splits(base,row,grouping) class_number(base,row) class_at(base,row,grouping,number)
        class_place(base,row,grouping) coming(base,row,grouping) comes(base,row,grouping,value)
        lone_stretches(base,row) one_class(base,row)
    """,
    "equals": """
        are_inputs(typed,row,value) value_of(typed,row,grouping,inputs) are_equal(typed,row,one,other)
        parting_inputs(typed,row,one,other) is_parting(typed,row,one,other,value) equal_folds(typed,row)
        free_typing(kinds,triples,row) free_parting(typed,row,one,other) is_free_parting(typed,row,one,other,value)
        parting_operation(base,row,one,other) is_parting_operation(base,row,one,other,value)
        shift_chain(typed,row,one,other) is_shift_chain(typed,row,one,other,value) verdict(typed,row,one,other)
        tells_all(typed,size)
    """,
    "prices": """
        are_prices(base,value) price_of(base,row,grouping,prices) least_price(base,row,grouping,prices)
        cheapest(base,row,grouping,prices) is_cheapest(base,row,grouping,prices,value)
        many_cheapest(base,row,grouping,prices) bounds_of(base,row,grouping,prices)
        are_bounds(base,row,grouping,prices,value) two_prices(base,row,grouping,prices,others)
        most_shared(base,row,grouping,wished) nearest(base,row,grouping,wished)
        is_nearest(base,row,grouping,wished,value) prices_alike(base,row,grouping,prices)
        unlike_shift(base,row,grouping,prices) is_unlike_shift(base,row,grouping,prices,value)
    """,
    "edits": """
        depths(grouping) depth_of(grouping) grouping_of_depths(depths) edit(base,row,grouping,inputs,place,value)
        least_depth(base,row,grouping) flattest(base,row,grouping) is_flattest(base,row,grouping,value)
        depth_bounds(base,row,grouping) are_depth_bounds(base,row,grouping,value) weight_of(grouping,weights)
        least_weight(base,row,grouping,weights) best_kept(base,row,grouping,weights)
        is_best_kept(base,row,grouping,weights,value) weight_bounds(base,row,grouping,weights)
        are_weight_bounds(base,row,grouping,weights,value) room_of(grouping) two_rooms(base,row,grouping)
    """,
    "hands": """
        is_schedule(grouping,hands,value) schedule(grouping,hands) is_least_schedule(grouping,hands,value)
        bar_steps(grouping,hands,depth) greatest_bar(grouping,hands) is_greatest_bar(grouping,hands,value)
        run(grouping,hands,losses) bars_left(grouping,hands,losses) costly_steps(grouping,hands,losses)
        worst_steps(grouping,hands,lost) worst_losses(grouping,hands,lost) are_worst_losses(grouping,hands,lost,value)
    """,
    "frontiers": """
        profile(grouping) steps_of(grouping,hands) frontier(base,row,grouping) frontier_groupings(base,row,grouping)
        are_frontier_groupings(base,row,grouping,value) fronts_of(base,row,grouping)
        are_fronts(base,row,grouping,value) class_steps(base,row,grouping,hands) fastest(base,row,grouping,hands)
        is_fastest(base,row,grouping,hands,value) best_for_all(base,row,grouping)
        is_best_for_all(base,row,grouping,value)
    """,
    "cuts": """
        block_numbers(base,row,grouping) sure_blocks(base,row,grouping) grouping_with(base,row,grouping,blocks)
        is_grouping_with(base,row,grouping,blocks,value) many_with(base,row,grouping,blocks)
        goes(base,row,grouping,cut) grouping_by(base,row,grouping,cut) is_grouping_by(base,row,grouping,cut,value)
        cuts_into(base,row,grouping,pieces) fewest_pieces(base,row,grouping,most)
        evenest_cut(base,row,grouping,pieces) is_evenest_cut(base,row,grouping,pieces,value)
    """,
    "programs": """
        kind_made(program,name) trimmed(program) expanded(program) surely_alike(one,other) inlined(program,name)
        flattened(program) taken_out(program,name,first,end,newer) merged(program) plain_plan(program)
        is_plan(program,value) plan_price(program,plan,prices) cheapest_plan(program,prices)
        is_cheapest_plan(program,prices,value) levels(program,plan) soonest_plan(program)
        is_soonest_plan(program,value) program_text(program) read_program(base,text)
    """,
    "machines": """
        is_feed(program,value) values_by(program,plan,feed) result_of(program,feed) works(program,plan)
        needs(program,plan,work) distances(program,plan) is_run(program,plan,hands,value)
        run_by(program,plan,hands,losses) trace(program,plan,feed,hands) is_trace(program,plan,feed,hands,value)
        steps_at_least(program,plan,hands) steps_at_most(program,plan,hands) edited(program,plan,feed,name,value)
        parting_feed(one,other) is_parting_feed(one,other,value)
    """,
    "changes": """
        changed_by(typed,changes) broken_by(typed,changes) typing_behind(typed,changes) rights_changed(typed,changes)
        fate(typed,changes,row,one,other) is_fate(typed,changes,row,one,other,value)
        breaking_lots(typed,changes,row,one,other) lost_of(base,changes)
    """,
    "works": "replayed(works,log)",
    "scripts": """
        play(works,script) script_text(script) read_script(base,text) end_of(base,script) shortened(base,script)
    """,
    "papers": """
        operation_text(operation) read_operation(text) typing_text(typed) read_typing(text) base_text(base)
        read_base(text) change_text(change) read_change(text)
    """,
}
CLASSES = {
    ("operations", "Operation"): "__init__(self,table) table(self) names(self) do(self,first,second) __eq__(self,other)",
    ("typings", "Kinds"): "__init__(self,table) table(self) names(self) put(self,first,second) __eq__(self,other)",
    ("typings", "Typing"): """
        __init__(self,operation,kinds,holding) operation(self) kinds(self) holding(self) __eq__(self,other)
    """,
    ("rights", "Base"): """
        __init__(self,typed,triples,word) typed(self) triples(self) word(self) __eq__(self,other)
    """,
    ("programs", "Program"): "__init__(self,base,lines) base(self) lines(self) __eq__(self,other)",
    ("works", "Works"): """
        __init__(self,base) put(self,program) take(self,spot) spots(self) program_there(self,spot)
        plan_there(self,spot) given_there(self,spot) give(self,spot,name,value) drop(self,spot,name) known(self,spot)
        value_there(self,spot,name) replan(self,spot,plan) cheapen(self,spot,prices) hasten(self,spot) trim(self,spot)
        merge(self,spot) flatten(self,spot) trial(self) attempt(self,action) copy(self) undo(self) redo(self) log(self)
    """,
}


def call_of(found):
    return f"{found.__name__}({','.join(inspect.signature(found).parameters)})"


class InterfaceTest(unittest.TestCase):
    def test_functions(self):
        for module, calls in FUNCTIONS.items():
            for call in calls.split():
                found = getattr(importlib.import_module(f"shiftfolds.{module}"), call.partition("(")[0])
                self.assertTrue(inspect.isfunction(found), call)
                self.assertEqual((call_of(found), found.__module__), (call, f"shiftfolds.{module}"))

    def test_classes(self):
        for (module, name), calls in CLASSES.items():
            found = getattr(importlib.import_module(f"shiftfolds.{module}"), name)
            self.assertEqual((found.__name__, found.__module__), (name, f"shiftfolds.{module}"))
            for call in calls.split():
                method = vars(found)[call.partition("(")[0]]
                self.assertEqual(call_of(method), call)

    def test_parameters_have_no_defaults(self):
        for module, calls in FUNCTIONS.items():
            for call in calls.split():
                found = getattr(importlib.import_module(f"shiftfolds.{module}"), call.partition("(")[0])
                for parameter in inspect.signature(found).parameters.values():
                    self.assertIs(parameter.default, inspect.Parameter.empty)


if __name__ == "__main__":
    unittest.main()
