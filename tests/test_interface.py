"""The interface: which file defines what, and the names of the parameters."""

import ast
import doctest
import importlib
import inspect
import os
import unittest

import allworlds

# For each module the functions and classes with their parameters.
INTERFACE = {
    "blockers": "least_blockers(lots)",
    "errors": """NetError InvalidNet(at) InvalidText(line,at) InvalidNews(at) InvalidClaim(at) InvalidTable(at)
        InvalidTree(at) InvalidPaper(at) InvalidNumber(word) Refused(word)""",
    "fillings": """fill_count(counts) fillings_of(counts) filling_number(counts,filling) filling_at(counts,number)
        at_places(filling,places)""",
    "lexer": "marks_of(text)",
    "numbers": """is_fraction(value) fraction_of(top,bottom) added(one,other) taken(one,other) timed(one,other)
        divided(one,other) is_less(one,other) total_of_all(fractions) product_of_all(fractions)
        common_bottom(fractions) scaled_to_one(weights)""",
    "nets": """Net(things) names_of(net) counts_of(net) number_of(net,name) parents_of(net,thing) children_of(net,thing)
        family_of(net,thing) older_lot(net,things) younger_lot(net,things) row_for(net,thing,filling)
        chance_at(net,thing,world) check_news(net,value) finding(net,thing,case) weights_in(net,news,thing)
        joined_news(one,other) subnet(net,lot) renamed(net,names) with_rows(net,thing,rows)""",
    "arrows": "heard_news(net,news) told_pairs(net,news) is_idle(net,thing,parent) lean_net(net) cut_net(net,news)",
    "chains": """Chain(start,steps,shows) check_seen(chain,value) chain_net(chain,many) forward_weights(chain,seen)
        backward_weights(chain,seen) chain_total(chain,seen) filtered_shares(chain,seen)
        smoothed_shares(chain,seen,moment) foretold_shares(chain,seen,ahead) foretold_signs(chain,seen,ahead)""",
    "orders": "is_order(net,value) order_count(net) reordered(net,order)",
    "printer": "show_fraction(fraction) show_net(net) show_news(net,news) show_claim(net,claim)",
    "sequences": """scopes_in(net) scopes_without(scopes,lot) is_sequence(lot,value) scopes_left(scopes,sequence)
        cluster_behind(scopes,before,thing) clusters_by(scopes,sequence) lot_size(counts,lot)
        sizes_by(counts,scopes,sequence) cost_by(counts,scopes,sequence,kind) flows_by(scopes,sequence)
        settled_sequence(scopes,sequence) greedy_sequence(counts,scopes,lot)""",
    "ties": """things_in(lots) ties_within(lots) married_ties(net) tied_to(ties,thing) made_lots(ties,sequence)
        filled_ties(ties,sequence) is_smooth(ties,sequence) smooth_sequence(ties,things) bare_loop(ties)
        thin_ties(ties,filled)""",
    "worlds": """world_count(net) worlds_of(net) is_world(net,value) world_share(net,world) news_weight(net,news,world)
        weighted_worlds(net,news)""",
    "claims": """check_claim(net,value) parts_of_claim(claim) things_of_claim(claim) holds(claim,world)
        without_not(net,claim,*,turned=False) parting_world(net,one,other)""",
    "trees": """cut_of(shape,number) runs_through(shape) check_tree(net,value) is_tree(net,value)
        children_in(tree,number) below_lot(tree,number) cluster_way(tree,one,other) sides_of(tree,number)
        holder_of(tree,lot) homes_of(net,tree) are_homes(net,tree,value) tree_size(net,tree)""",
    "widths": """is_free(scopes,before,thing) free_first(scopes,lot) core_floor(counts,scopes,lot)
        least_sequence(counts,scopes,lot,kind) is_least_sequence(counts,scopes,lot,kind,value)
        least_width(counts,scopes,lot)""",
    "windows": "Window(chain,size)",
    "growing": """tree_of_ties(ties,things) tree_of(net,sequence) thin_tree(net,sequence) joined_tree(lots) smaller_tree(tree)
        turned_tree(tree,number) widened_tree(tree,number,lot)""",
    "plain": """plain_total(net,news) plain_sums(net,news,lot) plain_share(net,news,claim) plain_shares(net,news,lot)
        plain_best(net,news,many) plain_best_in(net,news,lot,many) plain_lift(net,news,claim,other)
        are_unbound(net,news,one,other)""",
    "routes": """neighbours_in(tree,number) steps_to(tree,goal) steps_from(tree,start) steps_joining(tree,lot,goal)
        steps_into(tree,step) side_of(tree,step)""",
    "tables": """Table(things,counts,entries) table_fault(value) is_table(value) check_table(value) one_table()
        counts_in(net,things) table_of(net,thing) table_of_news(net,news,thing) claim_table(net,claim)
        entry_at(table,filling) entry_in(table,world)""",
    "courses": """course_share(chain,seen,course) best_courses(chain,seen,many) CoursePaper(courses,heights)
        course_paper(chain,seen,many) is_course_paper(chain,seen,many,value)""",
    "sums": """product_of(tables) added_tables(tables) widened(table,things,counts) scaled_table(table,factor)
        summed_out(table,things) summed_to(table,things) total_of(table) at_case(table,thing,case) quotient_of(one,other)
        shares_within(table,things) shares_table(table)""",
    "extremes": """greatest_out(table,things) least_out(table,things) greatest_filling(table) least_filling(table)
        behind_greatest(table,things,filling) ranked_fillings(table)""",
    "messages": """own_table(net,news,tree,homes,cluster) own_tables(net,news,tree,homes) up_message(tree,owns,up,cluster)
        down_message(tree,owns,up,down,cluster) upward(tree,owns) downward(tree,owns,up)""",
    "eliminating": """eliminated(tables,sequence,greatest=False) tables_by(net,news) claim_tables(net,claim)
        weight_by(net,news,claim,sequence,fixed=()) share_by(net,news,claim,sequence) shares_by(net,news,lot,sequence)
        greatest_weight(net,news,lot,sequence)""",
    "reasons": """check_question(net,value) answer_of(net,question) margin_of(net,question,filling)
        is_turning(net,question,filling) worst_filling(net,question,lot) is_reason(net,question,value)
        smaller_reason(net,question,lot) least_reasons(net,question) Reason(lot,sequence,messages)
        reason_paper(net,question,lot) is_reason_paper(net,question,value)""",
    "turns": """changes_in(question,filling) single_turns(net,question) is_turning_lot(net,question,value)
        turn_at(net,question,lot) least_turns(net,question) cheapest_turn(net,question,costs) stand_count(net,question)
        TurnPaper(cost,filling,tree) turn_paper(net,question,costs) is_turn_paper(net,question,costs,value)""",
    "scripts": "is_command(net,value) read_script(net,text) show_command(net,command) show_script(net,commands)",
    "reader": """read_net(text) read_news(net,text) read_claim(net,text) completed_net(text) completed_news(net,text)
        completed_claim(net,text)""",
    "papers": """Paper(tree,homes,up,down) own_tree(net) paper_with(net,news,tree,homes) paper_of(net,news,tree=None)
        total_in(paper) cluster_weights(net,news,paper,cluster) cut_weights(paper,cluster) shares_at(net,news,paper,thing)
        shares_of(net,news,thing) shares_of_all(net,news,tree=None) turned_paper(paper,cluster)""",
    "choices": """check_acts(net,value) mean_worth(net,news,act) mean_worths(net,news,acts) best_act(net,news,acts)
        look_rows(net,news,acts,lot) look_worth(net,news,acts,lot) look_gain(net,news,acts,lot) full_worth(net,news,acts)
        acts_after(net,news,acts,lot) turning_fillings(net,news,acts,lot) idle_things(net,news,acts)""",
    "judge": "first_fault(net,news,value) is_paper(net,news,value) check_paper(net,news,value)",
    "leaving": "without_thing(net,thing) net_of_lot(net,lot) told_net(net,news) question_net(net,news,lot)",
    "moved": """is_spot(net,value) spots_of(net) spots_in(net,thing) entry_at_spot(net,spot) moved_row(row,case,x)
        moved_net(net,spot,x) beside_table(net,news,claim,thing) weight_line(net,news,claim,spot)
        lines_of_thing(net,news,claim,thing) moved_share(net,news,claim,spot)""",
    "needed": "pieces_of(net,news) piece_totals(net,news) needed_things(net,lot,news) needed_net(net,lot,news)",
    "placing": """comes_before(one,other) is_mixed_sequence(net,lot,value) mixed_sequence(net,lot) line_of(lot,sequence)
        best_messages(net,news,lot,sequence)""",
    "readings": """lot_weights(net,news,paper,lot) lot_shares(net,news,paper,lot) share_in(net,news,paper,claim)
        slopes_of(net,news,paper,thing) news_slopes(net,news,paper,thing) total_by(slopes,table)""",
}
# The methods that are listed for classes, with their parameters; each stands in the class itself.
METHODS = {
    ("windows", "Window"): "come(self,sign) moments(self) now(self) ago(self,moments) ahead(self,moments) tail(self)",
    ("kept", "Kept"): """present_net(self) present_news(self) deeds(self) made(self) put(self,thing,weights)
        take(self,thing) change_rows(self,thing,rows) back(self) total(self) shares(self,thing) share(self,claim)
        paper(self)""",
    ("likely", "Listing"): "following(self) paper(self)",
}


class TestInterface(unittest.TestCase):
    def test_all(self):
        for name, listed in INTERFACE.items():
            module = importlib.import_module("allworlds." + name)
            file = os.path.join(os.path.dirname(allworlds.__file__), name + ".py")
            with open(file, encoding="ascii") as source:
                tree = ast.parse(source.read())
            own = {node.name for node in tree.body if isinstance(node, (ast.FunctionDef, ast.ClassDef))}
            for item in listed.split():
                word, _, told = item.partition("(")
                self.assertIn(word, own)
                if told:
                    signature = str(inspect.signature(getattr(module, word))).replace(" ", "")
                    self.assertEqual(signature, "(" + told)

    def test_methods(self):
        for (module, name), listed in METHODS.items():
            own = vars(getattr(importlib.import_module("allworlds." + module), name))
            for item in listed.split():
                word, _, told = item.partition("(")
                self.assertEqual(str(inspect.signature(own[word])).replace(" ", ""), "(" + told)

    def test_examples(self):
        folder = os.path.dirname(os.path.dirname(allworlds.__file__))
        for file in ("README.md", os.path.join("tests", "examples.md")):
            told = doctest.testfile(os.path.join(folder, file), module_relative=False)
            self.assertEqual(told.failed, 0)
            self.assertGreater(told.attempted, 10)


if __name__ == "__main__":
    unittest.main()
