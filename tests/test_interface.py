"""The names, parameters and files of the interface."""

import importlib
import inspect
import unittest

from gatewords import desk, errors, giants, lives
from tests.helpers import ODD_VALUES

CALLS = {
    "letters": ["is_back(thing)", "is_word(back, thing)", "free(back, word)", "undone(back, word)",
                "least_of(words)"],
    "groups": ["Group(back, rules)", "step_done(group, word, step)", "is_road(group, one, other, thing)",
               "road_back(group, one, road)", "near_words(group, word, most)"],
    "machines": ["Machine(letters, ways, ends)", "goal(machine, row)", "takes(machine, row)",
                 "rows_up_to(machine, most)"],
    "pairs": ["pair_row(back, one, other)", "is_pair_row(back, thing)", "words_of(back, row)"],
    "claims": ["Claim(group, words, nears)", "says(claim, letter, one, other)"],
    "abelian": ["abelian_part(group)", "is_alike_abelian(group, one, other)", "abelian_order(group, word)"],
    "abelianmaps": ["abelian_map(group)", "is_abelian_map(group, thing)",
                    "abelian_place(group, places, word)"],
    "changes": ["is_change(thing)", "changed(group, change)", "changed_word(group, change, word)"],
    "leastforms": ["least_form(machine)", "is_least_form(machine)", "is_state_paper(machine, thing)",
                   "state_paper(machine)"],
    "begun": ["beginnings(machine)", "is_begun(machine)", "rows_behind(machine, row)"],
    "lettertexts": ["letter_names(back)"],
    "products": ["free_product(one, other)", "direct_product(one, other)", "halves(one, other, word)",
                 "syllables(one, other, word)", "from_syllables(one, other, parts)"],
    "renaming": ["renamed(group, order)", "claim_renamed(claim, order)"],
    "rowcounts": ["count_rows(machine, length)", "count_up_to(machine, length)", "row_fraction(machine)",
                  "fraction_counts(over, under, most)"],
    "machinetexts": ["machine_of_text(text)", "machine_text(machine)", "next_in_machine(text)"],
    "shorttexts": ["short_text(back, word)"],
    "rowjoins": ["in_either(one, other)", "in_both(one, other)", "in_one(one, other)", "in_none(machine)"],
    "rowasking": ["first_row(machine)", "first_beyond(one, other)", "is_among(one, other)",
                  "first_apart(one, other)"],
    "rowgrowth": ["is_finite(machine)", "how_many(machine)", "row_lengths(machine)", "growth_of(machine)",
                  "is_round_paper(machine, thing)", "is_fork_paper(machine, thing)", "round_paper(machine)",
                  "fork_paper(machine)"],
    "rowmakers": ["no_rows(letters)", "all_rows(letters)", "just_rows(letters, rows)",
                  "free_rows(letters, rows)"],
    "pairmakers": ["all_pairs(back)", "pairs_of(back, one, other)", "same_pairs(back, words)",
                   "put_pairs(back, words, letter)", "ordered_pairs(back)", "turned_pairs(back, near)"],
    "directclaims": ["claim_direct(one, other)"],
    "freeclaims": ["claim_free(one, other)"],
    "projections": ["firsts_of(back, near)", "seconds_of(back, near)", "led_to(back, words, near)",
                    "partner_of(back, near, word)"],
    "composing": ["composed(back, one, other)", "first_split(back, near)"],
    "rowplaces": ["row_at(machine, place)", "place_of(machine, row)", "next_row(machine, row)"],
    "faults": ["is_fault(claim, thing)", "fault(claim)"],
    "steadies": ["Steady(claim)", "led(steady, start, word)"],
    "alongs": ["along(steady, word)", "unlike_at(steady, one, other)"],
    "loops": ["gaps(steady, letter)", "ring(back, word)", "loops(steady)"],
    "papers": ["is_paper(steady, thing)", "paper_near(steady, most)", "loop_road(steady, paper, word)"],
    "partings": ["is_parting(steady, thing)", "parting_near(steady, points)"],
    "normals": ["normal(steady, word)", "trail(steady, word)", "is_alike(steady, one, other)",
                "normal_undone(steady, word)"],
    "lots": ["held_words(claim, lot)", "is_held(claim, lot, word)", "carried(claim, lot, word)"],
    "cosetlots": ["turns(claim, lot)", "not_coset(claim, lot)", "is_against_coset(claim, lot, thing)",
                  "coset_of(claim, lot)", "is_sublot(claim, lot)"],
    "cosets": ["coset_least(claim, lot, word)", "same_coset(claim, lot, one, other)",
               "coset_leasts(claim, lot, most)", "coset_table(claim, lot)", "index_of(claim, lot)"],
    "maps": ["Map(source, target, images)", "image(one, word)", "broken_map(one)", "map_behind(one, other)",
             "undo_each_other(one, other)"],
    "carrying": ["carried_road(group, change, one, road)"],
    "regular": ["is_moved(steady, thing)", "moved(steady)", "told_group(steady)"],
    "ruleways": ["broken(steady)"],
    "judgeds": ["Judged(claim, paper)"],
    "roadmakers": ["road_home(judged, word)", "road_between(judged, one, other)"],
    "keeping": ["kept(judged, change)", "kept_by(judged, place, road)"],
    "mappedroads": ["road_mapped(judged, one, word, road)"],
    "shortness": ["gains(steady)", "longer_at(steady)", "later_at(steady)", "is_shortest(steady)",
                  "is_least(steady)"],
    "distances": ["ball(steady, most)", "distance(steady, word)", "shortest_words(steady, word)",
                  "order_of(steady, word, most)"],
    "guides": ["is_guide(steady, near)", "guide_of(steady)"],
    "lefts": ["is_left(steady, letter, near)", "left_of(steady, letter)"],
    "equations": ["Sides(steady, lefts)", "sides_of(steady)", "conjugators(sides, one, other)",
                  "is_conjugate(sides, one, other)", "conjugator(sides, one, other)",
                  "solutions(sides, one, two, three, four)"],
    "centres": ["centralizer(sides, word)", "centre(sides)", "is_commutative(steady)",
                "conjugates(sides, word)"],
    "lives": ["is_question(thing)", "is_deed(thing)", "answered(judged, question)", "Live(group)"],
    "subgroups": ["Subgroup(group, gens)", "spelled(sub, spelling)", "spelling_undone(sub, spelling)",
                  "spelling_free(sub, spelling)", "both_gens(sub, other)"],
    "layers": ["layer(sub, number)", "layer_spelling(sub, number, word)"],
    "cosettables": ["is_table(group, thing)", "table_gens(group, table)", "found_table(sub)",
                    "table_takes(group, table, word)"],
    "members": ["unclosed(claim, sub, lot)", "is_member_paper(claim, sub, lot, thing)",
                "member_spelling(claim, sub, lot, paper, word)"],
    "findmembers": ["members_found(claim, sub)"],
    "meets": ["meet(claim, lot, other)", "not_normal(claim, sub, lot)", "tables_met(group, one, other)",
              "is_normal_table(group, table)", "table_core(group, table)"],
    "systems": ["System(back, rules)", "reduced(system, word)", "is_reduced(system, word)"],
    "clashes": ["least_clash(system)"],
    "clearing": ["clear_of(machine)", "reduced_rows(system)"],
    "differences": ["difference_path(system, one, other)", "short_differences(system, short)"],
    "ledpairs": ["led_pairs(system, words, goal)", "unled_words(system, words)", "claim_of(group, system, words)"],
    "spans": ["spanned(group, most)"],
    "settling": ["settled_span(group, most)", "complete(group, most)"],
    "spanroads": ["road_to_reduced(group, most, word)"],
    "finding": ["claim_made(group, most, short)", "claim_found(group, most, short)", "paper_spanned(steady, most)"],
    "tables": ["normals(steady)", "table(steady)", "orders(steady)", "classes(steady)"],
    "finitemaps": ["maps_into(group, steady)", "count_into(group, steady)"],
    "values": ["value_bytes(value)", "value_of(numbers)"],
    "logs": ["record(value)", "log_of(values)", "read_log(numbers)"],
    "histories": ["live_log(live)", "live_of(numbers)", "grown_log(numbers, deed)"],
    "giants": ["giant_of_text(back, text)", "giant_of_word(back, word)", "giant_word(giant)",
               "giant_letter(giant, place)", "giant_part(giant, start, end)", "giant_joined(one, other)",
               "giant_power(giant, many)", "giant_undone(giant)", "giant_apart(one, other)"],
    "giantfree": ["giant_free(giant)", "giants_alike(one, other)", "giant_goal(group, table, giant)"],
    "giantroots": ["giant_core(giant)", "giant_root(giant)", "giants_commute(one, other)"],
    "desk": ["Desk(back)"],
    "wordtexts": ["word_of_text(back, text)", "word_text(back, word)", "next_in_word(back, text)"],
    "grouptexts": ["group_of_text(text)", "group_text(group)", "next_in_group(text)"],
    "claimtexts": ["claim_of_text(text)", "claim_text(claim)", "next_in_claim(text)"],
}

METHODS = {lives.Live: ["do(self, deed)", "undo(self)", "redo(self)", "questions(self)", "answers(self)",
                        "deeds(self)", "undone(self)", "what_if(self, deed)"],
           desk.Desk: ["tell(self, line)", "journal(self)"]}

PLAIN = """BadBack BadChange BadDeed BadFraction BadLive BadLog BadPaper BadQuestion BadRoad BadSpelling
    BadStep BadValue BadWord Endless NoGroup NotShort""".split()
MADE_OF = {"BadBytes": "place", "BadClaim": "part", "BadGiant": "part", "BadGroup": "part",
           "BadJudged": "part", "BadLefts": "place", "BadMachine": "part", "BadMap": "part",
           "BadNumber": "part", "BadSteady": "fault", "BadSubgroup": "part", "BadSystem": "part",
           "BadText": "at", "NotLet": "why", "TooMany": "most"}


class Calls(unittest.TestCase):

    def test_names_and_parameters(self):
        for stem, calls in CALLS.items():
            module = importlib.import_module("gatewords." + stem)
            for call in calls:
                name, parameters = call[:-1].split("(")
                thing = getattr(module, name)
                self.assertEqual(thing.__module__, "gatewords." + stem)
                told = inspect.signature(thing).parameters
                self.assertEqual(", ".join(told), parameters, call)
                self.assertTrue(all(one.default is one.empty for one in told.values()), call)

    def test_methods(self):
        for owner, methods in METHODS.items():
            for method in methods:
                name, parameters = method[:-1].split("(")
                told = inspect.signature(vars(owner)[name]).parameters
                self.assertEqual(", ".join(told), parameters, method)

    def test_giants_are_made_by_functions(self):
        self.assertEqual(giants.Giant.__module__, "gatewords.giants")
        self.assertEqual((giants.giant_of_word((1, 0), (0,)).back, giants.giant_of_word((1, 0), (0,)).size), ((1, 0), 1))


class Errors(unittest.TestCase):

    def test_all_are_there(self):
        self.assertEqual(len(PLAIN) + len(MADE_OF), 31)
        self.assertEqual(errors.GroupError.__bases__, (ValueError,))
        for name in PLAIN + list(MADE_OF):
            self.assertEqual(getattr(errors, name).__bases__, (errors.GroupError,), name)
            self.assertEqual(getattr(errors, name).__module__, "gatewords.errors")
        told = [name for name, thing in vars(errors).items() if inspect.isclass(thing)]
        self.assertEqual(sorted(told), sorted(PLAIN + list(MADE_OF) + ["GroupError"]))

    def test_attributes_may_be_any_value(self):
        for name, attribute in MADE_OF.items():
            for value in ODD_VALUES + [10 ** 5000]:
                error = getattr(errors, name)(value)
                self.assertIs(getattr(error, attribute), value)
                self.assertEqual(list(vars(error)), [attribute])
                self.assertIsInstance(str(error), str)
            self.assertEqual(getattr(getattr(errors, name)(**{attribute: 3}), attribute), 3)

    def test_messages(self):
        for name in PLAIN:
            error = getattr(errors, name)("some words")
            self.assertEqual(str(error), "some words")
            self.assertEqual(vars(error), {})


if __name__ == "__main__":
    unittest.main()
