"""Points [20] to [24]: questions, their rules, the lines of the answers, and their limits."""

import unittest
from unittest import mock

from partfilter import classes, expressions
from partfilter.classes import Inquiry, classes_of
from partfilter.errors import TooManyLines, TooManyQuestions
from partfilter.family import family_of, product_of, settled, settling, turned
from partfilter.filters import filter_fault, put_down, takes, trimmed
from partfilter.semigroups import value_of
from samples import repeated, told, words_up_to
from tables import (
    ABSORB, ADD2, ADD3, COUNT3, COUNT4, LEFT, NILPOTENT, ONE, RIGHT, check_faults, is_associative,
    semigroups_up_to, some_semigroups,
)

NO_WORD = (("none",),)
EMPTY = (("empty",),)


def made(kind, *parts):
    """A filter of filters that are put down, put down part by part (point [11])."""
    put, last = {}, []
    for part in parts:
        own = []
        for line in part:
            if line[0] != "letter":
                line = (line[0], *[own[i] for i in line[1:]])
            own.append(put.setdefault(line, len(put)))
        last.append(own[-1])
    return (*put, (kind, *last))


def inverse(one):
    return made("not", one)


def either(one, two):
    return made("or", one, two)


def behind(one, two):
    return made("behind", one, two)


def both(one, two):
    return inverse(either(inverse(one), inverse(two)))


def any_of(filters):
    if len(filters) < 2:
        return filters[0] if filters else NO_WORD
    return either(filters[0], any_of(filters[1:]))


ALL = inverse(NO_WORD)
SOME = inverse(EMPTY)
SINGLE = both(SOME, inverse(behind(SOME, SOME)))


def letter(c):
    return (("letter", c),)


def begin(c):
    return behind(letter(c), ALL)


def end(c):
    return behind(ALL, letter(c))


def without(c):
    return inverse(behind(ALL, begin(c)))


def of_length(i):
    return SINGLE if i == 1 else behind(SINGLE, of_length(i - 1))


def put_back(lines, new, c):
    done = []
    for line in lines:
        kind, *parts = line
        if kind in ("none", "empty"):
            done.append((line,))
        elif kind == "letter":
            done.append(new[parts[0]])
        elif kind == "not":
            done.append(both(inverse(done[parts[0]]), either(EMPTY, begin(c))))
        else:
            done.append(made(kind, *[done[i] for i in parts]))
    return both(done[-1], begin(c))


class Plain:
    """The answers of the questions of one call, told anew from points [20] to [23]."""

    def __init__(self, table):
        self.table = table
        self.asked = 0
        self.rules = []

    def product(self, x, y):
        return product_of(self.table, x, y)

    def ask(self, letters, family):
        if self.asked == 40:
            raise TooManyQuestions
        self.asked += 1
        bounds = {}
        for lines, bound in self.rule(letters, family):
            bounds.setdefault(bound, []).append(lines)
        answer = [(any_of(filters), bound) for bound, filters in bounds.items()]
        if any(len(lines) > 300 for lines, _ in answer):
            raise TooManyLines
        return answer

    def rule(self, letters, family):
        if not letters:
            self.rules.append(1)
            return []
        for c, x in letters.items():
            if any(f != x and all(f != self.product(x, g) for g in family) for f in family):
                self.rules.append(2)
                return self.rule_2(c, x, {d: y for d, y in letters.items() if d != c}, family)
        if all(any(self.product(x, f) == x for f in family) for x in letters.values()):
            self.rules.append(3)
            return self.rule_3(letters)
        self.rules.append(4)
        return self.rule_4(list(letters.values())[0])

    def rule_2(self, c, x, others, family):
        plain = [(both(lines, without(c)), bound) for lines, bound in self.ask(others, family)]
        sets = [x]
        for _, bound in plain:
            if self.product(x, bound) not in sets:
                sets.append(self.product(x, bound))
        new = []
        for one in sets:
            tails = [EMPTY] if one == x else []
            tails += [lines for lines, bound in plain if self.product(x, bound) == one]
            new.append(behind(letter(c), any_of(tails)))
        products = [self.product(x, f) for f in family]
        inner = self.ask(dict(enumerate(sets)), [f for f in family if f == x or f in products])
        begun = [(put_back(lines, new, c), bound) for lines, bound in inner]
        joined = []
        for lines, bound in plain:
            for other, two in begun:
                joined.append((behind(lines, other), self.product(bound, two)))
        return plain + begun + joined

    def rule_3(self, letters):
        ahead = None
        for x in letters.values():
            turn = turned(self.table, x)
            ahead = turn if ahead is None else self.product(ahead, turn)
        ahead = settled(self.table, ahead)
        return [(end(c), self.product(ahead, settled(self.table, x))) for c, x in letters.items()]

    def rule_4(self, x):
        k = settling(self.table, x)
        power, answer = x, []
        for i in range(1, k):
            answer.append((of_length(i), power))
            power = self.product(power, x)
        answer.append((behind(of_length(k), ALL), settled(self.table, turned(self.table, x))))
        return answer


def question_of(semigroup):
    return (
        {a: (value,) for a, value in enumerate(semigroup[1])},
        [values for _, values in family_of(semigroup)],
    )


def plain_classes(semigroup):
    return Plain(semigroup[0]).ask(*question_of(semigroup))


def asked(inquiry, letters, family):
    """The answer of a question of the program, with its filters put down."""
    return [(inquiry.expressions.lines_of(number), bound)
            for number, bound in inquiry.answer(letters, family)]


def rules_of(semigroup):
    plain = Plain(semigroup[0])
    plain.ask(*question_of(semigroup))
    return plain.rules


class Rule1(unittest.TestCase):
    def test_no_letters(self):
        self.assertEqual(Inquiry(ADD3).answer([], [(0,), (1, 2)]), [])


class Rule3(unittest.TestCase):
    def test_the_example_of_the_document(self):
        lines = (("none",), ("not", 0), ("letter", 0), ("behind", 1, 2))
        self.assertEqual(classes_of((((0,),), (0,))), [(lines, (0,))])

    def test_a_class_for_each_last_letter(self):
        self.assertEqual(rules_of((RIGHT, (1, 0))), [3])
        self.assertEqual(classes_of((RIGHT, (1, 0))), [
            ((("none",), ("not", 0), ("letter", 0), ("behind", 1, 2)), (1,)),
            ((("none",), ("not", 0), ("letter", 1), ("behind", 1, 2)), (0,)),
        ])

    def test_letters_with_the_same_value_are_one_class(self):
        self.assertEqual(classes_of((RIGHT, (1, 0, 1))), [
            ((("none",), ("not", 0), ("letter", 0), ("behind", 1, 2), ("letter", 2), ("behind", 1, 4),
              ("or", 3, 5)), (1,)),
            ((("none",), ("not", 0), ("letter", 1), ("behind", 1, 2)), (0,)),
        ])
        self.assertEqual(classes_of((ONE, (0, 0, 0))), [
            ((("none",), ("not", 0), ("letter", 0), ("behind", 1, 2), ("letter", 1), ("behind", 1, 4),
              ("letter", 2), ("behind", 1, 6), ("or", 5, 7), ("or", 3, 8)), (0,)),
        ])

    def test_a_turned_set_is_in_the_bound(self):
        self.assertEqual(rules_of((ADD2, (1,))), [3])
        self.assertEqual(classes_of((ADD2, (1,))), [(end(0), (0, 1))])
        self.assertEqual(classes_of((ADD3, (1,))), [(end(0), (0, 1, 2))])

    def test_the_turned_sets_in_the_order_of_the_letters(self):
        # Of 0 and 1 the left one counts, 2 changes nothing, and 3 makes 0 of 1 and 1 of 0.
        table = ((0, 0, 0, 0), (1, 1, 1, 1), (0, 1, 2, 3), (1, 0, 3, 2))
        self.assertTrue(is_associative(table))
        for letters, ahead in [
            ([(0, (2, 3)), (1, (0, 1)), (2, (1,))], (0, 1)),
            ([(2, (1,)), (1, (0, 1)), (0, (2, 3))], (1,)),
            ([(0, (2,)), (1, (0,)), (2, (1,))], (0,)),
            ([(0, (3,)), (1, (0,)), (2, (1,))], (0, 1)),
        ]:
            inquiry = Inquiry(table)
            found = [(inquiry.expressions.lines_of(number), bound)
                     for number, bound in inquiry.classes_by_ending(letters)]
            self.assertEqual(found, [(end(c), ahead) for c, _ in letters])

    def test_the_settled_set_of_the_letter_is_in_the_bound(self):
        # Of 0 and 1 the right one counts, 2 changes nothing, and 3 makes 1 of 0, so 3 is settled as 2.
        table = ((0, 1, 0, 1), (0, 1, 1, 0), (0, 1, 2, 3), (0, 1, 3, 2))
        self.assertTrue(is_associative(table))
        classes_found = Inquiry(table).classes_by_ending([(0, (3,)), (1, (0,))])
        self.assertEqual([bound for _, bound in classes_found], [(0,), (0,)])
        classes_found = Inquiry(table).classes_by_ending([(0, (0,)), (1, (3,))])
        self.assertEqual([bound for _, bound in classes_found], [(0,), (0, 1)])


class Rule4(unittest.TestCase):
    one = (("empty",), ("not", 0), ("not", 1), ("behind", 1, 1), ("not", 3), ("not", 4), ("or", 2, 5),
           ("not", 6))

    def test_settling_number_2(self):
        self.assertEqual(rules_of((((1, 1), (1, 1)), (0,))), [4])
        self.assertEqual(classes_of((((1, 1), (1, 1)), (0,))), [
            (self.one, (0,)),
            (self.one + (("behind", 7, 7), ("none",), ("not", 9), ("behind", 8, 10)), (1,)),
        ])

    def test_settling_number_3(self):
        self.assertEqual(rules_of((COUNT3, (0,))), [4])
        self.assertEqual(classes_of((COUNT3, (0,))), [
            (self.one, (0,)),
            (self.one + (("behind", 7, 7),), (1,)),
            (self.one + (("behind", 7, 7), ("behind", 7, 8), ("none",), ("not", 10), ("behind", 9, 11)), (2,)),
        ])

    def test_settling_number_4(self):
        self.assertEqual(classes_of((COUNT4, (0,))), [
            (self.one, (0,)),
            (self.one + (("behind", 7, 7),), (1,)),
            (self.one + (("behind", 7, 7), ("behind", 7, 8)), (2,)),
            (self.one + (("behind", 7, 7), ("behind", 7, 8), ("behind", 7, 9), ("none",), ("not", 11),
                         ("behind", 10, 12)), (3,)),
        ])

    def test_the_first_letter_is_that_of_the_question(self):
        # No semigroup comes to this rule with two sets, but a question may.
        answer = Inquiry(COUNT3).answer([(0, (0,)), (1, (0,))], [(0,), (1,), (2,)])
        self.assertEqual([bound for _, bound in answer], [(0,), (1,), (2,)])
        answer = asked(Inquiry(COUNT3), [(5, (1,)), (1, (1,))], [(1,), (2,)])
        self.assertEqual(answer, [(SINGLE, (1,)), (behind(of_length(2), ALL), (2,))])

    def test_settling_number_1(self):
        # Neither does a semigroup come to this rule with this number.
        inquiry = Inquiry(COUNT3)
        (number, bound), = inquiry.classes_by_length((2,))
        self.assertEqual(bound, (2,))
        self.assertEqual(inquiry.expressions.lines_of(number), behind(SINGLE, ALL))

    def test_where_not_all_letters_are_kept(self):
        # The set (2,) is a product of itself with (2,), but (1,) is none, and the family has no other set.
        for letters, answer in [
            ([(0, (2,)), (1, (1,))], [(behind(SINGLE, ALL), (2,))]),
            ([(0, (1,)), (1, (2,))], [(SINGLE, (1,)), (behind(of_length(2), ALL), (2,))]),
        ]:
            self.assertEqual(asked(Inquiry(COUNT3), letters, [(2,)]), answer)
            self.assertEqual(Plain(COUNT3).ask(dict(letters), [(2,)]), answer)

    def test_a_set_is_kept_by_what_is_behind_it(self):
        self.assertIs(Inquiry(LEFT).is_kept((0,), [(1,)]), True)
        self.assertIs(Inquiry(RIGHT).is_kept((0,), [(1,)]), False)
        self.assertIs(Inquiry(RIGHT).is_kept((0,), [(1,), (0,)]), True)

    def test_a_last_bound_that_is_turned(self):
        # The powers of 0 are 0, 1, 2, 1, 2 and so on, so the settled set (1,) is turned into (1, 2).
        tail = ((1, 2, 1), (2, 1, 2), (1, 2, 1))
        self.assertEqual(classes_of((tail, (0,))), [
            (SINGLE, (0,)), (behind(of_length(2), ALL), (1, 2))])


class Rule2(unittest.TestCase):
    def test_by_hand(self):
        # The question with the letter 1 alone comes to rule 2, too, with no other letters.
        self.assertEqual(rules_of((LEFT, (0, 1))), [2, 2, 1, 3, 3])
        block = behind(letter(1), EMPTY)
        whole = both(inverse(NO_WORD), either(EMPTY, begin(1)))
        inner = both(behind(whole, block), begin(1))
        plain = both(inner, without(0))
        block = behind(letter(0), either(EMPTY, plain))
        whole = both(inverse(NO_WORD), either(EMPTY, begin(0)))
        begun = both(behind(whole, block), begin(0))
        self.assertEqual(classes_of((LEFT, (0, 1))), [
            (either(plain, behind(plain, begun)), (1,)),
            (begun, (0,)),
        ])

    def test_the_first_lines_by_hand(self):
        lines, _ = classes_of((LEFT, (0, 1)))[1]
        self.assertEqual(lines[:10], (
            ("none",), ("not", 0), ("not", 1), ("empty",), ("letter", 0), ("behind", 4, 1), ("or", 3, 5),
            ("not", 6), ("or", 2, 7), ("not", 8)))
        self.assertEqual(lines[-5:], (
            ("behind", 9, 29), ("not", 30), ("not", 5), ("or", 31, 32), ("not", 33)))

    def test_the_first_letter_to_which_it_applies(self):
        # With 0 each set of the family comes from the set of the letter 0, and with 1 none but its own.
        self.assertEqual(rules_of((ABSORB, (0, 1))), [2, 3, 3])
        end_0 = both(end(0), without(1))
        blocks = [behind(letter(1), either(EMPTY, end_0))]
        begun = put_back(end(0), blocks, 1)
        self.assertEqual(classes_of((ABSORB, (0, 1))), [
            (end_0, (0,)), (either(begun, behind(end_0, begun)), (1,))])

    def test_blocks_by_themselves_and_with_products(self):
        # The words behind c make the blocks (0,) by themselves, and (0,) and (1,) with a product.
        answer = asked(Inquiry(ADD2), [(0, (0,)), (1, (1,))], [(0,), (1,), (0, 1)])
        self.assertEqual(answer, Plain(ADD2).ask({0: (0,), 1: (1,)}, [(0,), (1,), (0, 1)]))
        inquiry = Inquiry(ADD2)
        numbers = [inquiry.expressions.number_of_filter(letter(a)) for a in range(4)]
        plain = list(zip(numbers, [(1,), (0,), (1,), (0, 1)]))
        blocks = inquiry.blocks(2, (1,), plain)
        self.assertEqual(
            [(one, inquiry.expressions.lines_of(number)) for one, number in blocks.items()], [
                ((1,), behind(letter(2), either(EMPTY, letter(1)))),
                ((0,), behind(letter(2), either(letter(0), letter(2)))),
                ((0, 1), behind(letter(2), letter(3))),
            ])

    def test_letters_keep_their_numbers_in_the_question_without_one(self):
        seen = []

        class Noted(Inquiry):
            def answer(self, letters, family):
                seen.append((letters, family))
                return Inquiry.answer(self, letters, family)

        Noted(LEFT).answer([(0, (0,)), (1, (1,)), (2, (0,))], [(0,), (1,)])
        self.assertEqual(seen[:3], [
            ([(0, (0,)), (1, (1,)), (2, (0,))], [(0,), (1,)]),
            ([(1, (1,)), (2, (0,))], [(0,), (1,)]),
            ([(2, (0,))], [(0,), (1,)]),
        ])
        # The block of 2 is the new letter 0, and of the family its own set is left.
        self.assertEqual(seen[3:5], [([], [(0,), (1,)]), ([(0, (0,))], [(0,)])])

    def test_the_family_that_is_handed_on(self):
        seen = []

        class Noted(Inquiry):
            def answer(self, letters, family):
                seen.append(family)
                return Inquiry.answer(self, letters, family)

        # 0 is a product of itself with 0 alone; the products of 1 are 1, and those of 2 are 1 and 2.
        table = ((0, 1, 2), (1, 1, 1), (2, 1, 1))
        Noted(table).answer([(0, (2,)), (1, (0,))], [(0,), (1,), (2,)])
        self.assertEqual(seen, [[(0,), (1,), (2,)], [(0,), (1,), (2,)], [(1,), (2,)]])

    def test_a_set_of_the_family_that_is_the_letters_own_alone(self):
        # The set of the letter is no product, but it is itself, so rule 4 applies.
        self.assertEqual(rules_of((COUNT3, (0,))), [4])

    def test_the_order_ahead_of_the_end_of_the_question(self):
        # Plain ones, then those that begin with the letter, then one with another one behind it.
        for semigroup in semigroups_up_to(3, 2):
            letters, family = question_of(semigroup)
            inquiry = Inquiry(semigroup[0])
            found = inquiry.found_classes(list(letters.items()), family)
            self.assertEqual(
                [(put_down(inquiry.expressions.lines, number), bound) for number, bound in found],
                Plain(semigroup[0]).rule(letters, family), semigroup)


class Answers(unittest.TestCase):
    """All lines, against the points told anew."""

    def test_all_semigroups_of_up_to_3_values_and_2_letters(self):
        for semigroup in semigroups_up_to(3, 2):
            self.assertEqual(told(classes_of, semigroup), told(plain_classes, semigroup), semigroup)

    def test_semigroups_of_3_letters_and_4_values(self):
        kinds = {"classes": 0, TooManyLines: 0}
        for semigroup in some_semigroups(500, 20):
            found = told(classes_of, semigroup)
            self.assertEqual(found, told(plain_classes, semigroup), semigroup)
            kinds[found if found == TooManyLines else "classes"] += 1
        self.assertGreater(min(kinds.values()), 3)


class Classes(unittest.TestCase):
    """Point [24]."""

    def test_each_word_is_taken_by_one_filter_and_its_value_is_in_the_bound(self):
        for semigroup in list(some_semigroups(60, 24)) + list(semigroups_up_to(2)):
            found = told(classes_of, semigroup)
            if found != TooManyLines:
                letters = len(semigroup[1])
                for word in words_up_to(letters, {1: 9, 2: 5, 3: 3}[letters]):
                    bounds = [bound for lines, bound in found if takes(lines, word)]
                    if word:
                        self.assertEqual(len(bounds), 1, (semigroup, word))
                        self.assertIn(value_of(semigroup, word), bounds[0], (semigroup, word))

    def test_bounds_are_different_sets_of_the_family(self):
        for semigroup in list(semigroups_up_to(3, 2)) + list(some_semigroups(200, 25)):
            found = told(classes_of, semigroup)
            if found != TooManyLines:
                family = [values for _, values in family_of(semigroup)]
                bounds = [bound for _, bound in found]
                self.assertEqual(len(set(bounds)), len(bounds))
                self.assertLessEqual(set(bounds), set(family))

    def test_filters_are_valid_and_trimmed(self):
        for semigroup in semigroups_up_to(3, 2):
            for lines, _ in classes_of(semigroup):
                self.assertIsNone(filter_fault(lines))
                self.assertEqual(trimmed(lines), lines)

    def test_kinds(self):
        found = classes_of((LEFT, (0, 1)))
        self.assertIsInstance(found, list)
        for pair in found:
            self.assertIsInstance(pair, tuple)
            lines, bound = pair
            self.assertIsInstance(lines, tuple)
            self.assertIsInstance(bound, tuple)
            self.assertEqual({type(line) for line in lines}, {tuple})

    def test_the_list_is_new(self):
        semigroup = (LEFT, (0, 1))
        found = classes_of(semigroup)
        kept = list(found)
        found.clear()
        self.assertEqual(classes_of(semigroup), kept)

    def test_faults(self):
        check_faults(self, classes_of)


def left_question(many):
    """A question with so many letters, each with a value of its own, that comes to rule 2 for each."""
    table = tuple((value,) * many for value in range(many))
    letters = [(value, (value,)) for value in range(many)]
    return table, letters, [(value,) for value in range(many)]


class Limits(unittest.TestCase):
    def test_exactly_300_lines(self):
        found = classes_of((NILPOTENT, (2, 1, 3)))
        self.assertEqual(max(len(lines) for lines, _ in found), 300)

    def test_more_than_300_lines(self):
        for letters in ((1, 2, 3), (2, 3, 1)):
            with self.assertRaises(TooManyLines):
                classes_of((NILPOTENT, letters))

    def test_300_lines_and_301(self):
        shared = expressions.Expressions()
        number = shared.number_of_filter(repeated(300))
        self.assertEqual(shared.lines_of(number), repeated(300))
        longer = shared.behind(shared.word_of_letter(0), number)
        with self.assertRaises(TooManyLines):
            shared.lines_of(longer)

    def test_more_lines_in_several_filters_together(self):
        # Each filter is put down into a list of its own, so their lines are not added.
        found = classes_of((NILPOTENT, (2, 1, 3)))
        self.assertGreater(len({line for lines, _ in found for line in lines}), 300)

    def test_the_41st_question(self):
        # A question with n letters asks 2 n + 1 questions, and filters of long answers are not refused here.
        with mock.patch.object(expressions, "MOST_LINES", 10 ** 6):
            table, letters, family = left_question(19)
            inquiry = Inquiry(table)
            self.assertEqual(len(inquiry.answer(letters, family)), 19)
            self.assertEqual(inquiry.questions, 39)
            table, letters, family = left_question(20)
            inquiry = Inquiry(table)
            with self.assertRaises(TooManyQuestions):
                inquiry.answer(letters, family)
            self.assertEqual(inquiry.questions, 40)

    def test_the_error_that_comes_first(self):
        # The filters of inner answers grow too long ahead of the 41st question.
        table, letters, family = left_question(20)
        with self.assertRaises(TooManyLines):
            Inquiry(table).answer(letters, family)
        # With 30 letters this is so behind exactly 40 questions, and with 31 the 41st one is ahead of it.
        table, letters, family = left_question(30)
        inquiry = Inquiry(table)
        with self.assertRaises(TooManyLines):
            inquiry.answer(letters, family)
        self.assertEqual(inquiry.questions, 40)
        table, letters, family = left_question(31)
        with self.assertRaises(TooManyQuestions):
            Inquiry(table).answer(letters, family)

    def test_questions_are_counted_for_each_call(self):
        for _ in range(30):
            self.assertEqual(len(classes_of((LEFT, (0, 1)))), 2)

    def test_questions_of_classes_of(self):
        # All of them count: this one asks for [2, 2, 1, 3, 3].
        with mock.patch.object(classes, "MOST_QUESTIONS", 5):
            self.assertEqual(len(classes_of((LEFT, (0, 1)))), 2)
        with mock.patch.object(classes, "MOST_QUESTIONS", 4):
            with self.assertRaises(TooManyQuestions):
                classes_of((LEFT, (0, 1)))


if __name__ == "__main__":
    unittest.main()
