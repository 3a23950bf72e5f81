"""Renamings: made, read, called, added, turned back, and asked."""

import itertools
import random
import unittest

from samples import LETTERS, T, WalkCase, any_values, labels_by_path, outcome, plainly_a_letter, tree_from, trees
from treewalks.errors import BadText, NoLabel, NoLetter, NotOneToOne
from treewalks.renamings import Renaming

ALL_SIZES = trees()[::2]


def drawn_leads(source):
    """A dict of leads: any, one to one, in cycles, or none."""
    sort = source.randrange(5)
    letters = source.sample(LETTERS, source.choice([0, 1, 2, 3, 5, 12, 25, 26]))
    if sort == 0:
        return {letter: source.choice(LETTERS) for letter in letters}
    if sort == 1:
        return dict(zip(letters, source.sample(letters, len(letters))))
    if sort == 2:
        return dict(zip(letters, letters[1:] + letters[:1]))
    if sort == 3:
        return {letter: source.choice(letters) for letter in letters}
    return {letter: letter for letter in letters}


def many_leads(seed, many=120):
    source = random.Random(seed)
    named = [{}, {"a": "a"}, {"a": "b"}, {"a": "b", "b": "a"}, {"z": "a"}, {"a": "b", "b": "c", "c": "a"}]
    named.append(dict(zip(LETTERS, LETTERS[1:] + "a")))
    named.append(dict(zip(LETTERS, LETTERS[1:] + "z")))
    return named + [drawn_leads(source) for _ in range(many)]


def whole(leads):
    """The text of the 26 letters to which a to z lead."""
    return "".join(leads.get(letter, letter) for letter in LETTERS)


def told(renaming):
    """The same, asked of a renaming letter by letter."""
    return "".join(renaming[letter] for letter in LETTERS)


def plain_tree(tree, text):
    """The tree renamed by the 26 letters of the text."""
    if tree is None:
        return None
    return tree_from({path: text[LETTERS.index(label)] for path, label in labels_by_path(tree).items()})


def plain_power(text, times):
    """The 26 letters to which so many steps lead, by doubling."""
    result = LETTERS
    while times:
        if times % 2:
            result = "".join(text[LETTERS.index(letter)] for letter in result)
        text = "".join(text[LETTERS.index(letter)] for letter in text)
        times //= 2
    return result


def plain_str(leads):
    return " ".join(f"{letter}>{lead}" for letter, lead in sorted(leads.items()) if lead != letter)


class Made(WalkCase):
    def test_by_keywords(self):
        for leads in many_leads(1):
            renaming = Renaming(**leads)
            self.assertEqual(told(renaming), whole(leads))
            self.assertEqual(str(renaming), plain_str(leads))
            self.assertEqual(Renaming(**dict(reversed(leads.items()))), renaming)

    def test_wrong_keywords(self):
        wrong = ["A", "B", "", "aa", "letter", "letters", "cls", "at", "x y", "a ", "1", "?", "`", "{", "a\n", "self_"]
        for name in wrong:
            for before in ({}, {"a": "b"}, {"a": 5}, {"a": "b", "c": None}):
                for after in ({}, {"z": "b"}, {"Z": "b"}, {"q": ()}):
                    for value in ("x", "X", None):
                        result = outcome(Renaming, **{**before, name: value, **after})
                        self.assertEqual(result, ("raises", "NoLetter", name))

    def test_the_first_wrong_keyword_in_the_order_of_the_call(self):
        for names in itertools.permutations(["B", "aa", "c", "Z"]):
            first = [name for name in names if name != "c"][0]
            self.check_raises(NoLetter, "value", first, Renaming, **{name: 5 for name in names})

    def test_wrong_values(self):
        for value in any_values() + ["`", "{", "B", "a>b", ("a",), ["a"]]:
            if not plainly_a_letter(value):
                for before in ({}, {"a": "b"}, {"m": "m", "c": "d"}):
                    for after in ({}, {"z": "y"}, {"z": None}, {"y": "Y", "z": 5}):
                        self.check_raises(NoLabel, "letter", value, Renaming, **{**before, "k": value, **after})

    def test_the_first_wrong_value_in_the_order_of_the_call(self):
        for names in itertools.permutations("abcd"):
            values = {"a": ["A"], "b": "x", "c": ("C",), "d": {"d": "d"}}
            first = [name for name in names if name != "b"][0]
            self.check_raises(NoLabel, "letter", values[first], Renaming, **{name: values[name] for name in names})

    def test_later_changes_of_the_dict(self):
        leads = {"a": "b", "c": "d"}
        renaming = Renaming(**leads)
        leads["a"] = "z"
        leads.clear()
        self.assertEqual(str(renaming), "a>b c>d")


class Read(WalkCase):
    def wrong_word(self, text):
        """The index of BadText, or None."""
        seen = []
        for index, word in enumerate(text.split(" ") if text else []):
            good = len(word) == 3 and word[1] == ">" and plainly_a_letter(word[0]) and plainly_a_letter(word[2])
            if not good or word[0] in seen:
                return index
            seen.append(word[0])
        return None

    def check_text(self, text):
        index = self.wrong_word(text)
        if index is not None:
            self.check_raises(BadText, "index", index, Renaming.read, text)
            return
        renaming = Renaming.read(text)
        self.assertIs(type(renaming), Renaming)
        leads = {word[0]: word[2] for word in text.split(" ") if word}
        self.assertEqual(told(renaming), whole(leads))
        self.assertEqual(renaming, Renaming(**leads))

    def test_texts_of_renamings(self):
        for leads in many_leads(2):
            renaming = Renaming(**leads)
            self.assertEqual(Renaming.read(str(renaming)), renaming)
            self.check_text(str(renaming))

    def test_all_words_in_any_order(self):
        source = random.Random(3)
        for leads in many_leads(3):
            words = [f"{letter}>{lead}" for letter, lead in leads.items()]
            source.shuffle(words)
            self.check_text(" ".join(words))

    def test_words_replaced_repeated_and_removed(self):
        source = random.Random(5)
        odd = ["", "a", "a>", ">a", "a>bc", "ab>c", "a-b", "A>b", "a>B", "a>b\n", "\na>b", "a<b", "a>>b", "a=b", "1>2",
               "a>?", "`>a", "a>{", "a,b", "a >", ".", "a>b,c>d", "a>a", "b>b", "z>z"]
        for leads in many_leads(4, 200):
            words = [f"{letter}>{lead}" for letter, lead in leads.items()] or [""]
            at = source.randrange(len(words))
            sort = source.randrange(5)
            if sort == 0:
                words[at] = source.choice(odd)
            elif sort == 1:
                words.insert(source.randrange(len(words) + 1), words[at])
            elif sort == 2:
                words.insert(at, f"{words[-1][:1]}>q")
            elif sort == 3:
                del words[at]
            else:
                words.insert(at, source.choice(odd))
            self.check_text(source.choice([" ", " ", " ", "  ", ",", "\n", "\t"]).join(words))

    def test_spaces_and_ends(self):
        for text in ("", " ", "  ", "a>b ", " a>b", "a>b  c>d", "a>b c>d ", "a>b\nc>d", "a>bc>d", "a>b a>b", "a>a a>a",
                     "a>b b>a a>c", "a>b,c>d", "a > b", "a>b c", "a>b c>", "\n", ">", "a>b\n", "x", "a>x a>y"):
            self.check_text(text)

    def test_single_signs_changed(self):
        text = "a>b c>d e>e"
        for at in range(len(text) + 1):
            for sign in "ac> Ab\n-":
                self.check_text(text[:at] + sign + text[at:])
                self.check_text(text[:at] + sign + text[at + 1:])
            self.check_text(text[:at] + text[at + 1:])

    def test_any_values(self):
        for value in any_values():
            if isinstance(value, str):
                self.check_text(value)
            else:
                self.check_raises(BadText, "index", None, Renaming.read, value)

    def test_read_off_an_object(self):
        self.assertEqual(str(Renaming(a="b").read("c>d")), "c>d")


class Called(WalkCase):
    def test_once(self):
        for leads in many_leads(6, 40):
            renaming = Renaming(**leads)
            for tree in trees()[::5]:
                self.assertEqual(self.asked(renaming, tree), plain_tree(tree, whole(leads)))
            self.assertIsNone(renaming(None))

    def test_many_times(self):
        source = random.Random(7)
        large = [10 ** 12, 10 ** 12 - 1, 999999999989, 26771144400, 26771144401, 2 ** 39]
        for leads in many_leads(8):
            renaming = Renaming(**leads)
            for times in [*range(60), *large, source.randrange(10 ** 12), source.randrange(10 ** 6)]:
                tree = source.choice(ALL_SIZES)
                self.assertEqual(renaming(tree, times), plain_tree(tree, plain_power(whole(leads), times)))
                self.assertIsNone(renaming(None, times))

    def test_each_letter_many_times(self):
        for leads in many_leads(9, 30):
            renaming = Renaming(**leads)
            for times in (0, 1, 2, 24, 25, 26, 27, 10 ** 12):
                power = plain_power(whole(leads), times)
                for letter in LETTERS:
                    self.assertEqual(renaming((None, letter, None), times), (None, power[LETTERS.index(letter)], None))

    def test_so_many_times_and_then_so_many(self):
        source = random.Random(10)
        for leads in many_leads(10, 60):
            renaming = Renaming(**leads)
            for tree in (T, source.choice(ALL_SIZES)):
                one = source.choice([0, 1, 3, 30, source.randrange(10 ** 11)])
                other = source.choice([0, 1, 2, 25, source.randrange(10 ** 11)])
                self.assertEqual(renaming(renaming(tree, one), other), renaming(tree, one + other))
            steps = T
            for times in range(30):
                self.assertEqual(renaming(T, times), steps)
                steps = renaming(steps)

    def test_zero_times(self):
        for tree in trees()[::4] + [None]:
            self.assertEqual(Renaming(a="b", b="a")(tree, 0), tree)


class Asked(WalkCase):
    def test_letters(self):
        for leads in many_leads(11):
            renaming = Renaming(**leads)
            for letter in LETTERS:
                lead = leads.get(letter, letter)
                self.assertEqual(renaming[letter], lead)
                self.assertIs(letter in renaming, lead != letter)
                self.assertIs(letter not in renaming, lead == letter)

    def test_any_values(self):
        for renaming in (Renaming(), Renaming(a="b"), Renaming(**dict(zip(LETTERS, LETTERS[1:] + "a")))):
            for value in any_values() + ["`", "{", "a>b", ("a",), ["a"], 0, slice(1), slice(None)]:
                if not plainly_a_letter(value):
                    self.check_raises(NoLetter, "value", value, lambda at: renaming[at], value)
                    self.assertIs(value in renaming, False)

    def test_len_bool_and_str(self):
        for leads in many_leads(12):
            renaming = Renaming(**leads)
            many = len([letter for letter in leads if leads[letter] != letter])
            self.assertEqual(repr(len(renaming)), repr(many))
            self.assertIs(bool(renaming), many > 0)
            self.assertIs(not renaming, many == 0)
            self.assertEqual(str(renaming), plain_str(leads))

    def test_not_iterated_over(self):
        for renaming in (Renaming(), Renaming(a="b")):
            with self.assertRaises(TypeError):
                list(renaming)

    def test_equality(self):
        all_leads = many_leads(13, 50)
        for one in all_leads:
            for other in all_leads:
                same = whole(one) == whole(other)
                self.assertIs(Renaming(**one) == Renaming(**other), same)
                self.assertIs(Renaming(**one) != Renaming(**other), not same)

    def test_not_equal_to_anything_else(self):
        for renaming in (Renaming(), Renaming(a="b")):
            for value in any_values() + [str(renaming), {"a": "b"}, Renaming, object(), (renaming,), [renaming]]:
                self.assertIs(renaming == value, False)
                self.assertIs(value == renaming, False)
                self.assertIs(renaming != value, True)
                self.assertIs(value != renaming, True)

    def test_within(self):
        all_leads = many_leads(14, 50)
        for one in all_leads:
            parts = dict(list(one.items())[::2])
            for other in [*all_leads, one, parts, {**one, "q": "r"}]:
                for low, high in ((one, other), (other, one)):
                    pairs = zip(LETTERS, whole(low), whole(high))
                    expected = all(lead == target for letter, lead, target in pairs if lead != letter)
                    self.assertIs(Renaming(**low).within(Renaming(**high)), expected)

    def test_within_of_parts(self):
        self.assertIs(Renaming().within(Renaming(a="b")), True)
        self.assertIs(Renaming(a="b").within(Renaming()), False)
        self.assertIs(Renaming(a="a").within(Renaming(a="b")), True)
        self.assertIs(Renaming(a="b").within(Renaming(a="c", b="b")), False)


class Added(WalkCase):
    def test_one_and_then_the_other(self):
        source = random.Random(15)
        for one in many_leads(16, 40):
            for other in many_leads(17, 15):
                first, then = Renaming(**one), Renaming(**other)
                both = first + then
                self.assertIs(type(both), Renaming)
                self.assertEqual(told(both), "".join(then[first[letter]] for letter in LETTERS))
                tree = source.choice(ALL_SIZES)
                self.assertEqual(both(tree), then(first(tree)))
                self.assertEqual([told(first), told(then)], [whole(one), whole(other)])

    def test_grouped_in_any_way(self):
        all_leads = many_leads(18, 20)
        source = random.Random(18)
        for _ in range(400):
            one, other, third = [Renaming(**source.choice(all_leads)) for _ in range(3)]
            self.assertEqual((one + other) + third, one + (other + third))
            self.assertEqual(str((one + other) + third), str(one + (other + third)))

    def test_nothing_adds_nothing(self):
        for leads in many_leads(19):
            renaming = Renaming(**leads)
            for nothing in (Renaming(), Renaming(a="a", z="z"), Renaming.read("")):
                self.assertEqual([renaming + nothing, nothing + renaming], [renaming, renaming])

    def test_sums_are_times(self):
        for leads in many_leads(20, 40):
            renaming = total = Renaming(**leads)
            for times in range(2, 30):
                total = total + renaming
                self.assertEqual(total(T), renaming(T, times))

    def test_in_place(self):
        one = other = Renaming(a="b")
        one += Renaming(b="c")
        self.assertEqual([str(one), str(other)], ["a>c b>c", "a>b"])


class TurnedBack(WalkCase):
    def test_exactly_if_no_letter_is_reached_twice(self):
        for leads in many_leads(21, 300):
            renaming, text = Renaming(**leads), whole(leads)
            twice = [letter for letter in LETTERS if text.count(letter) > 1]
            if twice:
                self.assertEqual(outcome(lambda: -renaming), ("raises", "NotOneToOne", twice[0]))
                self.check_raises(NotOneToOne, "letter", outcome(lambda: -renaming)[2], lambda: -renaming)
            else:
                back = -renaming
                self.assertIs(type(back), Renaming)
                self.assertEqual(told(back), "".join(LETTERS[text.index(letter)] for letter in LETTERS))
                self.assertEqual([renaming + back, back + renaming, -back], [Renaming(), Renaming(), renaming])
            self.assertEqual(told(renaming), text)

    def test_all_of_three_letters(self):
        for leads in itertools.product("abcd", repeat=3):
            renaming, text = Renaming(**dict(zip("abc", leads))), whole(dict(zip("abc", leads)))
            twice = [letter for letter in LETTERS if text.count(letter) > 1]
            expected = ("raises", "NotOneToOne", twice[0]) if twice else "ok"
            result = outcome(lambda: -renaming)
            self.assertEqual(result if twice else result[0], expected)

    def test_the_smallest_such_letter(self):
        self.assertEqual(outcome(lambda: -Renaming(z="y", b="a", q="x")), ("raises", "NotOneToOne", "a"))
        self.assertEqual(outcome(lambda: -Renaming(a="z", z="b")), ("raises", "NotOneToOne", "b"))
        self.assertEqual(outcome(lambda: -Renaming(a="z")), ("raises", "NotOneToOne", "z"))

    def test_of_sums(self):
        source = random.Random(22)
        for _ in range(100):
            one = Renaming(**dict(zip(LETTERS, source.sample(LETTERS, 26))))
            other = Renaming(**dict(zip(LETTERS, source.sample(LETTERS, 26))))
            self.assertEqual(-(one + other), -other + -one)
            self.assertEqual((-one)(one(T, 1000), 1000), T)


if __name__ == "__main__":
    unittest.main()
