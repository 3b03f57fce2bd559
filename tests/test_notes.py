"""Point 13: programs as texts, and texts as programs."""

import unittest
from copy import deepcopy

from pausewright.errors import BadText, BadWork
from pausewright.notes import read, written
from tests.chance import Chance
from tests.trees import alone, deep_reckoning, end, fault, give, num, say, slot, within

LEAVE = ("leave",)
WORDS = ("plus", "less", "times", "part", "below", "same")

WHOLE = [
    (1, 2, (
        ("try",
            (("give", ("slot", 0), 1), ("if", ("below", ("slot", 1), ("num", 5)), (say(1),), ())),
            (None, (fault(404),)),
            (("round", num(3), (LEAVE,)), ("hand", 1, (slot(0), ("plus", slot(1), num(1))), None))),
        ("set", 1, num(0)),
        end(999),
    )),
    (2, 2, (("try", (), None, ()),)),
    (0, 4, ()),
]
WHOLE_TEXT = """work 1 2
  try
    give s0 1
    if below s1 5
      say 1
    else
  caught -
    fault 404
  last
    round 3
      leave
    hand 1 - s0 plus s1 1
  set 1 0
  end 999
work 2 2
  try
  last
work 0 4"""


def kinds(told):
    """The kinds of all parts of a value."""
    if type(told) in (list, tuple):
        return [type(told), *[kinds(part) for part in told]]
    return type(told)


class Both(unittest.TestCase):
    def both(self, program, text):
        """The program is written as the text, and the text is read to the program."""
        before = deepcopy(program)
        self.assertEqual(written(program), text)
        told = read(text)
        self.assertEqual(told, program)
        self.assertEqual(kinds(told), kinds(program))
        self.assertEqual(program, before)

    def step(self, step, *rows, slots=4):
        self.both([(0, slots, (step,))], "\n".join([f"work 0 {slots}", *["  " + row for row in rows]]))


class Rows(Both):
    def test_works(self):
        self.both([(0, 1, ())], "work 0 1")
        self.both([(2, 3, ())], "work 2 3")
        self.both([(0, 1, ()), (1, 2, ()), (2, 4, ())], "work 0 1\nwork 1 2\nwork 2 4")
        self.both([(0, 1, (say(1),)), (1, 1, (say(2), say(3)))], "work 0 1\n  say 1\nwork 1 1\n  say 2\n  say 3")

    def test_short_steps(self):
        self.step(("set", 3, num(5)), "set 3 5")
        self.step(say(5), "say 5")
        self.step(("give", num(5), 2), "give 5 2")
        self.step(("give", num(5), None), "give 5 -")
        self.step(fault(5), "fault 5")
        self.step(end(5), "end 5")
        self.step(("round", num(5), (LEAVE,)), "round 5", "  leave")

    def test_hand(self):
        for params, args, words in ((0, (), ""), (1, (num(7),), " 7"), (2, (num(7), ("less", slot(1), num(2))), " 7 less s1 2")):
            for k, word in ((None, "-"), (0, "0"), (3, "3")):
                program = [(0, 4, (("hand", 1, args, k),)), (params, 2, ())]
                self.both(program, f"work 0 4\n  hand 1 {word}{words}\nwork {params} 2")

    def test_reckonings(self):
        for n in (0, 1, 10, 99, 100, 999):
            self.step(say(n), f"say {n}")
        for k in range(4):
            self.step(("say", slot(k)), f"say s{k}")
        for word in WORDS:
            self.step(("say", (word, slot(1), num(20))), f"say {word} s1 20")
            self.step(("say", (word, (word, num(1), num(2)), slot(3))), f"say {word} {word} 1 2 s3")
            self.step(("say", (word, num(1), (word, slot(2), num(3)))), f"say {word} 1 {word} s2 3")
            self.step(("give", (word, num(1), slot(2)), 3), f"give {word} 1 s2 3")
        self.step(("say", deep_reckoning(3)), "say plus plus plus 1 1 1 1")

    def test_if(self):
        self.step(("if", num(1), (), ()), "if 1", "else")
        self.step(("if", slot(2), (say(3),), ()), "if s2", "  say 3", "else")
        self.step(("if", num(1), (), (say(3),)), "if 1", "else", "  say 3")
        self.step(("if", num(1), (say(2), say(3)), (say(4), say(5))), "if 1", "  say 2", "  say 3", "else", "  say 4", "  say 5")

    def test_round(self):
        self.step(("round", ("plus", slot(0), num(1)), ()), "round plus s0 1")
        self.step(("round", num(1), (say(3), LEAVE, say(4))), "round 1", "  say 3", "  leave", "  say 4")

    def test_try(self):
        self.step(("try", (), None, ()), "try", "last")
        self.step(("try", (say(1),), None, (say(2),)), "try", "  say 1", "last", "  say 2")
        self.step(("try", (), (None, ()), ()), "try", "caught -", "last")
        self.step(("try", (), (2, ()), ()), "try", "caught 2", "last")
        self.step(
            ("try", (say(1),), (0, (say(2), say(3))), (say(4),)),
            "try", "  say 1", "caught 0", "  say 2", "  say 3", "last", "  say 4",
        )

    def test_steps_within_others(self):
        inner = ("if", num(1), (("try", (), (1, (("round", num(2), (say(3),)),)), ()),), ())
        self.step(
            ("try", (inner, say(4)), None, (inner,)),
            "try", "  if 1", "    try", "    caught 1", "      round 2", "        say 3", "    last", "  else", "  say 4",
            "last", "  if 1", "    try", "    caught 1", "      round 2", "        say 3", "    last", "  else",
        )
        rows = ["  " * at + "if 1" for at in range(6)] + ["  " * 6 + "say 9"] + ["  " * at + "else" for at in range(5, -1, -1)]
        self.step(within(say(9), 6), *rows)

    def test_a_whole_program(self):
        self.both(WHOLE, WHOLE_TEXT)

    def test_a_long_program(self):
        work = (0, 4, tuple(give(n) for n in range(40)))
        text = "\n".join(["work 0 4"] + [f"  give {n} -" for n in range(40)])
        self.both([work] * 4, "\n".join([text] * 4))

    def test_by_chance(self):
        for seed in range(1500):
            program = Chance(seed).program()
            text = written(program)
            self.both(program, text)
            self.assertTrue(all(sign == "\n" or " " <= sign <= "~" for sign in text))

    def test_told_lists_may_be_changed(self):
        program = read(WHOLE_TEXT)
        program.clear()
        self.assertEqual(read(WHOLE_TEXT), WHOLE)
        self.assertIsNot(read(WHOLE_TEXT), read(WHOLE_TEXT))
        program = list(WHOLE)
        text = written(program)
        program.clear()
        self.assertEqual(text, WHOLE_TEXT)


class BadTexts(unittest.TestCase):
    def refused(self, row, *rows):
        with self.assertRaises(BadText) as caught:
            read("\n".join(rows))
        self.assertEqual(caught.exception.row, row, rows)
        self.assertIs(type(caught.exception.row), int)

    def refused_row(self, words):
        """By itself, at each place where a step may stand."""
        self.refused(1, "work 0 4", f"  {words}")
        self.refused(1, "work 0 4", f"  {words}", "  say 1", "what")
        self.refused(2, "work 0 4", "  say 1", f"  {words}")
        self.refused(2, "work 0 4", "  round 1", f"    {words}")
        self.refused(3, "work 0 4", "  if 1", "  else", f"    {words}")
        self.refused(4, "work 0 4", "  try", "    say 1", "  caught -", f"    {words}", "  last")

    def test_empty_texts_and_rows(self):
        self.refused(0, "")
        self.refused(0, "", "work 0 1")
        self.refused(0, "  ")
        self.refused(1, "work 0 1", "")
        self.refused(1, "work 0 1", "", "")
        self.refused(1, "work 0 1", "", "work 0 1")
        self.refused(1, "work 0 1", "  ")
        self.refused(1, "work 0 1", "    ")
        self.refused(2, "work 0 1", "  say 1", "", "  say 2")
        self.refused(2, "work 0 1", "  say 1", "  ", "  say 2")
        self.refused(2, "work 0 1", "  if 1", "", "  else")
        self.refused(2, "work 0 1", "  if 1", "    ", "  else")
        self.refused(3, "work 0 1", "  if 1", "  else", "")
        self.refused(0, "", "")

    def test_words_that_there_are_not(self):
        for word in (
            "go", "Say", "SAY", "se", "sets", "say1", "num", "plus", "s0", "0", "-", "work", "else", "last", "caught", "count",
            "shut", "ask", "leave,", "#", "~", "!",
        ):
            for more in ("", " 1", " 1 1", " - 1"):
                self.refused_row(word + more)

    def test_too_few_and_too_many_words(self):
        for words in (
            "set", "set 0", "set 0 1 1", "set 0 1 -", "say", "say 1 1", "say 1 -", "give", "give 1", "give 1 0 0", "give 0 1 -",
            "hand", "hand 1", "fault", "fault 1 1", "end", "end 1 1", "leave 1", "leave -", "leave leave", "if", "if 1 1",
            "round", "round 1 1", "try 1", "try -", "try try", "set 0 plus 1", "say plus", "say plus 1", "say plus 1 1 1",
            "say plus plus 1 1", "say plus 1 plus 1", "give plus 1 1", "hand 1 - plus 1", "hand 1 - 1 plus", "if plus 1",
            "if", "round times 1", "fault part 1", "end same 1 1 1",
        ):
            self.refused_row(words)

    def test_too_few_and_too_many_words_of_a_work(self):
        for words in (
            "work", "work 0", "work 0 1 1", "work - 1", "work 0 -", "work 0 s1", "work plus 0 1 1", "Work 0 1", "works 0 1",
        ):
            self.refused(0, words)
            self.refused(0, words, "  say 1")
            self.refused(1, "work 0 1", words)
            self.refused(2, "work 0 1", "  say 1", words)

    def test_too_few_and_too_many_words_of_the_rest(self):
        for words in ("else 1", "else -", "els", "Else", "else else", "elseif 1"):
            self.refused(2, "work 0 1", "  if 1", f"  {words}", "  say 1")
        for words in ("caught", "caught 0 0", "caught - -", "caught s0", "caught plus 0 1", "last 1", "last -", "Last", "finally"):
            self.refused(2, "work 0 1", "  try", f"  {words}", "  last")
        for words in ("last 1", "last -", "caught 0", "caught -", "caught", "Last", "else"):
            self.refused(3, "work 0 1", "  try", "  caught 0", f"  {words}", "  last")

    def test_blanks_between_words(self):
        for words in (
            "say  1", "say 1 ", " say 1", "say 1  ", "set 0  1", "set  0 1", "give 1  -", "give 1 - ", "hand 1 - ", "hand 1 -  1",
            "hand 1 - 1 ", "leave ", "leave  ", "fault  1", "end  1", "end 1 ", "say plus  1 1", "say plus 1  1", "if 1 ", "if  1",
            "round 1 ", "round  1", "try ",
        ):
            self.refused_row(words)
        for words in ("work 0 1 ", "work  0 1", "work 0  1", " work 0 1", "  work 0 1"):
            self.refused(0, words)
            self.refused(1, "work 0 1", words)
        self.refused(2, "work 0 1", "  if 1", "  else ")
        self.refused(2, "work 0 1", "  try", "  last ")
        self.refused(2, "work 0 1", "  try", "  caught  1", "  last")
        self.refused(2, "work 0 1", "  try", "  caught 1 ", "  last")

    def test_blanks_ahead_of_a_row(self):
        for blanks in (0, 1, 3, 4, 5, 6, 20, 190):
            self.refused(1, "work 0 1", " " * blanks + "say 1")
            self.refused(2, "work 0 1", "  say 1", " " * blanks + "say 1")
            self.refused(1, "work 0 1", " " * blanks + "try", "last")
        for blanks in (0, 1, 3, 5, 6, 7, 8):
            self.refused(2, "work 0 1", "  round 1", " " * blanks + "say 1")
            self.refused(3, "work 0 1", "  if 1", "  else", " " * blanks + "leave")
        for blanks in (0, 1, 3, 4, 5, 6):
            for word, other in (("if 1", "else"), ("try", "last"), ("try", "caught 1")):
                self.refused(2, "work 0 1", f"  {word}", " " * blanks + other)
                self.refused(3, "work 0 1", f"  {word}", "    say 1", " " * blanks + other)
        self.refused(3, "work 0 1", "  say 1", "  say 2", " say 3")
        self.refused(4, "work 0 1", "  round 1", "    round 2", "      say 3", "     say 4")

    def test_rows_within_steps_that_have_no_body(self):
        for words in ("say 1", "set 0 1", "give 1 0", "hand 1 -", "fault 1", "end 1", "leave"):
            self.refused(2, "work 0 1", f"  {words}", "    say 1")
            self.refused(3, "work 0 1", "  round 1", f"    {words}", "      say 1")

    def test_numbers(self):
        for n in ("00", "01", "007", "000", "0000000001", "1000000000", "9999999999", "1234567890123", "-1", "+1", "1.", "1.0",
                  "0x1", "1_0", "1e1", "a", "-", "--", "", "s", "s-", "s01", "s00", "s1000000000", "S0", "ss0", "s0s", "s+1", "1s"):
            for words in (
                f"say {n}", f"set 0 {n}", f"give {n} 0", f"hand 1 0 {n}", f"hand 1 0 1 {n}", f"if {n}", f"round {n}",
                f"fault {n}", f"end {n}", f"say plus {n} 1", f"say less 1 {n}",
            ):
                self.refused_row(words)
        for k in ("00", "01", "1000000000", "+1", "-1", "s0", "s", "--", "a", "", "plus"):
            for words in (f"set {k} 1", f"give 1 {k}", f"hand 1 {k}", f"hand 1 {k} 1"):
                self.refused_row(words)
            self.refused(2, "work 0 1", "  try", f"  caught {k}", "  last")
        for n in ("00", "01", "1000000000", "+1", "-1", "s0", "-", "a", ""):
            self.refused_row(f"hand {n} 0")
            self.refused(0, f"work {n} 1")
            self.refused(0, f"work 0 {n}")

    def test_a_slot_is_one_word(self):
        self.refused_row("say s 0")
        self.refused_row("set 0 plus s 0 1")

    def test_rows_at_a_place_where_they_can_not_stand(self):
        for words in ("else", "last", "caught 0", "caught -"):
            self.refused(0, words)
            self.refused(1, "work 0 1", words)
            self.refused_row(words)
            self.refused(3, "work 0 1", "  round 1", "    say 1", f"  {words}")
        for words in ("say 1", "set 0 1", "give 1 0", "hand 1 0", "fault 1", "end 1", "leave", "if 1", "round 1", "try"):
            self.refused(0, words)
            self.refused(0, f"  {words}", "work 0 1")
            self.refused(1, "work 0 1", words)
            self.refused(2, "work 0 1", "  say 1", words)
            self.refused(2, "work 0 1", "  if 1", f"  {words}", "  else")
            self.refused(3, "work 0 1", "  if 1", "    say 1", f"  {words}")
            self.refused(2, "work 0 1", "  try", f"  {words}", "  last")
            self.refused(3, "work 0 1", "  try", "  caught 0", f"  {words}", "  last")
        self.refused_row("work 0 1")
        for word, others in (("if 1", ("last", "caught 0", "work 0 1")), ("try", ("else", "work 0 1"))):
            for other in others:
                self.refused(2, "work 0 1", f"  {word}", f"  {other}")
                self.refused(3, "work 0 1", f"  {word}", "    say 1", f"  {other}")

    def test_rows_of_a_step_that_come_once_more(self):
        self.refused(3, "work 0 1", "  if 1", "  else", "  else")
        self.refused(4, "work 0 1", "  if 1", "  else", "    say 1", "  else")
        self.refused(3, "work 0 1", "  try", "  last", "  last")
        self.refused(3, "work 0 1", "  try", "  last", "  caught 0")
        self.refused(3, "work 0 1", "  try", "  caught 0", "  caught 0", "  last")
        self.refused(4, "work 0 1", "  try", "  caught 0", "    say 1", "  caught 0", "  last")
        self.refused(4, "work 0 1", "  try", "  caught 0", "  last", "  last")

    def test_rows_that_would_end_a_step_around(self):
        self.refused(3, "work 0 1", "  if 1", "    if 2", "  else")
        self.refused(4, "work 0 1", "  if 1", "    if 2", "      say 1", "  else")
        self.refused(3, "work 0 1", "  try", "    try", "  last")
        self.refused(4, "work 0 1", "  try", "    try", "    caught 0", "  last")
        self.refused(2, "work 0 1", "  if 1", "work 0 1")
        self.refused(3, "work 0 1", "  try", "  caught 0", "work 0 1")

    def test_rows_behind_the_last_work(self):
        self.refused(2, "work 0 1", "  say 1", "say 2")
        self.refused(2, "work 0 1", "  say 1", "end")
        self.refused(3, "work 0 1", "  say 1", "work 0 1", "", "work 0 1")
        self.refused(2, "work 0 1", "work 0 1", "leave")
        self.refused(18, *WHOLE_TEXT.split("\n"), "")
        self.refused(18, *WHOLE_TEXT.split("\n"), "else")

    def test_texts_that_end_too_early(self):
        self.refused(2, "work 0 1", "  if 1")
        self.refused(3, "work 0 1", "  if 1", "    say 1")
        self.refused(2, "work 0 1", "  try")
        self.refused(3, "work 0 1", "  try", "    say 1")
        self.refused(3, "work 0 1", "  try", "  caught 0")
        self.refused(4, "work 0 1", "  try", "  caught 0", "    say 1")
        self.refused(4, "work 0 1", "  if 1", "    if 2", "    else")
        self.refused(4, "work 0 1", "  try", "    try", "    last")
        self.refused(5, "work 0 1", "  if 1", "  else", "    round 2", "      try")

    def test_each_beginning_of_a_text(self):
        rows = WHOLE_TEXT.split("\n")
        for many in range(1, len(rows)):
            begins = "\n".join(rows[:many])
            if 2 <= many <= 8 or many == 16:
                self.refused(many, begins)
            elif 12 <= many <= 14:
                # There is no work to hand to yet.
                self.assertRaises(BadWork, read, begins)
            else:
                self.assertEqual(written(read(begins)), begins)

    def test_the_first_row_is_told(self):
        self.refused(1, "work 0 1", "  what", "    say 01", "else")
        self.refused(2, "work 0 1", "  if 1", "  say 1", "  else", "what")
        self.refused(1, "work 0 1", "  say 1 1", "  if 1")

    def test_ahead_of_bad_work(self):
        self.refused(2, "work 0 9", "  say 1000", "  what")
        self.refused(1, "work 9 9", "  say s9 9")
        self.refused(6, *["work 0 1"] * 6, "what")
        self.refused(3, "work 0 1", "  leave", "  if 1000", "  els")
        self.refused(3, "work 0 1", "  leave", "  if 1000")

    def test_many_rows(self):
        self.refused(199, "work 0 1", *["  say 1"] * 198, "  say")
        self.refused(200, "work 0 1", *["  round 1"] * 198, "  try")
        deep = ["work 0 1", *["  " * at + "try" for at in range(1, 98)]]
        self.refused(98, *deep)
        self.refused(98, *deep, "last")
        self.refused(1, "work 0 1", "  say " + "plus " * 38)
        self.refused(1, "work 0 1", "  say " + "plus " * 38 + "1")
        self.refused(1, "work 0 1", " " * 200)
        self.refused(0, "~" * 200)


class BadWorks(unittest.TestCase):
    def refused(self, work, *rows):
        with self.assertRaises(BadWork) as caught:
            read("\n".join(rows))
        self.assertEqual(caught.exception.work, work, rows)

    def test_rows_that_can_stand(self):
        for words in (
            "set - 1", "set 1 1", "set 999999999 1", "say 1000", "say 999999999", "say s1", "say s999999999", "give 1 1",
            "give 1000 -", "hand 0 -", "hand 1 -", "hand 999999999 -", "hand 1 - 1 2 3 4 5 6", "fault 1000", "end 1000", "leave",
            "round 1000", "say plus plus plus plus 1 1 1 1 1", "say plus 1 1000",
        ):
            self.refused(0, "work 0 1", f"  {words}")
            self.refused(1, "work 0 1", "  say 1", "work 0 1", f"  {words}", "work 0 9")
        self.refused(0, "work 0 1", "  if 1000", "  else")
        self.refused(0, "work 0 1", "  try", "  caught 1", "  last")

    def test_works(self):
        for words in ("work 0 0", "work 0 5", "work 3 3", "work 2 1", "work 999999999 1", "work 0 999999999", "work 1 0"):
            self.refused(0, words)
            self.refused(2, "work 0 1", "work 0 1", words, words)

    def test_counts_of_works(self):
        self.assertEqual(len(read("\n".join(["work 0 1"] * 4))), 4)
        self.refused(0, *["work 0 1"] * 5)
        self.refused(0, *["work 0 1"] * 4, "work 9 9")
        self.refused(0, *["work 0 1"] * 200)

    def test_counts_of_steps(self):
        self.assertEqual(len(read("\n".join(["work 0 1"] + ["  say 1"] * 40))[0][2]), 40)
        self.refused(0, "work 0 1", *["  say 1"] * 41)
        self.refused(1, "work 0 1", "work 0 1", *["  say 1"] * 198)

    def test_steps_within_others(self):
        for many in (7, 8, 50, 98):
            self.refused(0, "work 0 1", *["  " * at + "round 1" for at in range(1, many + 1)], "  " * (many + 1) + "say 1")
        rows = ["  " * at + "round 1" for at in range(1, 7)]
        self.assertEqual(len(read("\n".join(["work 0 1", *rows, "  " * 7 + "say 1"]))), 1)

    def test_handings(self):
        self.refused(0, "work 0 1", "  hand 1 - 1", "work 0 1")
        self.refused(0, "work 0 1", "  hand 1 -", "work 1 1")
        self.refused(1, "work 0 1", "  hand 1 -", "work 0 1", "  hand 0 -")

    def test_deep_reckonings(self):
        for many in (4, 5, 25):
            self.refused(0, "work 0 1", "  say " + "plus " * many + " ".join(["1"] * (many + 1)))

    def test_written(self):
        for program, work in (([], 0), ([(0, 1, ())] * 5, 0), ([(0, 1, ()), (0, 1, (say(1000),))], 1), (alone(LEAVE), 0)):
            with self.assertRaises(BadWork) as caught:
                written(program)
            self.assertEqual(caught.exception.work, work)


if __name__ == "__main__":
    unittest.main()
