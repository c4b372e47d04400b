"""Point [15]: the rows of a hall's log, with their chains and whys."""

import unittest

from test_hall import gone, steps

ROOMS = {"den": ("ann", 5), "attic": ("zoe", -7)}


def give(holder, until=50, passes=6, since=0, deeds="look+set", room="den", local="n"):
    """A row of a program that gives a leave."""
    return (f"give {deeds} on {room} to {holder} since {since} until {until} "
            f"passes {passes} as {local}")


def log_of(programs, *way):
    """The log of a hall that has gone by a way; programs are rows by actors."""
    made = {actor: steps(*rows) for actor, rows in programs.items()}
    return gone(ROOMS, made, way).log()


class LogTest(unittest.TestCase):
    def assert_rows(self, log, *rows):
        """That a log has just these rows, of just these kinds."""
        self.assertEqual(log, list(rows))
        self.assertEqual(repr(log), repr(list(rows)))


class DeedRowsTest(LogTest):
    def test_looks_and_sets_of_the_owner(self):
        log = log_of({"ann": ["look den as x", "set den to 9", "look den as x"]}, *["ann"] * 3)
        self.assert_rows(
            log,
            ("look", 0, "ann", "den", 5, ()),
            ("set", 1, "ann", "den", 9, ()),
            ("look", 2, "ann", "den", 9, ()),
        )

    def test_looks_and_sets_under_leaves(self):
        log = log_of({
            "ann": [give("cid"), give("bob")],
            "bob": [give("dan", passes=3)],
            "dan": ["look den as x", "set den to 8"],
        }, "ann", "ann", "bob", "dan", "dan")
        self.assert_rows(
            log[3:],
            ("look", 3, "dan", "den", 5, (1, 2)),
            ("set", 4, "dan", "den", 8, (1, 2)),
        )

    def test_the_leave_of_least_number_that_stands_is_told(self):
        log = log_of({
            "ann": [give("bob", deeds="set"), give("bob", since=9), give("bob"), give("bob")],
            "bob": ["look den as x", "set den to 1"],
        }, *["ann"] * 4, "bob", "bob")
        self.assertEqual([row[5] for row in log[4:]], [(2,), (0,)])

    def test_the_worth_of_a_set_is_the_new_one(self):
        log = log_of({"ann": ["set den to 2 - 9"]}, "ann")
        self.assert_rows(log, ("set", 0, "ann", "den", -7, ()))

    def test_other_steps_write_no_row(self):
        log = log_of({"ann": ["rest", "let x be 3", "when x", "rest", "end"]}, *["ann"] * 4)
        self.assert_rows(log)

    def test_moments_that_pass_stand_between(self):
        log = log_of({"ann": ["look den as x"] * 2}, None, "ann", None, None, "ann")
        self.assertEqual([row[1] for row in log], [1, 4])


class GaveRowsTest(LogTest):
    def test_by_the_owner(self):
        log = log_of({"ann": [give("bob", until=30, passes=2, since=4, deeds="set")]}, None, "ann")
        self.assert_rows(
            log, ("gave", 1, "ann", (0, "den", ("set",), "ann", "bob", 4, 30, 2, None), ()),
        )

    def test_under_leaves_that_stand(self):
        log = log_of({
            "ann": [give("bob")], "bob": [give("cid", passes=5)], "cid": [give("dan", passes=4)],
        }, "ann", "bob", "cid")
        both = ("look", "set")
        self.assert_rows(
            log,
            ("gave", 0, "ann", (0, "den", both, "ann", "bob", 0, 50, 6, None), ()),
            ("gave", 1, "bob", (1, "den", both, "bob", "cid", 0, 50, 5, 0), (0,)),
            ("gave", 2, "cid", (2, "den", both, "cid", "dan", 0, 50, 4, 1), (0, 1)),
        )

    def test_under_a_leave_that_does_not_stand_yet(self):
        log = log_of({"ann": [give("bob", since=20)], "bob": [give("cid", since=30, passes=0)]},
                     "ann", "bob")
        self.assertEqual(log[1][4], (0,))

    def test_a_lost_leave_is_passed_over(self):
        log = log_of({
            "ann": [give("bob"), "take n", give("bob", until=20), give("bob", until=30)],
            "bob": [give("cid", until=30, passes=0)],
        }, *["ann"] * 4, "bob")
        self.assertEqual(log[-1][3:], ((3, "den", ("look", "set"), "bob", "cid", 0, 30, 0, 2), (2,)))

    def test_by_one_who_is_no_actor_of_the_hall(self):
        log = log_of({"ann": [give("someone")]}, "ann")
        self.assertEqual(log[0][3][4], "someone")


class TookRowsTest(LogTest):
    CHAIN = {
        "ann": [give("bob"), "take 0", "take 1", "take 2"],
        "bob": [give("cid", passes=5), "take 1", "take 2"],
        "cid": [give("dan", passes=4), "take 2"],
        "dan": [give("eve", passes=3), "take 3"],
        "eve": [give("bob", passes=2), "take 4"],
    }

    def by(self, *way):
        log = log_of(self.CHAIN, "ann", "bob", "cid", "dan", *way)
        return log[-1]

    def test_by_the_giver(self):
        self.assertEqual(self.by("dan"), ("took", 4, "dan", 3, "giver"))
        self.assertEqual(self.by("cid"), ("took", 4, "cid", 2, "giver"))

    def test_by_the_owner(self):
        self.assertEqual(self.by("ann", "ann"), ("took", 5, "ann", 1, "owner"))
        self.assertEqual(self.by("ann", "ann", "ann"), ("took", 6, "ann", 2, "owner"))

    def test_by_the_giver_ahead_of_the_owner(self):
        self.assertEqual(self.by("ann"), ("took", 4, "ann", 0, "giver"))

    def test_by_a_holder_above(self):
        self.assertEqual(self.by("bob", "bob"), ("took", 5, "bob", 2, 0))

    def test_by_the_giver_ahead_of_a_holder_above(self):
        self.assertEqual(self.by("bob"), ("took", 4, "bob", 1, "giver"))

    def test_by_each_holder_above(self):
        programs = {
            "ann": [give("bob")],
            "bob": [give("cid", passes=5), "take 4"],
            "cid": [give("dan", passes=4), "take 4"],
            "dan": [give("eve", passes=3), "take 4"],
            "eve": [give("fay", passes=2), "take 4"],
        }
        ahead = ("ann", "bob", "cid", "dan", "eve")
        for actor, right in (("bob", 0), ("cid", 1), ("dan", 2), ("eve", "giver")):
            with self.subTest(actor=actor):
                log = log_of(programs, *ahead, actor)
                self.assert_rows(log[5:], ("took", 5, actor, 4, right))

    def test_by_a_holder_above_that_holds_it_too(self):
        # What bob may pass on goes under its leave 0, of which leave 2 is a part.
        programs = {
            "ann": [give("bob")],
            "bob": [give("cid", passes=5), "take 2", "take 1"],
            "cid": [give("bob", passes=4)],
        }
        log = log_of(programs, "ann", "bob", "cid", "bob", "bob")
        self.assert_rows(log[3:], ("took", 3, "bob", 2, 0), ("took", 4, "bob", 1, "giver"))

    def test_holders_above_may_take_what_stands_no_more(self):
        log = log_of(self.CHAIN, "ann", "bob", "cid", "dan", "ann", "bob", "bob")
        self.assertEqual(log[-2:], [("took", 5, "bob", 1, "giver"), ("took", 6, "bob", 2, 0)])


class OverRowsTest(LogTest):
    def test_as_the_moment_becomes_the_until(self):
        programs = {"ann": [give("bob", until=3), "rest", "rest", "look den as x"]}
        self.assertEqual(len(log_of(programs, "ann", "ann")), 1)
        self.assert_rows(log_of(programs, *["ann"] * 3)[1:], ("over", 3, 0))
        self.assert_rows(
            log_of(programs, *["ann"] * 4)[1:],
            ("over", 3, 0), ("look", 3, "ann", "den", 5, ()),
        )

    def test_by_numbers_ahead_of_the_step_of_that_moment(self):
        programs = {
            "ann": [give("bob", until=5), give("bob", until=4), give("bob", until=5),
                    give("bob", until=5), "rest", "look den as x"],
        }
        self.assert_rows(
            log_of(programs, *["ann"] * 6)[4:],
            ("over", 4, 1), ("over", 5, 0), ("over", 5, 2), ("over", 5, 3),
            ("look", 5, "ann", "den", 5, ()),
        )

    def test_none_for_what_was_taken_back_ahead(self):
        programs = {"ann": [give("bob", until=4), give("bob", until=4), "take 0", "rest", "rest"]}
        self.assert_rows(
            log_of(programs, *["ann"] * 5)[2:],
            ("took", 2, "ann", 0, "giver"), ("over", 4, 1),
        )

    def test_none_for_what_was_taken_back_at_the_last_moment(self):
        programs = {"ann": [give("bob", until=2), "take 0", "rest"]}
        self.assert_rows(log_of(programs, *["ann"] * 3)[1:], ("took", 1, "ann", 0, "giver"))

    def test_for_what_was_given_under_one_that_was_taken_back(self):
        programs = {"ann": [give("bob"), "take 0"], "bob": [give("cid", until=4, passes=0)]}
        self.assert_rows(
            log_of(programs, "ann", "bob", "ann", None, None)[2:],
            ("took", 2, "ann", 0, "giver"), ("over", 4, 1),
        )

    def test_for_what_is_over_as_the_one_above_is(self):
        programs = {"ann": [give("bob", until=4)], "bob": [give("cid", until=4, passes=0)]}
        self.assert_rows(
            log_of(programs, "ann", "bob", None, None)[2:], ("over", 4, 0), ("over", 4, 1),
        )

    def test_over_one_moment_only_once(self):
        programs = {"ann": [give("bob", until=2), "rest", "rest"]}
        log = log_of(programs, "ann", None, None, "ann", "ann")
        self.assertEqual([row for row in log if row[0] == "over"], [("over", 2, 0)])


class MissRowsTest(LogTest):
    def test_looks_and_sets_with_each_cause(self):
        programs = {
            "ann": [give("bob", until=4), give("bob", since=20), give("bob", deeds="look"), "take 2"],
            "bob": ["look den as x", "set den to 3", "look attic as x", "set attic to 2"],
        }
        log = log_of(programs, *["ann"] * 4, *["bob"] * 4)
        self.assert_rows(
            log[4:],
            ("over", 4, 0),
            ("miss", 4, "bob", ("look", "den"), ((0, 0, "over"), (1, 1, "early"), (2, 2, "taken"))),
            ("miss", 5, "bob", ("set", "den"), ((0, 0, "over"), (1, 1, "early"))),
            ("miss", 6, "bob", ("look", "attic"), ()),
            ("miss", 7, "bob", ("set", "attic"), ()),
        )

    def test_the_first_link_that_does_not_stand_is_told(self):
        programs = {
            "ann": [give("bob", since=3), "take 0"],
            "bob": [give("cid", since=5, passes=0), "take 1"],
            "cid": ["look den as x"] * 3,
        }
        log = log_of(programs, "ann", "bob", "cid", "cid", "bob", "cid")
        self.assertEqual([row[4] for row in log if row[0] == "miss"],
                         [((1, 0, "early"),), ((1, 1, "early"),), ((1, 1, "taken"),)])
        log = log_of(programs, "ann", "bob", "bob", "ann", "cid")
        self.assertEqual(log[-1][4], ((1, 0, "taken"),))

    def test_of_a_room_that_is_not_there(self):
        log = log_of({"ann": ["look cellar as x", "set cellar to 1"]}, "ann", "ann")
        self.assert_rows(
            log,
            ("miss", 0, "ann", ("look", "cellar"), ()),
            ("miss", 1, "ann", ("set", "cellar"), ()),
        )

    def test_gives(self):
        programs = {"bob": [
            give("cid", since="now", until="now + 3", passes=2, deeds="look"),
            give("cid", room="cellar", deeds="set"),
            give("cid", since="0 - 4", until="999999999", passes="1 - 9"),
            give("bob", since=0, until=4, passes=0),
        ]}
        both = ("look", "set")
        self.assert_rows(
            log_of(programs, *["bob"] * 4),
            ("miss", 0, "bob", ("give", ("look",), "den", "cid", 0, 3, 2), ()),
            ("miss", 1, "bob", ("give", ("set",), "cellar", "cid", 0, 50, 6), ()),
            ("miss", 2, "bob", ("give", both, "den", "cid", -4, 999999999, -8), ()),
            ("miss", 3, "bob", ("give", both, "den", "bob", 0, 4, 0), ()),
        )

    def test_gives_and_takes_have_no_why_though_leaves_are_held(self):
        programs = {
            "ann": [give("bob", since=20, passes=0)],
            "bob": [give("cid"), "take 0"],
        }
        log = log_of(programs, "ann", "bob", "bob")
        self.assert_rows(
            log[1:],
            ("miss", 1, "bob", ("give", ("look", "set"), "den", "cid", 0, 50, 6), ()),
            ("miss", 2, "bob", ("take", 0), ()),
        )

    def test_takes(self):
        programs = {"ann": ["take 3", "take 0 - 2", "take 999999999 + 1"]}
        self.assert_rows(
            log_of(programs, *["ann"] * 3),
            ("miss", 0, "ann", ("take", 3), ()),
            ("miss", 1, "ann", ("take", -2), ()),
            ("miss", 2, "ann", ("take", 0), ()),
        )


if __name__ == "__main__":
    unittest.main()
