"""Points 8 and 9: levels and heights."""

import unittest

from support import SourceCase

from lineworks.parsing import parse_item, parse_query, parse_source

DEEP = "nested too deeply"
HIGH = "too many operators"

# Where an expression can stand directly: what is before it and behind it.
PLACES = [
    ("from t where ", ""),
    ("from t join u on ", ""),
    ("from t select ", " as x"),
    ("from t select a, ", " as x"),
    ("from t group ", " as x"),
    ("from t group with sum(", ") as x"),
    ("from t group with count as n, max(", ") as x"),
    ("from (from t where ", ") as u"),
]


def nested(openings, inner="a", mark=None):
    """Returns an expression with the openings around inner, and `~` ahead of one of them."""
    closings = {"(": ")", "not ": "", "-": "", "length(": ")", "if(b, ": ", c)", "starts(": ", d)"}
    left = "".join(("~" if at == mark else "") + opening for at, opening in enumerate(openings))
    return left + inner + "".join(closings[opening] for opening in reversed(openings))


def tower(height):
    """Returns an expression of a height."""
    return " + ".join(["a"] * (height + 1))


class Levels(SourceCase):
    def test_each_kind_of_level(self):
        for opening in ("(", "not ", "-", "length(", "if(b, ", "starts("):
            for before, behind in PLACES:
                parse_query(before + nested([opening] * 12) + behind)
                source = before + nested([opening] * 13, mark=12) + behind
                self.refused_at(parse_query, source, DEEP)

    def test_several_kinds_together(self):
        for openings in (
            ["not ", "(", "not ", "-", "-", "(", "length(", "(", "-", "starts(", "if(b, ", "("],
            ["-", "("] * 6,
            ["length(", "("] * 6,
            ["not ", "("] * 6,
        ):
            parse_query("from t where " + nested(openings))
            for last in ("(", "length(", "if(b, ", "starts(", "not ", "-"):
                self.refused_at(parse_query, "from t where " + nested(openings + [last], mark=12), DEEP)

    def test_a_level_ends_where_it_ends(self):
        twelve = nested(["("] * 12)
        parse_query(f"from t where {twelve} + {twelve} < {twelve} and not {nested(['('] * 11)}")
        self.refused_at(parse_query, f"from t where a and not {nested(['('] * 12, mark=11)}", DEEP)

    def test_each_argument_is_one_level_deeper(self):
        eleven = nested(["("] * 11)
        parse_query(f"from t where if({eleven}, {eleven}, {eleven})")
        twelve = nested(["("] * 12, mark=11)
        for arguments in (f"{twelve}, a, b", f"a, {twelve}, b", f"a, b, {twelve}"):
            self.refused_at(parse_query, f"from t where if({arguments})", DEEP)

    def test_operators_are_no_levels(self):
        parse_query("from t where " + nested(["("] * 12, "a + b * c < d and e or f"))
        parse_query("from t where " + "a and " * 20 + nested(["not "] * 12))

    def test_the_token_that_begins_the_level_comes_first(self):
        twelve = "(" * 12
        self.refused_at(parse_query, f"from t where {twelve}~length", DEEP)
        self.refused_at(parse_query, f"from t where {twelve}~missing a", DEEP)
        self.refused_at(parse_query, f"from t where {twelve}~-", DEEP)
        self.refused_at(parse_query, f"from t where {twelve}~not", DEEP)
        self.refused_at(parse_query, f"from t where {twelve}~()", DEEP)
        self.refused_at(parse_query, f"from t where {twelve}~)", "expected an expression")

    def test_each_expression_begins_at_level_0(self):
        twelve = nested(["("] * 12)
        parse_query(f"from t where {twelve} select {twelve} as a, {twelve} as b group with sum({twelve}) as s")
        inside = f"from t where {twelve}"
        for _ in range(6):
            inside = f"from ({inside}) as q where {twelve}"
        parse_query(inside)


class QueryLevels(SourceCase):
    def nested(self, count, mark=None):
        left = "".join(("~" if at == mark else "") + "(from " for at in range(count))
        return "from " + left + "t" + ") as q" * count

    def test_six_and_seven(self):
        parse_query(self.nested(6))
        parse_item(f"step s = {self.nested(6)};")
        self.refused_at(parse_query, self.nested(7, 6), DEEP)
        self.refused_at(parse_query, self.nested(8, 6), DEEP)
        self.refused_at(parse_item, f"step s = {self.nested(7, 6)};", DEEP)

    def test_in_joins_and_unions(self):
        six = self.nested(6)
        parse_query(f"{six} join {six[5:]} on a union {six}")
        self.refused_at(parse_query, f"from t join ({self.nested(6, 5)}) as u on a", DEEP)
        self.refused_at(parse_query, f"from (from u union {self.nested(6, 5)}) as v", DEEP)
        self.refused_at(parse_query, f"from (from u where a left join {self.nested(6, 5)[5:]} on a) as v", DEEP)

    def test_the_parenthesis_comes_first(self):
        self.refused_at(parse_query, "from " + "(from " * 6 + "~(", DEEP)


class Heights(SourceCase):
    def test_thirty_and_more(self):
        for before, behind in PLACES:
            parse_query(before + tower(30) + behind)
            mark = "~" + behind if not behind.startswith(" ") else " ~" + behind[1:]
            self.refused_at(parse_query, before + tower(31) + mark, HIGH)

    def test_long_chains(self):
        for word in ("+", "-", "*", "div", "mod", "or", "and"):
            chain = f" {word} ".join(["a"] * 31)
            parse_query(f"from t where {chain}")
            for count in (32, 400, 900):
                chain = f" {word} ".join(["a"] * count)
                self.refused_at(parse_query, f"from t where {chain}~", HIGH)

    def test_a_long_chain_within_parentheses(self):
        chain = " + ".join(["a"] * 500)
        self.refused_at(parse_query, f"from t where (({chain}) < b) ~", HIGH)

    def test_each_form_counts_one(self):
        for form in (
            "not ({})", "-({})", "missing({})", "length({})", "starts({}, a)", "starts(a, {})", "coalesce({}, a)",
            "coalesce(a, {})", "if({}, a, b)", "if(a, {}, b)", "if(a, b, {})", "({}) < a", "a < ({})", "a + ({})",
            "a * ({})", "a and ({})", "a or ({})", "({}) div a", "({}) != ({})",
        ):
            parse_query("from t where " + form.replace("{}", tower(29)))
            self.refused_at(parse_query, "from t where " + form.replace("{}", tower(30)) + "~", HIGH)

    def test_parentheses_do_not_count(self):
        parse_query(f"from t where (((({tower(30)}))))")
        self.refused_at(parse_query, f"from t where (((({tower(31)}))))~", HIGH)

    def test_the_greatest_height_counts(self):
        parse_query(f"from t where ({tower(29)}) < ({tower(29)})")
        self.refused_at(parse_query, f"from t where a = ({tower(30)})~", HIGH)
        self.refused_at(parse_query, f"from t where if(a, ({tower(30)}), b)~", HIGH)

    def test_before_all_other_errors_about_the_token(self):
        self.refused_at(parse_query, f"from t where {tower(31)} ~)", HIGH)
        self.refused_at(parse_query, f"from t where a < {tower(30)} ~< b", HIGH)
        self.refused_at(parse_query, f"from t select {tower(31)}~", HIGH)
        self.refused_at(parse_query, f"from t select {tower(31)} ~b", HIGH)
        self.refused_at(parse_query, f"from t group with sum({tower(31)}~", HIGH)
        self.refused_at(parse_query, f"from t group with sum({tower(31)} ~as n", HIGH)
        self.refused_at(parse_source, f"step s = from t where {tower(31)}~", HIGH)
        self.refused_at(parse_source, f"step s = from t where {tower(31)}\n~;", HIGH)

    def test_behind_errors_that_stand_ahead(self):
        self.refused_at(parse_query, f"from t where {tower(40)} + ~)", "expected an expression")
        self.refused_at(parse_query, f"from t where ({tower(40)} ~;", "expected )")
        self.refused_at(parse_query, f"from t where {tower(40)} + {nested(['('] * 13, mark=12)}", DEEP)


if __name__ == "__main__":
    unittest.main()
