"""What all tests need: the programs of the document, and strict comparisons."""

import unittest

FOLD = """signs ab
rows 1
pairs mate ab ba
start fold
lot fold
way stop(none)
way free(sign, fold)
way bond(sign, fold, sign, fold) when mate 0 2
judge worth number
for stop 0
for free x1
for bond 1 + x1 + x3
judge ways product
for stop 1
for free x1
for bond x1 * x3
judge dots text
for stop
for free "." x1
for bond "(" x1 ")" x3
ask most = greatest worth
ask how = (greatest worth then total ways)
ask all = (each worth names dots)"""

# About two rows: it has every kind of line, judge, piece, mark, formula and ask.
PAIR = """signs abc
rows 2
pairs same aa bb cc
pairs up ab bc
numbers gain 1 else -1 a 2 b -3 c 0
numbers cost 2 else 5 ab 0 ba -7
start both
lot both
way stop(none / none)
way match(sign / sign, both) when same 0.0 0.0 and up 0.0 0.1
way turn(sign(ab) / sign(c), both)
way left(run 1 any / none, rest)
way right(none / run 1 3, both)
lot rest
way last(run 2 2 / sign, none / none, both)
way lone(both)
judge worth number
for stop 0
for match gain[0.0] + cost[0.0, 0.1] + x1
for turn max(2 * x1 - 3, -x1, 0 * gain[0.1])
for left -2 * len 0.0 + x1
for right min(len 0.1, 7)
for last len 0.0 - 4 * gain[0.1] + 3 * x2
for lone x0 + x0
judge size number
for stop 0
for match 2 + x1
for turn 2 + x1
for left len 0.0 + x1
for right len 0.1 + x1
for last 1 + len 0.0 + x2
for lone x0
judge ways product
for stop 1
for match x1 - x1
for turn 2 * gain[0.0] * cost[0.1, 0.0] * x1 * x1 + 3
for left -x1
for right -4 + x1
for last gain[0.1]
for lone x0 * x0 * x0
judge told text
for stop
for match at 0.0 at 0.1 x1
for turn "<>" x1 ""
for left at 0.0 at 0.1 x1
for right x1 x1
for last "a b" at 0.0 x2 at 1.1
for lone x0
ask low = least worth
ask high = greatest worth
ask some = best 2 worth
ask both = ends 1 worth
ask near = within 0 worth
ask each1 = spread ways
ask all = total ways
ask texts = names told
ask one = first
ask keyed = (each told (each worth first))
ask then1 = ((least worth then total ways) beside names told)
ask front = (least worth against greatest size)
"""

# About made, live and useful ones: odd is not live, lost not made, spare not useful.
EDGE = """signs ab
rows 1
pairs same aa bb
start whole
lot whole
way cover(edge, core)
lot edge
way skip(none)
way more(sign, edge)
lot core
way one(sign(a))
way two(sign, sign(b)) when same 0 1
way odd(sign, lost)
lot lost
way loop(lost)
lot spare
way last(sign)"""

CIRCLE = "signs a\nrows 1\nstart s\nlot s\nway again(s)\nway stop(sign)"

# About two rows, without a ring: pair is not empty, though it has least width 0 on each row.
TWIN = """signs ab
rows 2
pairs same aa bb
start all
lot all
way more(pair, all)
way done(rest)
lot pair
way both(sign / sign) when same 0.0 0.1
way up(sign(a) / none)
way down(none / sign(b))
way off(sign(a) / sign(b)) when same 0.0 0.1
lot rest
way some(run 0 2 / none)
way skip(none / none, tail)
lot tail
way gap(none / run 1 any)
lot apart
way round(apart, pair)
judge worth number
for more x0 + x1
for done x0
for both 3
for up 1
for down 2
for off 0
for some len 0.0
for skip x1 - 1
for gap -1 * len 0.1
for round x0
judge ways product
for more x0 * x1
for done x0
for both 2
for up 1
for down 1
for off 1
for some 1
for skip x1
for gap 1
for round x0
judge told text
for more x0 x1
for done "." x0
for both at 0.0
for up "-"
for down "+"
for off
for some at 0.0
for skip x1
for gap at 0.1
for round x0
ask top = greatest worth
ask both = ((greatest worth then total ways) beside names told)
ask sorts = (each told (best 2 worth beside first))"""

# About faults; its way g is not live.
BEND = """signs ab
rows 1
pairs odd ab
numbers two 1 else 0 a 2
start s
lot s
way f(sign, s)
way g(sign, s) when odd 0 0
way e(none)
judge j number
for f max(0, x1)
for g x1
for e 0
judge k number
for f x1
for g max(x1, 1 - x1)
for e 1
judge p product
for f 1 + two[0] * x1
for g x1
for e 1
judge t text
for f at 0
for g x1
for e"""

# A code that fits FOLD for lengths 0 and 1.
LOOPS = """for v0 from 0 to 1
  for i0 from 0 to n0 - v0
    new fold
    if 1 - v0
      for e0.0 from i0 to i0
        look fold 0
    for e0.0 from 1 + i0 to i0 + v0
      for e0.1 from i0 + v0 to i0 + v0
        look fold 1"""


class Case(unittest.TestCase):
    """Compares kinds of values, too, and errors by their class and fields."""

    def same(self, got, want):
        self.assertEqual(got, want)
        # A list is no tuple, and True is not 1.
        self.assertEqual(repr(got), repr(want))

    def raises(self, error, function, *args, **named):
        with self.assertRaises(type(error)) as caught:
            function(*args, **named)
        self.assertIs(type(caught.exception), type(error))
        self.same(vars(caught.exception), vars(error))
