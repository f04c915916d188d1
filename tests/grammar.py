"""The grammar of point 2.1 as rules, and a slow reader of any grammar, to compare the parser with.

The reader is Earley's: it knows for each token whether any text of the grammar goes on with it.
"""

# Every right side is a list of symbols; what is no left side is the key of a token: the value of a
# word or a sign, or the kind of another token. The first right side is a short one. Where return
# may stand, names end in an @.
TEXT = """
module = | module item
item = import string ; | import * as name from string ; | import pairs from string ;
item = export * from string ; | export pairs ; | export pairs from string ; | export let_ | export function
item = statement
pairs = { } | { somepairs }
somepairs = pair | somepairs , pair
pair = name | name as name
let_ = let name = e ;
function = fun name parameters block@
parameters = ( ) | ( names )
names = name | names , name
block = { } | { statements }
block@ = { } | { statements@ }
statements = statement | statements statement
statements@ = statement@ | statements@ statement@
statement = either | if e block | if e block else block | repeat e block
statement = try block catch name block | block
statement@ = either | if e block@ | if e block@ else block@ | repeat e block@
statement@ = try block@ catch name block@ | block@ | return e ;
either = let_ | function | name = e ; | tell e ; | throw e ; | e ;
e = both | e or both
both = plain | both and plain
plain = sum | not plain | sum < sum | sum == sum
sum = product | sum + product | sum - product
product = called | product * called
called = primary | called ( ) | called ( some )
some = e | some , e
primary = number | true | false | none | ask ( e ) | fun parameters block@ | ( e ) | name | name . name
"""


def rules():
    """Return a dict from the left sides to the lists of their right sides."""
    found = {}
    for row in TEXT.strip().splitlines():
        left, _, right = row.partition(" = ")
        for side in right.split("|"):
            found.setdefault(left, []).append(tuple(side.split()))
    return found


RULES = rules()


def first_misfit(keys):
    """Return the index of the first key that does not fit, len(keys) if more must follow, or None."""
    chart = [grown({("module", side, 0, 0) for side in RULES["module"]}, [], 0)]
    for index, key in enumerate(keys):
        moved = {
            (left, side, dot + 1, start)
            for left, side, dot, start in chart[index]
            if dot < len(side) and side[dot] == key
        }
        if not moved:
            return index
        chart.append(grown(moved, chart, index + 1))
    for left, side, dot, start in chart[-1]:
        if left == "module" and dot == len(side) and start == 0:
            return None
    return len(keys)


def grown(states, chart, index):
    """Return the states with all that they predict and complete."""
    found = set()
    work = list(states)
    empty = set()
    while work:
        state = work.pop()
        if state in found:
            continue
        found.add(state)
        left, side, dot, start = state
        if dot < len(side):
            if side[dot] in RULES:
                work.extend((side[dot], other, 0, index) for other in RULES[side[dot]])
                if side[dot] in empty:
                    work.append((left, side, dot + 1, start))
            continue
        if start == index:
            empty.add(left)
        before = found if start == index else chart[start]
        work.extend(
            (name, other, at + 1, begin)
            for name, other, at, begin in list(before)
            if at < len(other) and other[at] == left
        )
    return found
