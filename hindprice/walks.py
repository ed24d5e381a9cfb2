"""Walks through machines: the best ones, and the words that they spell."""

from hindprice.checks import is_number
from hindprice.errors import BadMachine, BadNumber, Misfit, TooMany
from hindprice.exact import greatest_of, levelled, product_of, sum_of_products
from hindprice.machines import MOST_STANDINGS, Machine
from hindprice.needs import need_days, need_goods, need_market, need_row, need_within, need_word
from hindprice.papers import Paper
from hindprice.promises import BestWalk
from hindprice.shapes import is_integers
from hindprice.steps import pays_of, shares_of, walk_worth_of
from hindprice.words import MOST_WORDS

MOST_WALKS = 5000


def need_machine(machine):
    """A machine."""
    if not isinstance(machine, Machine):
        raise BadMachine("machine")


def need_weighed(machine, weights):
    """A machine, and a weight for each of its standings."""
    need_machine(machine)
    need_row(weights, machine.many, "weights")


def is_walk_of(machine, value):
    """Whether any value is a walk of a machine."""
    if not is_integers(value, 0, machine.many - 1):
        return False
    return all([arrow in machine.arrows for arrow in zip(value, value[1:])])


def is_walk(machine, value):
    """Whether any value is a walk of a machine."""
    need_machine(machine)
    return is_walk_of(machine, value)


def rows_of(begun, onward, days, error):
    """All rows of so many signs, ascending; TooMany with the two fields of error.

    A sign stands beside what tells which signs may follow it. begun has these
    pairs for the first place, ascending, and onward tells those behind one.
    """
    if days == 0:
        return ((),)
    what, most = error
    found = []
    known = {}
    row = []
    waiting = [(0, *pair) for pair in begun[::-1]]
    while len(waiting) > 0:
        place, sign, behind = waiting.pop()
        del row[place:]
        row.append(sign)
        if len(row) < days:
            if behind not in known:
                known[behind] = onward(behind)[::-1]
            waiting.extend([(place + 1, *pair) for pair in known[behind]])
        elif len(found) == most:
            raise TooMany(what, most)
        else:
            found.append(tuple(row))
    return tuple(found)


def walks_of(machine, days):
    """All walks of so many standings, ascending."""
    need_machine(machine)
    need_days(days)
    begun = [(standing, standing) for standing in range(machine.many)]
    return rows_of(begun, lambda standing: [(end, end) for end in machine.nexts(standing)],
                   days, ("walks", MOST_WALKS))


def begins_of(weights):
    """The standings at which a walk may begin: those with a weight above 0."""
    return [standing for standing, weight in enumerate(weights) if weight != 0]


def ends_behind(machine, standings):
    """The standings to which arrows lead from some, ascending."""
    return [end for end in range(machine.many)
            if any([(standing, end) in machine.arrows for standing in standings])]


def met(machine, weights):
    """The standings that are met, ascending."""
    need_weighed(machine, weights)
    found = begins_of(weights)
    # A standing that is met is met behind fewer arrows than there are standings.
    for _ in range(machine.many):
        found = sorted(set([*found, *ends_behind(machine, found)]))
    return tuple(found)


def walk_worth(machine, weights, walk, market):
    """The worth of a walk at a market."""
    need_weighed(machine, weights)
    if not is_walk_of(machine, walk):
        raise BadNumber("walk")
    need_market(market, machine.goods, "market")
    if len(walk) != len(market):
        raise Misfit("walk")
    if len(walk) == 0:
        return greatest_of(weights)
    made = [sum_of_products(machine.mixes[standing], day) for standing, day in zip(walk, market)]
    return product_of([weights[walk[0]], *made])


class Walked(Paper):
    """A best walk, and its worth."""

    def __init__(self, walk, worth):
        Paper.__init__(self, "walked", walk, worth)
        self.walk, self.worth = self.parts


def need_walked(machine, weights, market):
    """A machine, weights for it, and a market of its goods."""
    need_weighed(machine, weights)
    need_market(market, machine.goods, "market")


def greatest_at(places, numbers):
    """The first of some places at which a list has its greatest integer."""
    best = places[0]
    for place in places:
        if numbers[place] > numbers[best]:
            best = place
    return best


def first_best(machine, weights, pays):
    """The first best walk by integers: its weights, and what standings are paid, day by day."""
    # Told from the end: a walk that goes on by what may still be made leads on
    # by arrows alone, also where nothing was made till then.
    made = []
    later = [1] * machine.many
    for row in pays[::-1]:
        later = [pay * max([later[end] for end in machine.nexts(standing)])
                 for standing, pay in enumerate(row)]
        made.append(later)
    if len(made) > 0:
        made[-1] = [weight * number for weight, number in zip(weights, made[-1])]
    walk = []
    places = list(range(machine.many))
    for row in made[::-1]:
        walk.append(greatest_at(places, row))
        places = machine.nexts(walk[-1])
    return tuple(walk)


def best_walk(machine, weights, market):
    """The Walked of the first best walk."""
    need_walked(machine, weights, market)
    tops, _ = levelled(weights)
    rows, _ = shares_of(machine)
    days = [levelled(day) for day in market]
    walk = first_best(machine, tops, [pays_of(rows, numbers) for numbers, _ in days])
    return Walked(walk, walk_worth_of(machine, weights, market))


def shows_best_walk(machine, weights, market, value):
    """Whether any value is the Walked of a best walk, with its worth."""
    need_walked(machine, weights, market)
    if not isinstance(value, Walked) or value.__class__.__name__ != "Walked":
        return False
    if not is_walk_of(machine, value.walk) or len(value.walk) != len(market):
        return False
    if not is_number(value.worth) or value.worth != walk_worth_of(machine, weights, market):
        return False
    return walk_worth(machine, weights, value.walk, market) == value.worth


def spelled(machine, weights, days):
    """All words of so many goods that walks spell, ascending."""
    need_weighed(machine, weights)
    need_days(days)
    begins = begins_of(weights)
    if len(begins) == 0:
        return ()
    # What follows in a word is told by the standings that may come next. From
    # each an arrow leads on, so no word that was begun comes to a dead end.
    return rows_of(goods_at(machine, begins), lambda standings: goods_at(machine, standings),
                   days, ("words", MOST_WORDS))


def goods_at(machine, standings):
    """The goods that may be spelled at some standings, each with those that may come behind it."""
    found = []
    for good in range(machine.goods):
        spelling = [standing for standing in standings if machine.mixes[standing][good] != 0]
        if len(spelling) > 0:
            found.append((good, tuple(ends_behind(machine, spelling))))
    return found


def signs_of(numbers):
    """1 for each number above 0, 0 for each other one."""
    return [0 if number == 0 else 1 for number in numbers]


def walk_for(machine, weights, word):
    """The first walk that spells a word, None without one."""
    need_weighed(machine, weights)
    need_word(word, machine.goods, "word")
    begins = signs_of(weights)
    if sum(begins) == 0:
        return None
    pays = [signs_of([mix[good] for mix in machine.mixes]) for good in word]
    walk = first_best(machine, begins, pays)
    for standing, row in zip(walk, pays):
        if row[standing] == 0:
            return None
    if len(walk) > 0 and begins[walk[0]] == 0:
        return None
    return walk


def switching(goods, changes):
    """The BestWalk that may be moved at most so many times from good to good."""
    need_goods(goods)
    need_within(changes, 0, None, "changes")
    many = goods * (changes + 1)
    if many > MOST_STANDINGS:
        raise TooMany("standings", MOST_STANDINGS)
    # At the standing s the coin lies in good s % goods, moved s // goods times.
    mixes = [[1 if standing % goods == good else 0 for good in range(goods)] for standing in range(many)]
    arrows = [(begin, end) for begin in range(many) for end in range(many)
              if begin == end or is_change(goods, begin, end)]
    return BestWalk(Machine(mixes, arrows), [1 if standing < goods else 0 for standing in range(many)])


def is_change(goods, begin, end):
    """Whether a standing is that of one more change, and of another good."""
    return end // goods == begin // goods + 1 and end % goods != begin % goods
