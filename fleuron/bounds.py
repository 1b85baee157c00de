"""Tables of heights and steps, which show that a hint program ends without an error."""

from fleuron.errors import NoTable
from fleuron.machine import MOST_CALLS, MOST_ROUNDS, MOST_VALUES, kept_code
from fleuron.words import CALLS, JUMPS, WORDS

MOST_STEPS = 4096
MAIN = -1


def judge_table(code, costs, table):
    """Return the cost of a table if it is accepted, otherwise None."""
    if not begins_and_ends(code, table):
        return None
    steps = kept_code(code)
    need = peak = 0
    for at in range(len(steps)):
        if table[at] is not None:
            way = way_on(steps, at, table[at], costs)
            if way is None or not is_followed(table, places_behind(steps, at), way):
                return None
            need = max(need, way[2])
            peak = max(peak, way[3])
    cost = (need, table[-1][0], peak, table[-1][1])
    return cost if need <= MOST_VALUES and peak <= MOST_VALUES and cost[3] <= MOST_STEPS else None


def judge_tables(program, tables):
    """Return the cost of main if the tables are accepted for the program, otherwise None."""
    if len(program.functions) > MOST_CALLS or len(tables) != len(program.functions) + 1:
        return None
    costs = []
    for code, table in zip(program.functions, tables):
        cost = judge_table(code, costs, table)
        if cost is None:
            return None
        costs.append(cost)
    cost = judge_table(program.main, costs, tables[-1])
    return cost if cost is not None and cost[0] == 0 else None


def make_tables(program):
    """Return the least tables of a program, that of main behind those of the functions."""
    if len(program.functions) > MOST_CALLS:
        raise NoTable(MOST_CALLS, 0)
    tables = []
    costs = []
    for number, code in enumerate(program.functions):
        table = least_table(code, costs, number, MOST_VALUES)
        tables.append(table)
        costs.append(judge_table(code, costs, table))
    return tables + [least_table(program.main, costs, MAIN, 0)]


def begins_and_ends(code, table):
    """Return True if a table has an item for each place, the first and last ones pairs, and no steps below 0."""
    if len(table) != len(code) + 1 or table[0] is None or table[-1] is None:
        return False
    return table[0][0] == 0 and all([item is None or item[1] >= 0 for item in table])


def way_on(code, at, item, costs):
    """Return (height, steps, need, peak) of an instruction and all it calls, or None if it is not possible.

    The height and the steps are those behind it; need and peak are what it asks for at the height of its item.
    """
    word, number = code[at]
    if word not in WORDS or word in JUMPS and not 0 <= number < len(code) - at:
        return None
    takes, puts = WORDS[word]
    height, steps = item
    behind = height - takes + puts
    if word not in CALLS:
        return (behind, steps + 1, takes - height, behind)
    cost = cost_of(costs, number)
    if cost is None or word == "repeat" and cost[1] != 0:
        return None
    need, change, peak, longest = cost
    rounds = MOST_ROUNDS if word == "repeat" else 1
    # The function itself begins at the height `behind`, as a call puts nothing.
    peak_above = behind + max(change, peak)
    return (behind + change, steps + 1 + rounds * longest, max(takes - height, need - behind), peak_above)


def cost_of(costs, number):
    """Return the cost of a function, or None if it is missing."""
    return costs[number] if 0 <= number < len(costs) else None


def places_behind(code, at):
    """Return the places at which the machine can go on behind a possible instruction."""
    word, number = code[at]
    places = []
    if word != "jump":
        places.append(at + 1)
    if word in JUMPS:
        places.append(at + 1 + number)
    return places


def is_followed(table, places, way):
    """Return True if the items of the places have the height of the way, and at least its steps."""
    for place in places:
        item = table[place]
        if item is None or item[0] != way[0] or item[1] < way[1]:
            return False
    return True


def least_table(code, costs, function, most_need):
    """Return the least table of a list of instructions; raise NoTable where making it fails."""
    steps = kept_code(code)
    table = [(0, 0)] + [None] * len(steps)
    for at in range(len(steps)):
        if table[at] is not None:
            way = way_on(steps, at, table[at], costs)
            if way is None or not is_within(way, most_need):
                raise NoTable(function, at)
            for place in places_behind(steps, at):
                if table[place] is not None and table[place][0] != way[0]:
                    raise NoTable(function, at)
                table[place] = raised(table[place], way)
    return table


def is_within(way, most_need):
    """Return True if the way is within the limits of costs."""
    return way[2] <= most_need and way[3] <= MOST_VALUES and way[1] <= MOST_STEPS


def raised(item, way):
    """Return the item of a place to which the way leads, too."""
    least = 0 if item is None else item[1]
    return (way[0], max(least, way[1]))
