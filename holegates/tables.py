"""Tables: a sign for each setting of none to eight places, at its number."""

from holegates.checks import are_signs, first_twice, is_sign, is_within
from holegates.errors import BadNumber, BadTable, BadText, Misfit, NoPlace, Twice

MOST_PLACES = 8
SIZES = (1, 2, 4, 8, 16, 32, 64, 128, 256)


def is_table(value):
    """Whether any value is a table."""
    return are_signs(value) and len(value) in SIZES


def need_table(value, part):
    """Raises BadTable with this part for what is no table."""
    if not is_table(value):
        raise BadTable(part)


def places_of(table):
    """How many places the table has."""
    need_table(table, "table")
    return count_places(table)


def count_places(table):
    """As places_of, for what surely is a table."""
    return len(table).bit_length() - 1


def row_of(setting):
    """The number of the setting."""
    _need_setting(setting)
    return told_in_twos(setting)


def told_in_twos(signs):
    """What the signs tell in twos, the first one counting most."""
    number = 0
    for sign in signs:
        number = 2 * number + sign
    return number


def setting_told(places, number):
    """As setting_of, for any number of places and a number that surely fits."""
    return tuple([(number >> (places - 1 - place)) & 1 for place in range(places)])


def setting_of(places, row):
    """The setting of so many places that has this number."""
    if not is_within(places, 0, MOST_PLACES):
        raise BadNumber("places")
    if not is_within(row, 0, (1 << places) - 1):
        raise BadNumber("row")
    return setting_told(places, row)


def sign_at(table, setting):
    """The sign of the table at the setting."""
    need_table(table, "table")
    _need_setting(setting)
    if len(setting) != count_places(table):
        raise Misfit("places")
    return table[told_in_twos(setting)]


def contrary(table):
    """The table with each sign turned."""
    need_table(table, "table")
    return tuple([1 - sign for sign in table])


def both(one, other):
    """1 where both tables are."""
    _need_two(one, other)
    return tuple([first & second for first, second in zip(one, other)])


def either(one, other):
    """1 where one of the tables at least is."""
    _need_two(one, other)
    return tuple([first | second for first, second in zip(one, other)])


def unlike(one, other):
    """1 where just one of the tables is."""
    _need_two(one, other)
    return tuple([first ^ second for first, second in zip(one, other)])


def follows(one, other):
    """Whether other follows from one: is 1 wherever one is."""
    _need_two(one, other)
    return all([first <= second for first, second in zip(one, other)])


def with_sign(table, place, sign):
    """The table of the other places, this one having the sign."""
    _need_place(table, place)
    if not is_sign(sign):
        raise BadNumber("sign")
    return _half(table, place, sign)


def for_some(table, place):
    """What is left if the place is struck: 1 where the table is for one sign at least."""
    _need_place(table, place)
    return either(_half(table, place, 0), _half(table, place, 1))


def for_all(table, place):
    """What is left if the place is struck: 1 where the table is for both signs."""
    _need_place(table, place)
    return both(_half(table, place, 0), _half(table, place, 1))


def hangs_on(table):
    """The lot of places that the table hangs on."""
    need_table(table, "table")
    places = range(count_places(table))
    return tuple([place for place in places if _half(table, place, 0) != _half(table, place, 1)])


def in_order(table, order):
    """The table with its places in another order: place k is the old place order[k]."""
    need_table(table, "table")
    _need_unlike_places(table, order)
    places = count_places(table)
    if len(order) != places:
        raise Misfit("places")
    weights = [_weight(table, place) for place in order]
    settings = [setting_of(places, row) for row in range(len(table))]
    return tuple([table[_weighed(setting, weights)] for setting in settings])


def put_in(table, tables):
    """The table at the signs that the tables have, a table for each of its places."""
    need_table(table, "table")
    if not isinstance(tables, (list, tuple)) or not all([is_table(inner) for inner in tables]):
        raise BadTable("tables")
    if len(tables) != count_places(table) or any([len(inner) != len(tables[0]) for inner in tables]):
        raise Misfit("places")
    if not tables:
        return tuple(table)
    return tuple([table[told_in_twos(signs)] for signs in zip(*tables)])


def table_text(table):
    """The signs of the table without blanks."""
    need_table(table, "table")
    return "".join([str(sign) for sign in table])


def read_table(text):
    """The table that has this text."""
    if not isinstance(text, str):
        raise BadText(0, 0)
    first, *rest = text.split(" ")
    table = table_told(first)
    if table is None:
        raise BadText(0, 0)
    if rest:
        raise BadText(0, 1)
    return table


def table_told(item):
    """The table that has this string as its text, None if there is none."""
    # Not int(..) alone: it reads digits of other scripts, too.
    if not all([sign in "01" for sign in item]):
        return None
    table = tuple([int(sign) for sign in item])
    return table if is_table(table) else None


# What has a sign in each of many settings can be told as one integer: the bit of a setting, at its
# number, is the sign there. So one step works on all of them.


def all_bits(places):
    """1 in all settings of so many places."""
    return (1 << (1 << places)) - 1


def bits_of_place(places, place):
    """1 in the settings of so many places in which this place is 1."""
    # In turns so many settings have 0 there and so many have 1.
    many = 1 << (places - 1 - place)
    return (all_bits(places) // ((1 << many) + 1)) << many


def bits_picked(worths, sources):
    """In each setting the sign of one of the worths: of that with the number which the sources have there."""
    left = worths
    for bits in reversed(sources):
        left = [zero ^ ((zero ^ one) & bits) for zero, one in zip(left[::2], left[1::2])]
    return left[0]


def count_bits(bits):
    """In how many settings there is 1."""
    told = f"{bits:b}"
    return told.count("1")


def least_bit(bits):
    """The number of the first setting in which there is 1, if there is one."""
    return (bits & -bits).bit_length() - 1


def _need_setting(setting):
    if not are_signs(setting) or len(setting) > MOST_PLACES:
        raise BadNumber("setting")


def _need_two(one, other):
    need_table(one, "one")
    need_table(other, "other")
    if len(one) != len(other):
        raise Misfit("places")


def _need_place(table, place):
    need_table(table, "table")
    if not is_within(place, 0, count_places(table) - 1):
        raise NoPlace(place)


def _need_unlike_places(table, order):
    if not isinstance(order, (list, tuple)):
        raise NoPlace(order)
    for place in order:
        _need_place(table, place)
    twice = first_twice(order)
    if twice is not None:
        raise Twice(twice)


def _weight(table, place):
    return 1 << (count_places(table) - 1 - place)


def _weighed(setting, weights):
    return sum([weight for sign, weight in zip(setting, weights) if sign])


def _half(table, place, sign):
    # The other places count as much, one against another, as before: so the signs stay in order.
    weight = _weight(table, place)
    kept = weight if sign else 0
    return tuple([table[row] for row in range(len(table)) if (row & weight) == kept])
