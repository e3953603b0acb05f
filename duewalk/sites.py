"""Sites: their texts, turned sites, and sites with other limits."""

from duewalk.errors import InvalidText, NoWay

MOST_PLACES = 6
LONGEST_NAME = 8
MOST_LIMIT = 9
MOST_STEPS = 3
LIMIT_WORDS = ("0", "1", "2", "3", "4", "5", "6", "7", "8", "9")
STEP_WORDS = ("1", "2", "3")


class Site:
    """Places in order, with their limits, whether one may stay there, and their ways."""

    def __init__(self, names, limits, stays, ways):
        self.names = tuple(names)
        self.limits = tuple(limits)
        self.stays = tuple(stays)
        self.ways = tuple([tuple(row) for row in ways])

    @staticmethod
    def parse(text):
        """The site of a text, which may be any value; raises InvalidText(row)."""
        if not isinstance(text, str):
            raise InvalidText(0)
        # Only a single blank parts two words: a blank too many leaves an empty word, which is never right.
        rows = [row.split(" ") for row in text.split("\n")]
        places = _places_of(rows)
        return Site(
            [words[0] for words in rows],
            [limit for limit, _, _ in places],
            [stay for _, stay, _ in places],
            [ways for _, _, ways in places],
        )

    def __str__(self):
        return "\n".join([_row_text(self, number) for number in range(len(self.names))])

    def __eq__(self, other):
        return (
            isinstance(other, Site)
            and self.names == other.names
            and self.limits == other.limits
            and self.stays == other.stays
            and self.ways == other.ways
        )


def turned(site):
    """The site with each way leading back; raises NoWay(place)."""
    ways = []
    for name, stay in zip(site.names, site.stays):
        back = _ways_back(site, name)
        if not stay and not back:
            raise NoWay(name)
        ways.append(back)
    return Site(site.names, site.limits, site.stays, ways)


def with_limits(site, limits):
    """The site with other limits."""
    return Site(site.names, limits, site.stays, site.ways)


def is_name(word):
    """Whether a string has the form of a name."""
    return 1 <= len(word) <= LONGEST_NAME and all(["a" <= letter <= "z" for letter in word])


def _places_of(rows):
    """For each row, given as its words, (limit, stay, ways); raises InvalidText(row)."""
    # Any row counts here, right or not: it is the first word alone that a way may name.
    firsts = {words[0]: True for words in rows}
    seen = {}
    places = []
    for number, words in enumerate(rows):
        place = _place_of(words, firsts)
        if number >= MOST_PLACES or place is None or words[0] in seen:
            raise InvalidText(number)
        seen[words[0]] = True
        places.append(place)
    return places


def _place_of(words, firsts):
    """(limit, stay, ways) of a row of words, None if the row is not right by itself."""
    if len(words) < 3 or not is_name(words[0]) or words[1] not in LIMIT_WORDS:
        return None
    stay = words[2] == "stay"
    rest = words[3:] if stay else words[2:]
    # Without staying there are words left, so that a way at least is asked.
    if rest and not _are_ways(words[0], rest, firsts):
        return None
    ways = [(rest[at], int(rest[at + 1])) for at in range(1, len(rest), 2)]
    return int(words[1]), stay, ways


def _are_ways(name, words, firsts):
    """Whether words are the ways of a place, with the sign ahead of them."""
    if words[0] != "->" or len(words) < 3 or len(words) % 2 == 0:
        return False
    ends = words[1::2]
    return (
        all([end != name and end in firsts and is_name(end) for end in ends])
        and all([first < second for first, second in zip(ends, ends[1:])])
        and all([steps in STEP_WORDS for steps in words[2::2]])
    )


def _row_text(site, number):
    words = [site.names[number], str(site.limits[number])]
    if site.stays[number]:
        words.append("stay")
    if site.ways[number]:
        words.append("->")
    for end, steps in site.ways[number]:
        words.append(end)
        words.append(str(steps))
    return " ".join(words)


def _ways_back(site, name):
    """The ways from a place in the turned site, by the names of their ends."""
    back = []
    for start, ways in zip(site.names, site.ways):
        back.extend([(start, steps) for end, steps in ways if end == name])
    return sorted(back)
