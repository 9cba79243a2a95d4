"""What the document says of parts and books, told again byte by byte and by trying all that there is."""

import itertools

GOING_ON = ("plain", "branch", "load", "align")
JUMPS = ("jump", "branch")


def bytes_of(part, machine, forms):
    """A list with the number of the row of each byte, and where each row begins."""
    short, _, long, far, _, load, _, word = machine
    sizes = {"far": far, "load": load, "word": word}
    line, begins = [], []
    for number, row in enumerate(part):
        begins.append(len(line))
        if row[0] == "align":
            while len(line) % row[1] != 0:
                line.append(number)
        elif row[0] in JUMPS:
            line.extend([number] * (short if number in forms else long))
        else:
            line.extend([number] * sizes.get(row[0], row[1]))
    return line, begins


def size_told(part, machine, forms):
    """The number of the bytes of the part."""
    return len(bytes_of(part, machine, forms)[0])


def between(begins, row, other):
    """The distance of two rows."""
    return max(begins[row], begins[other]) - min(begins[row], begins[other])


def unfit_told(part, machine, forms):
    """All short rows that do not fit."""
    begins = bytes_of(part, machine, forms)[1]
    return [row for row in forms if between(begins, row, part[row][1]) > machine[1]]


def word_for(part, begins, span, load):
    """The word that serves the load, or None, looked for from the load outwards."""
    for far in range(span + 1):
        for number, row in enumerate(part):
            if row[0] == "word" and row[1] == part[load][1] and between(begins, load, number) == far:
                return number
    return None


def unserved_told(part, machine, forms):
    """All loads that no word serves."""
    begins = bytes_of(part, machine, forms)[1]
    loads = [number for number, row in enumerate(part) if row[0] == "load"]
    return [load for load in loads if word_for(part, begins, machine[6], load) is None]


def jumps_of(part):
    """The numbers of all "jump" and "branch" rows."""
    return [number for number, row in enumerate(part) if row[0] in JUMPS]


def all_lists(members):
    """All lists of some of the members, each of them in or out."""
    lists = []
    for taken in itertools.product((False, True), repeat=len(members)):
        lists.append([member for member, is_taken in zip(members, taken) if is_taken])
    return lists


def all_forms(part):
    """All forms of the part."""
    return all_lists(jumps_of(part))


def fitting_told(part, machine):
    """All forms with which all short rows fit."""
    return [forms for forms in all_forms(part) if unfit_told(part, machine, forms) == []]


def least_told(part, machine):
    """The forms with which the part is laid, of all that there are."""
    jumps = jumps_of(part)
    ranks = []
    for forms in fitting_told(part, machine):
        long = [row for row in jumps if row not in forms]
        ranks.append((size_told(part, machine, forms), len(long), forms))
    return sorted(ranks)[0][2]


def grown_told(part, machine):
    """The forms and the chain, row by row."""
    long = []
    while True:
        forms = [row for row in jumps_of(part) if row not in long]
        unfit = unfit_told(part, machine, forms)
        if not unfit:
            return forms, long
        long.append(unfit[0])


def is_chain_told(part, machine, rows):
    """Whether the list of different rows is a chain."""
    for many, row in enumerate(rows):
        forms = [other for other in jumps_of(part) if other not in rows[:many]]
        if row not in unfit_told(part, machine, forms):
            return False
    return True


def helps_told(part, machine):
    """All (a, b) of which a helps b with some forms."""
    pairs = []
    for forms in all_forms(part):
        for a, b in itertools.permutations(forms, 2):
            others = [row for row in forms if row != a]
            if b in unfit_told(part, machine, forms) and b not in unfit_told(part, machine, others):
                pairs.append((a, b))
    return sorted(set(pairs))


class Row:
    """A row that knows its goal by itself, not by its number."""

    def __init__(self, row):
        self.row = row
        self.goal = None

    def numbered(self, line):
        """The row as a tuple, in this line of rows."""
        return (self.row[0], line.index(self.goal)) if self.goal else self.row


def with_words_told(part, placed):
    """The part with the words, put in from its end on, and the new numbers of its old rows."""
    old = [Row(row) for row in part]
    for one in old:
        if one.row[0] in JUMPS:
            one.goal = old[one.row[1]]
    line = list(old)
    for spot in range(len(part), 0, -1):
        new = [Row(("word", value)) for value in sorted(value for at, value in placed if at == spot)]
        if new and part[spot - 1][0] in GOING_ON:
            over = Row(("jump", None))
            over.goal = old[spot]
            new.insert(0, over)
        line[spot:spot] = new
    return tuple(one.numbered(line) for one in line), [line.index(one) for one in old]


def extents_told(book, machine, order, room):
    """(first, end) of each part, counted upwards."""
    told, address = [None] * len(book), 0
    for part in order:
        while address % 16 != 0:
            address += 1
        first = address
        address += size_told(book[part], machine, least_told(book[part], machine)) + room[part]
        told[part] = (first, address)
    return told


def with_islands_told(book, islands):
    """The book with the rows of the islands, put in one by one."""
    parts = [list(part) for part in book]
    for part, goal in islands:
        parts[part].append(("far", goal))
    return tuple(tuple(part) for part in parts)


def reach_told(extents, leap, part, other):
    """Whether the part reaches the other one."""
    (first, end), (first_too, end_too) = extents[part], extents[other]
    greater = end if end > end_too else end_too
    lesser = first if first < first_too else first_too
    return greater - lesser <= leap


def way_told(extents, leap, islands, part, goal):
    """The list of parts by which the part comes to the goal: all lists are tried, the shorter ones first."""
    posts = [at for at, to in islands if to == goal]
    for many in range(len(posts) + 1):
        for way in itertools.permutations(posts, many):
            stops = [part, *way, goal]
            if all(reach_told(extents, leap, here, there) for here, there in zip(stops, stops[1:])):
                return list(way)
    return None


def ways_told(book, machine, order, room, islands, goal):
    """The lists of all parts."""
    extents = extents_told(with_islands_told(book, islands), machine, order, room)
    return tuple(way_told(extents, machine[4], islands, part, goal) for part in range(len(book)))


def lost_told(book, machine, order, room, islands):
    """All (part, goal) of "far" rows that cannot come to their goals."""
    pairs = []
    for goal in range(len(book)):
        told = ways_told(book, machine, order, room, islands, goal)
        pairs.extend((part, goal) for part in range(len(book)) if ("far", goal) in book[part] and told[part] is None)
    return sorted(pairs)


def fewest_told(book, machine, order, room, pairs):
    """The first list of some of the pairs with which nothing is lost, of all that there are."""
    good = [some for some in all_lists(pairs) if not lost_told(book, machine, order, room, some)]
    return min(good, key=lambda some: (len(some), some), default=None)


def best_told(book, machine, room, pairs):
    """The order and the islands, of all that there are."""
    wanted = [(number, row[1]) for number, part in enumerate(book) for row in part if row[0] == "far"]
    sizes = [size_told(part, machine, least_told(part, machine)) for part in book]
    good = []
    for order in itertools.permutations(range(len(book))):
        for some in all_lists(pairs) if order[0] == 0 else []:
            extents, address = {}, 0
            for part in order:
                while address % 16 != 0:
                    address += 1
                islands = [pair for pair in some if pair[0] == part]
                extents[part] = (address, address + sizes[part] + machine[3] * len(islands) + room[part])
                address = extents[part][1]
            if all(way_told(extents, machine[4], some, part, goal) is not None for part, goal in wanted):
                good.append((len(some), list(order), some))
    return min(good)[1:] if good else None


def reserve_told(book, machine, edits):
    """The room and its reasons, part by part."""
    sizes = [size_told(part, machine, least_told(part, machine)) for part in book]
    room, reasons = [], []
    for number, size in enumerate(sizes):
        own = {at: part for at, (p, part) in enumerate(edits) if p == number}
        more = {at: size_told(part, machine, least_told(part, machine)) - size for at, part in own.items()}
        room.append(max([0, *more.values()]))
        reasons.append(min([at for at in more if more[at] == room[-1] > 0], default=None))
    return room, reasons


def some_rows(numbers, many, kinds, values=(1, 2), parts=1, size=9):
    """Some rows of these kinds that are a part, if there is no "align" beside more than 6 jumps."""
    words = []
    for at in range(many):
        word = numbers.one_of(kinds)
        # A "word" does not stand ahead of all rows either.
        if word == "word" and (at == 0 or words[-1] in GOING_ON) or word in GOING_ON and at == many - 1:
            word = "stop"
        words.append(word)
    goals = [at for at, word in enumerate(words) if word != "word"]
    makers = {
        "plain": lambda: (1 + numbers.below(size), numbers.below(1000)),
        "stop": lambda: (1 + numbers.below(size),),
        "jump": lambda: (numbers.one_of(goals),),
        "branch": lambda: (numbers.one_of(goals),),
        "far": lambda: (numbers.below(parts),),
        "load": lambda: (numbers.one_of(values),),
        "word": lambda: (numbers.one_of(values),),
        "align": lambda: (numbers.one_of((2, 4, 8, 16)),),
    }
    return tuple((word,) + makers[word]() for word in words)


def some_machine(numbers, reach=30, span=30):
    """Some machine whose reach and span are of the size of the parts."""
    short = 1 + numbers.below(4)
    return (
        short, numbers.below(reach), short + 1 + numbers.below(5), 1 + numbers.below(5), 60, 1 + numbers.below(5),
        numbers.below(span), 1 + numbers.below(8),
    )
