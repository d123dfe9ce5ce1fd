"""A second way to decide a question, for comparison: word by word, over a bare list of entries.

It shares no code with the program: it reads the words of a text from the left
without parsing them first, and looks for what stands as point 8 says it.
"""

LIMIT = 10 ** 15


class Stopped(Exception):
    pass


def stand(entries, at, known):
    if entries[at][0] == "strike" or entries[at][1] > known:
        return False
    strikes = [entry for entry in entries if entry[0] == "strike" and entry[1] <= known]
    return at not in [entry[2] for entry in strikes]


def speaking(entries, question):
    person, _, day, known = question
    found = []
    for at, entry in enumerate(entries):
        if stand(entries, at, known) and day in range(*entry[-1]):
            if entry[0] == "enact" or entry[2] == person:
                found.append(at)
    return found


class Second:
    def __init__(self, entries, question):
        self.entries = entries
        self.speaking = speaking(entries, question)
        self.dossier = []
        self.reading = []

    def last(self, kind, name):
        place = {"rule": ("enact", 2), "fact": ("report", 3)}[kind]
        found = [at for at in self.speaking if self.entries[at][0] == place[0] and self.entries[at][place[1]] == name]
        return max(found, default=None)

    def look(self, kind, name):
        if len(self.dossier) >= 100:
            raise Stopped("long", name)
        self.dossier.append((kind, name, self.last(kind, name)))
        return self.last(kind, name)

    def rule(self, name):
        if name in self.reading:
            raise Stopped("circle", name)
        if len(self.reading) >= 6:
            raise Stopped("deep", name)
        at = self.look("rule", name)
        if at is None:
            raise Stopped("none", name)
        self.reading = self.reading + [name]
        amount = self.amount(self.entries[at][3].split(), True)
        self.reading = self.reading[:-1]
        return amount

    # Each of these takes its words off the front of the list; where it is not
    # live, it only takes them.

    def amount(self, words, live):
        word = words.pop(0)
        if word == "fact":
            return self.fact(words, live)
        if word == "due":
            name = words.pop(0)
            return self.rule(name) if live else 0
        if word == "if":
            test = self.test(words, live)
            left = self.amount(words, live and test)
            right = self.amount(words, live and not test)
            return left if test else right
        if word in ("plus", "minus", "times", "least", "most", "percent"):
            left = self.amount(words, live)
            right = self.amount(words, live)
            return self.make(word, left, right) if live else 0
        return int(word)

    def fact(self, words, live):
        name = words.pop(0)
        at = self.look("fact", name) if live else None
        found = 0 if at is None else self.entries[at][4]
        if words[:1] == ["or"]:
            words.pop(0)
            other = self.amount(words, live and at is None)
            return other if at is None else found
        if live and at is None:
            raise Stopped("missing", name)
        return found

    def make(self, word, left, right):
        if word == "least":
            return sorted([left, right])[0]
        if word == "most":
            return sorted([left, right])[1]
        found = {"plus": left + right, "minus": left - right, "times": left * right}
        found["percent"] = (left * right - left * right % 100) // 100
        if abs(found[word]) > LIMIT:
            raise Stopped("large", self.reading[-1])
        return found[word]

    def test(self, words, live):
        word = words.pop(0)
        if word == "known":
            name = words.pop(0)
            return live and self.look("fact", name) is not None
        if word == "not":
            return not self.test(words, live)
        if word in ("both", "either"):
            first = self.test(words, live)
            second = self.test(words, live and first == (word == "both"))
            return (first and second) if word == "both" else (first or second)
        left = self.amount(words, live)
        right = self.amount(words, live)
        return left < right if word == "below" else left == right


def decide_second(entries, question):
    reading = Second(entries, question)
    try:
        return ("amount", reading.rule(question[1])), reading.dossier
    except Stopped as stopped:
        return stopped.args, reading.dossier


def total_second(entries, claim, known):
    """The total, day by day."""
    person, rule, span = claim
    found = 0
    for day in range(*span):
        decision = decide_second(entries, (person, rule, day, known))[0]
        if decision[0] != "amount":
            return "stopped", day, decision
        found += decision[1]
    return "total", found


# Random books and texts, the same in every run: the caller passes a seeded source.

PERSONS = ["ann", "bob"]
FACTS = ["age", "kids", "base"]
RULES = ["base", "more", "rest", "last", "a", "b", "c", "d", "e"]
NUMBERS = [0, 1, 2, 3, -1, -7, 100, 999999999, -999999999]
DAYS = 8
PAIRS = ["plus", "minus", "times", "least", "most"]


def random_amount(source, room, rules):
    """Words of an expression, of about as many words as there is room for, that asks for these rules."""
    if room < 3:
        word = source.choice(["number", "fact", "due"])
    else:
        word = source.choice(["fact"] + PAIRS + PAIRS + ["percent", "if", "if"])
    if word == "number" or word == "due" and not rules:
        return [str(source.choice(NUMBERS))]
    if word == "fact":
        other = ["or"] + random_amount(source, room - 3, rules) if source.random() < 0.8 else []
        return ["fact", source.choice(FACTS)] + other
    if word == "due":
        return ["due", source.choice(rules)]
    if word == "percent":
        return ["percent", str(source.choice([0, 1, 33, 50, 150, 1000]))] + random_amount(source, room - 2, rules)
    if word == "if":
        words = ["if"] + random_test(source, room // 2, rules)
        return words + random_amount(source, room // 4, rules) + random_amount(source, room // 4, rules)
    return [word] + random_amount(source, room // 2, rules) + random_amount(source, room // 2, rules)


def random_test(source, room, rules):
    word = source.choice(["known", "below", "same", "not", "both", "either"])
    if room < 4 or word == "known":
        return ["known", source.choice(FACTS)]
    if word == "not":
        return ["not"] + random_test(source, room - 1, rules)
    if word in ("both", "either"):
        return [word] + random_test(source, room // 2, rules) + random_test(source, room // 2, rules)
    return [word] + random_amount(source, room // 2, rules) + random_amount(source, room // 2, rules)


def random_span(source):
    first = source.randrange(DAYS)
    return first, source.randrange(first + 1, DAYS + 1)


def random_enactment(source, came, rule, span):
    # Mostly a rule asks for later ones, so that not every reading ends in a circle.
    later = RULES[RULES.index(rule) + 1:]
    rules = RULES if source.random() < 0.1 else later[:3]
    words = random_amount(source, source.choice([2, 4, 8, 16]), rules)
    while len(words) > 40:
        words = random_amount(source, 8, rules)
    return "enact", came, rule, " ".join(words), span


def random_report(source, came):
    value = source.choice([0, 1, 2, 40, -3, 999999999])
    return "report", came, source.choice(PERSONS), source.choice(FACTS), value, random_span(source)


def random_entries(source, many):
    """Entries that a book takes: some rules in force from the first day on, and many more entries."""
    lasting = RULES[:source.choice([0, 4, len(RULES), len(RULES)])]
    entries = [random_enactment(source, 0, rule, (0, DAYS)) for rule in lasting]
    unstruck, came = list(range(len(entries))), 0
    for at in range(len(entries), len(entries) + many):
        came = min(came + source.choice([0, 0, 1]), DAYS - 1)
        kind = source.choice(["report", "report", "report", "enact", "strike"])
        if kind == "strike" and unstruck:
            entries.append(("strike", came, unstruck.pop(source.randrange(len(unstruck)))))
            continue
        unstruck.append(at)
        if kind == "report":
            entries.append(random_report(source, came))
        else:
            entries.append(random_enactment(source, came, source.choice(RULES), random_span(source)))
    return entries


def random_claim(source):
    return source.choice(PERSONS), source.choice(RULES[:4]), random_span(source)


def random_question(source):
    return source.choice(PERSONS), source.choice(RULES[:4]), source.randrange(DAYS), source.randrange(DAYS)
