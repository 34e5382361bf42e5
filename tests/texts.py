"""What the tests of texts share: faults in lines, and another way to find the line that is at fault."""

import random
import re
import unittest

from orrery.errors import BadText

NUMBER = "(?:0|-?[1-9][0-9]{0,59})"
NAME = "[a-z0-9_]{1,12}"
SHAPES = {"body": 5, "stride": 1, "fineness": 1, "place": 6, "speed": 6, "burn": 8, "seen": 7, "claim": 1, "state": 12}
FIRST_NUMBER = {"orrery": 2, "craft": 2, "site": 2}
WORTHS = [0, 1, -1, 6, 7, 1000, 1001, 10 ** 5, 10 ** 5 + 1, 10 ** 6, 10 ** 6 + 1, 10 ** 12, 10 ** 12 + 1, 10 ** 15,
          10 ** 15 + 1, 10 ** 30, 10 ** 30 + 1, 10 ** 59, 10 ** 60]


def shaped(line):
    """The word of a line, its name if it has one, and its numbers; None if the line is badly formed."""
    word = line.split(" ")[0]
    if word in ("craft", "site"):
        form = f"{word} ({NAME})((?: {NUMBER}){{{2 if word == 'craft' else 3}}})"
    elif word in SHAPES:
        form = f"{word}()((?: {NUMBER}){{{SHAPES[word]}}})"
    else:
        return None
    found = re.fullmatch(form, line)
    return found and (word, found[1], [int(number) for number in found[2].split()])


def boxed(numbers, most=None):
    """True if pairs of low and high numbers make intervals within a bound."""
    pairs = list(zip(numbers[::2], numbers[1::2]))
    return all(low <= high for low, high in pairs) and (most is None or all(abs(n) <= most for n in numbers))


def alone(word, numbers):
    """True if the numbers of a line are within the bounds that do not hang on other lines."""
    if word == "body":
        mu, oblateness, a, b, n = numbers
        return 1 <= mu <= 10 ** 30 and 0 <= oblateness <= 10 ** 30 and 1 <= n <= 10 ** 6 and a * a + b * b == n * n
    if word == "site":
        return any(numbers) and max(map(abs, numbers)) <= 10 ** 15
    if word == "burn":
        return 0 <= numbers[0] < numbers[1] <= 10 ** 5 and boxed(numbers[2:], 10 ** 12)
    if word == "seen":
        return 0 <= numbers[0] <= 10 ** 5 and boxed(numbers[1:], 10 ** 15)
    if word in ("place", "speed"):
        return boxed(numbers, 10 ** 15)
    if word == "state":
        return boxed(numbers)
    if word == "craft":
        return 0 <= numbers[0] <= 10 ** 5 and 0 <= numbers[1] <= 10 ** 12
    low, high = {"stride": (1, 1000), "fineness": (0, 6), "claim": (0, 10 ** 60)}[word]
    return low <= numbers[0] <= high


def timely(rows, most):
    """True if the burns and sightings of one craft, whose rows these are, are in their orders and not too many."""
    times = [row[2][0] for row in rows[:1]]
    spans = [tuple(numbers[:2]) for word, _, numbers in rows if word == "burn"]
    seen = [numbers[0] for word, _, numbers in rows if word == "seen"]
    ends = times + [end for _, end in spans]
    return (all(end <= begin for end, (begin, _) in zip(ends, spans)) and sorted(set(seen)) == seen
            and all(at >= times[0] for at in seen) and max(len(spans), len(seen)) <= most)


def begins(lines, kind):
    """True if lines are the beginning of the text of a certificate or of contents, whatever follows."""
    if lines[:1] not in ([], ["orrery " + kind]):
        return False
    rows = [shaped(line) for line in lines[1:]]
    if not all(row and alone(row[0], row[2]) for row in rows):
        return False
    letters = "".join({"stride": "d", "seen": "e", "speed": "v", "state": "t", "site": "i"}.get(row[0], row[0][:2])
                      for row in rows)
    craft = "cr(?:$|pl(?:$|v(?:$|(?:bu)*e*)))"
    if kind == "certificate":
        form = f"bo(?:$|fi(?:$|{craft}(?:cl(?:cl|t)*)?))|"
        return bool(re.fullmatch(form, letters)) and timely(rows[2:], 10 ** 9) and counted(rows)
    form = f"bo(?:$|d(?:$|fi(?:$|(?:{craft})*i*)))|"
    starts = [k for k, row in enumerate(rows) if row[0] == "craft"] + [len(rows)]
    names = [[row[1] for row in rows if row[0] == word] for word in ("craft", "site")]
    return (bool(re.fullmatch(form, letters)) and all(timely(rows[a:b], 20) for a, b in zip(starts, starts[1:]))
            and all(sorted(set(told)) == told for told in names) and len(names[0]) <= 20 and len(names[1]) <= 10)


def counted(rows):
    """True if each claim has its states, the last one perhaps fewer."""
    left = 0
    for word, _, numbers in rows:
        if word == "state":
            left -= 1
        if left < 0 or word == "claim" and left > 0:
            return False
        if word == "claim":
            left = numbers[0]
    return True


def whole(lines, kind):
    """True if lines that are a beginning are a whole text."""
    words = [line.split(" ")[0] for line in lines]
    if kind == "contents":
        return len(lines) >= 4 and words[-1] not in ("craft", "place")
    claims = [k for k, word in enumerate(words) if word == "claim"]
    return bool(claims) and int(lines[claims[-1]].split(" ")[1]) == len(lines) - claims[-1] - 1


def fault(text, kind):
    """The line at fault, or None for a text that is one."""
    *lines, rest = text.split("\n")
    for many in range(1, len(lines) + 1):
        if not begins(lines[:many], kind):
            return many
    return None if rest == "" and whole(lines, kind) else len(lines) + 1


def misshapen(line):
    """Lines that faults of form make out of a line."""
    words = line.split(" ")
    first = FIRST_NUMBER.get(words[0], 1)
    yield from [" ".join(words[1:]), words[0] + " " + line, "", words[0], " " + line, line + " ", line + "\r",
                line + "\t"]
    yield from [line + "\u2028", "\ufeff" + line, line.upper(), words[0] + "x" + line[len(words[0]):], line[1:]]
    yield from [line + " 0", " ".join(words[:-1]), line.replace(" ", "\t", 1), line.replace(" ", "", 1)]
    for k in range(1, len(words)):
        yield " ".join(words[:k]) + "  " + " ".join(words[k:])
        yield " ".join(words[:k] + words[k + 1:])
        yield " ".join(words[:k] + [""] + words[k + 1:])
    for k in range(first, len(words)):
        word = words[k]
        sign, digits = ("-", word[1:]) if word[0] == "-" else ("", word)
        worse = [sign + "0" + digits, "+" + digits, "-0", "00", "--" + digits, "x", "1.0", "1_0", "1e3", "9" * 61,
                 "-" + "9" * 61]
        worse += [sign + "\u0661", sign + "\uff11", word + "\u00b2", "\u2212" + digits, word + "\x0b", word + "\r"]
        for other in worse:
            yield " ".join(words[:k] + [other] + words[k + 1:])


def mangled(text, seed, many):
    """Texts made out of a text by one or two changes, most of them at fault."""
    rng = random.Random(seed)
    for _ in range(many):
        lines = text.split("\n")[:-1]
        for _ in range(rng.choice([1, 1, 2])):
            change = rng.randrange(9)
            k, j = rng.randrange(len(lines)), rng.randrange(len(lines))
            if change == 0 and len(lines) > 1:
                del lines[k]
            elif change == 1:
                lines.insert(k, lines[j])
            elif change == 2:
                lines[k], lines[j] = lines[j], lines[k]
            elif change == 3:
                lines.insert(k, lines[k])
            elif change == 4:
                lines = lines[:k + 1]
            else:
                words = lines[k].split(" ")
                at = rng.randrange(len(words))
                if re.fullmatch(NUMBER, words[at]):
                    near = int(words[at]) + rng.choice([-1, 1])
                    words[at] = str(rng.choice([near, near, rng.choice(WORTHS), -rng.choice(WORTHS)]))
                lines[k] = " ".join(words)
        told = "".join([line + "\n" for line in lines])
        cut = rng.randrange(len(told) + 1)
        yield told
        yield told[:cut]
        yield told[:cut] + told[cut + 1:]
        yield told[:cut] + rng.choice("0 \n-x9") + told[cut:]


def joined(lines):
    return "".join([line + "\n" for line in lines])


class ReaderTest(unittest.TestCase):
    """The reader `read` of texts of a kind, that `write` writes; `lines` are those of a text that is read."""

    kind, lines = "", []

    def read(self, text):
        raise NotImplementedError

    def write(self, told):
        raise NotImplementedError

    def refused(self, text, line):
        with self.assertRaises(BadText) as caught:
            self.read(text)
        self.assertEqual(caught.exception.line, line, text)

    def taken(self, text):
        self.assertEqual(self.write(self.read(text)), text)

    def with_line(self, number, line):
        """The text with another line, of a number counted from 1."""
        return joined(self.lines[:number - 1] + [line] + self.lines[number:])

    def line_refused(self, number, *lines):
        for line in lines:
            self.refused(self.with_line(number, line), number)

    def line_taken(self, number, *lines):
        for line in lines:
            self.taken(self.with_line(number, line))

    def box_bounds(self, number, word, most):
        """The line of a number is `word` and a box; the numbers of this go from -most to most."""
        self.line_taken(number, word + f" {-most} {most}" * 3, word + f" {most} {most}" * 3, word + " -5 -5" * 3)
        for k in range(3):
            for bad in (f" {-most - 1} 0", f" 0 {most + 1}", " 1 0", f" {most + 1} {most + 1}"):
                pairs = [" 0 0"] * 3
                pairs[k] = bad
                self.line_refused(number, word + "".join(pairs))

    def faults_of_form(self):
        for number, line in enumerate(self.lines, 1):
            self.line_refused(number, *misshapen(line))

    def ends_within_a_line(self):
        for many, line in enumerate(self.lines):
            for k in (1, len(line) // 2, line.rfind(" "), line.rfind(" ") + 1, len(line) - 1, len(line)):
                self.refused(joined(self.lines[:many]) + line[:k], many + 1)

    def other_line_ends(self):
        for end in ("\r\n", "\r", "\u2028", "\x0b", "\n\n"):
            self.refused(joined(self.lines).replace("\n", end), 1 + (end == "\n\n"))
        self.refused("\n" + joined(self.lines), 1)

    def another_way(self, seed):
        """Reads texts most of which are at fault, against another way to find the line."""
        text = joined(self.lines)
        accepted = 0
        for told in [text, *mangled(text, seed, 1500)]:
            line = fault(told, self.kind)
            if line is None:
                accepted += 1
                self.taken(told)
            else:
                self.refused(told, line)
        self.assertGreater(accepted, 100)
