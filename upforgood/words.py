"""What lines of text say, as sessions and records read them: points 171 and 221.

What is read is returned as values; None stands for what has not the form.
"""

from upforgood.checks import is_ascending

DIGITS = "0123456789"
MOST_DIGITS = 13
MOST_DIGITS_OF_A_VALUE = 49


def line_in(line):
    """What a line says, as a tuple that begins with a word for its form."""
    if not isinstance(line, str):
        return None
    words = line.split(" ")
    reader = READERS.get(words[0])
    return None if reader is None else reader(words)


def said_in(text):
    """What is said by an entry, as the list of the tuples (end, say)."""
    if text == "nothing":
        return []
    said = []
    for part in text.split(", "):
        words = part.split(" ")
        end = number_in(words[0])
        say = _say_in(words[1:])
        if end is None or end == 0 or say is None:
            return None
        said.append((end, say))
    return said


def row_in(line):
    """A row of a table, as a tuple of its key and its value."""
    head, mark, told = line.partition(" says ")
    says = () if mark == "" else _says_in(told)
    head, mark, told = head.partition(" sends ")
    sends = () if mark == "" else _sends_in(told)
    row = _bare_row_in(head.split(" "))
    if row is None or sends is None or says is None:
        return None
    standing, event, behind = row
    return ((standing, event), (behind, sends, says))


def number_in(word, most=MOST_DIGITS):
    """The number that a word of at most so many digits is."""
    if word == "" or len(word) > most or not all([sign in DIGITS for sign in word]):
        return None
    if word[0] == "0" and word != "0":
        return None
    return int(word)


def _numbers_in(words, low):
    """The tuple of the numbers, from low on, that one word or more are."""
    numbers = [number_in(word) for word in words]
    if numbers == [] or None in numbers or min(numbers) < low:
        return None
    return tuple(numbers)


def _one_in(words, low):
    return _only(_numbers_in(words, low))


def _only(numbers):
    return None if numbers is None or len(numbers) != 1 else numbers[0]


def _parts_in(words, marks):
    """The words behind each of the marks, which stand in this order, the first one ahead of all."""
    parts = []
    for word in words:
        if len(parts) < len(marks) and word == marks[len(parts)]:
            parts.append([])
        elif parts == []:
            return None
        else:
            parts[-1].append(word)
    return parts if len(parts) == len(marks) else None


def _ends_in(words):
    ends = _one_in(words[1:], 0)
    return None if ends is None else ("ends", ends)


def _line_of_a_tree_in(words):
    sort, many = ("letters", 2) if "letters" in words else ("wires", 1)
    parts = _parts_in(words, ["line", sort])
    if parts is None:
        return None
    pair, counts = _numbers_in(parts[0], 1), _numbers_in(parts[1], 0)
    if pair is None or counts is None or len(pair) != 2 or len(counts) != many or pair[0] >= pair[1]:
        return None
    return ("line", pair[0], pair[1], (sort,) + counts)


def _step_in(words):
    may_end = words[-2:] == ["or", "end"]
    last = "answers" if words[0] == "ask" else "then"
    parts = _parts_in(words[:-2] if may_end else words, [words[0], "to", "of", last])
    if parts is None:
        return None
    speaker, hearers, many = _one_in(parts[0], 1), _numbers_in(parts[1], 1), _numbers_in(parts[2], 0)
    many = many if words[0] == "deal" else _only(many)
    behind = _numbers_in(parts[3], 0) if words[0] == "ask" else _going_on_in(parts[3])
    if speaker is None or hearers is None or many is None or behind is None:
        return None
    if not is_ascending(hearers):
        return None
    return ("step", (words[0], speaker, hearers, many, behind, may_end))


def _going_on_in(words):
    return 0 if words == ["nobody"] else _one_in(words, 1)


def _hand_in(words):
    value = number_in(words[1], MOST_DIGITS_OF_A_VALUE) if len(words) == 2 else None
    return None if value is None else ("hand", value)


def _answer_in(words):
    numbers = _numbers_in(words[1:], 0)
    if numbers is None or len(numbers) != 2 or numbers[0] == 0:
        return None
    return ("answer",) + numbers


def _give_in(words):
    numbers = _numbers_in(words[1:], 1)
    return None if numbers is None or len(numbers) != 3 else ("give",) + numbers


def _bare_in(words):
    return (words[0],) if len(words) == 1 else None


def _bare_row_in(words):
    word = "comes" if "comes" in words else "handed"
    parts = _parts_in(words, ["at", word, "goes"])
    if parts is None:
        return None
    standing, event, behind = _one_in(parts[0], 0), _event_in(word, parts[1]), _one_in(parts[2], 0)
    if standing is None or event is None or behind is None:
        return None
    return (standing, event, behind)


def _event_in(word, words):
    if word == "handed":
        value = number_in(words[0], MOST_DIGITS_OF_A_VALUE) if len(words) == 1 else None
        return None if value is None else ("handed", value)
    numbers = _numbers_in(words, 0)
    return None if numbers is None or len(numbers) != 2 else ("comes",) + numbers


def _sends_in(text):
    sends = [_numbers_in(part.split(" "), 0) for part in text.split(", ")]
    return tuple(sends) if all([send is not None and len(send) == 2 for send in sends]) else None


def _says_in(text):
    says = [_say_in(part.split(" ")) for part in text.split(", ")]
    return None if None in says else tuple(says)


def _say_in(words):
    if words == ["done"]:
        return ("done",)
    if words == ["decides", "end"]:
        return ("decides", "end")
    if words[:1] == ["decides"] and len(words) == 2:
        value = number_in(words[1], MOST_DIGITS_OF_A_VALUE)
        return None if value is None else ("decides", value)
    if words[:1] == ["answers"]:
        answers = _numbers_in(words[1:], 0)
        return None if answers is None else ("answers", answers)
    return None


READERS = {
    "ends": _ends_in,
    "line": _line_of_a_tree_in,
    "tell": _step_in,
    "deal": _step_in,
    "ask": _step_in,
    "keep": _bare_in,
    "start": _bare_in,
    "hand": _hand_in,
    "answer": _answer_in,
    "give": _give_in,
    "calm": _bare_in,
    "show": _bare_in,
}
