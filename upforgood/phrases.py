"""Lines of text, as sessions and records write them: points 171 and 221."""


def phrase(parts):
    """Words and numbers with a space between."""
    return " ".join([str(part) for part in parts])


def listed(phrases):
    return ", ".join(phrases)


def line_phrase(line):
    u, w, spec = line
    return phrase(("line", u, w) + spec)


def step_phrase(step):
    word, speaker, hearers, many, behind, may_end = step
    parts = [word, speaker, "to", phrase(hearers), "of", phrase(many) if word == "deal" else many]
    if word == "ask":
        parts.extend(["answers", phrase(behind)])
    else:
        parts.extend(["then", "nobody" if behind == 0 else behind])
    return phrase(parts + ["or end"]) if may_end else phrase(parts)


def row_phrase(key, deed):
    standing, event = key
    behind, sends, says = deed
    parts = ["at", standing, phrase(event), "goes", behind]
    if sends != ():
        parts.extend(["sends", listed([phrase(send) for send in sends])])
    if says != ():
        parts.extend(["says", listed([_say_phrase(say) for say in says])])
    return phrase(parts)


def said_phrase(said):
    """What is said by an entry, or that nothing is."""
    if said == []:
        return "nothing"
    return listed([phrase((end, _say_phrase(say))) for end, say in said])


def _say_phrase(say):
    if say[0] == "answers":
        return phrase(("answers",) + say[1])
    return phrase(say)
