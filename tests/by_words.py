"""Second readings of the document, by its words and the long way round, that the tests hold the program against."""

CHECKS = ("none", "even", "odd")
LAST = 10 ** 18
MOST = 10 ** 12


def size_by_words(form):
    return form[0] + (2 if form[1] == "none" else 3)


def levels_by_words(form, word):
    """Point 5."""
    bits, check = form
    told = [int(sign) for sign in reversed(f"{word:0{bits}b}")]
    if check != "none":
        told.append((sum(told) + (check == "odd")) % 2)
    return [0] + told + [1]


def outcome_by_words(form, levels):
    """Point 6: the one word that has these levels, or why there is none."""
    word = sum(level << k for k, level in enumerate(levels[1:form[0] + 1]))
    right = levels_by_words(form, word)
    if levels[0] == 1:
        return ("broken", "start")
    if levels[:-1] != right[:-1]:
        return ("broken", "check")
    return ("word", word) if levels[-1] == 1 else ("broken", "stop")


def level_by_words(form, rate, speech, moment):
    """Point 9: the level of the line of a speech at a moment."""
    for begin, word in speech:
        if begin <= moment < begin + size_by_words(form) * rate:
            return levels_by_words(form, word)[(moment - begin) // rate]
    return 1


def first_by_words(beats, moment):
    """Point 11: the first beat at or behind a moment, by going from beat to beat."""
    k = 0
    while beats[0] + k * beats[1] < moment:
        k += 1
    return k


def reach_by_words(form, ear):
    return (size_by_words(form) - 1) * ear[0] + ear[1] + ear[2]


def hear_by_words(form, ear, row):
    """Point 13, going back and forth in the whole row."""
    over, spot, beside = ear
    told, at, ahead = [], 0, 1

    def take(begin, level):
        asked = [row[begin + level * over + spot + by] for by in range(-beside, beside + 1)]
        return max((0, 1), key=asked.count)

    while at < len(row):
        begins = row[at] == 0 and ahead == 1
        last = at + reach_by_words(form, ear)
        if not begins:
            ahead, at = row[at], at + 1
        elif at + spot + beside >= len(row):
            return told, at
        elif take(at, 0) == 1:
            ahead, at = row[at], at + 1
        elif last >= len(row):
            return told, at
        else:
            levels = [take(at, k) for k in range(size_by_words(form))]
            told.append((at, outcome_by_words(form, levels)))
            ahead, at = levels[-1], last + 1
    return told, None


def heard_row_by_words(rate, form, ear, speech, beats, strikes):
    """Point 14: so many beats as f, the reach and 2 come to, struck."""
    first, step = beats
    begin, word = speech[-1]
    many = first_by_words(beats, begin + size_by_words(form) * rate) + reach_by_words(form, ear) + 2
    levels = {}
    for begin, word in speech:
        # The beats of each level of each word; all others have 1.
        for k, level in enumerate(levels_by_words(form, word)):
            low, high = begin + k * rate - first, begin + (k + 1) * rate - first
            for beat in range(max(0, (low + step - 1) // step), max(0, (high + step - 1) // step)):
                levels[beat] = level
    row = [levels.get(beat, 1) for beat in range(many)]
    return [1 - level if beat in strikes else level for beat, level in enumerate(row)]


def due_by_words(speech, beats):
    return [(first_by_words(beats, begin), ("word", word)) for begin, word in speech]


def right_by_words(rate, form, ear, speech, beats, strikes):
    """Point 14: heard right."""
    row = heard_row_by_words(rate, form, ear, speech, beats, strikes)
    return hear_by_words(form, ear, row)[0] == due_by_words(speech, beats)


def gentle_by_words(form, ear, speech, beats, strikes):
    """Point 14: gentle, strike by strike and level by level."""
    over, spot, beside = ear
    places = [(b, k) for b, right in due_by_words(speech, beats) for k in range(size_by_words(form))]

    def asks(b, k, beat):
        return b + k * over + spot - beside <= beat <= b + k * over + spot + beside

    for beat in strikes:
        if not any(asks(b, k, beat) for b, k in places):
            return False
    return all(sum(asks(b, k, beat) for beat in strikes) <= beside for b, k in places)


def spare_by_words(form, ear, step, rate):
    """Point 15."""
    over, spot, beside = ear
    told = []
    for k in range(size_by_words(form)):
        early = (k * over + spot - beside) * step - k * rate
        late = (k + 1) * rate - (k * over + spot + beside + 1) * step
        told.append((early, late))
    return told


def sure_by_words(form, ear, step, rate):
    return min(ticks for pair in spare_by_words(form, ear, step, rate) for ticks in pair) >= 0


def all_ears(least, most, besides=(0, 1, 2, 3)):
    """All ears of an over from least to most, by over, then by spot."""
    return [(over, spot, beside) for over in range(least, most + 1) for spot in range(over)
            for beside in besides if spot > beside and spot + beside < over]


def some_gentle(source, form, ear, due):
    """Some gentle strikes, rising, as many as may be or fewer at each level of each due word (these lying apart)."""
    told = set()
    for b, right in due:
        for k in range(size_by_words(form)):
            asked = [b + k * ear[0] + ear[1] + by for by in range(-ear[2], ear[2] + 1)]
            told.update(source.sample(asked, source.choice((0, ear[2], source.randint(0, ear[2])))))
    return sorted(told)


def some_speech(source, form, rate, many, rests):
    """A speech of so many words, with a rest out of rests ahead of each."""
    told, free = [], 0
    for number in range(many):
        begin = free + source.choice(rests)
        told.append((begin, source.randrange(1 << form[0])))
        free = begin + size_by_words(form) * rate
    return told


def drawn_out(levels, over):
    """Each level as many beats long as the ear takes it to be."""
    return [level for level in levels for beat in range(over)]
