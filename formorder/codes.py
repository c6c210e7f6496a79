"""Code points, and the syllables with their parts, which need no tables."""

LAST_CODE_POINT = 0x10FFFF
FIRST_SURROGATE = 0xD800
LAST_SURROGATE = 0xDFFF

FIRST_SYLLABLE = 0xAC00
LAST_SYLLABLE = 0xD7A3
FIRST_LEAD = 0x1100
LAST_LEAD = 0x1112
FIRST_VOWEL = 0x1161
LAST_VOWEL = 0x1175
FIRST_TAIL = 0x11A8
LAST_TAIL = 0x11C2

VOWELS = 21
# A syllable without a tail counts as one more, so that tails number 28 and not 27.
TAILS = 28
NO_TAIL = 0x11A7


def is_code_point(number):
    return 0 <= number <= LAST_CODE_POINT and not FIRST_SURROGATE <= number <= LAST_SURROGATE


def is_syllable(code):
    return FIRST_SYLLABLE <= code <= LAST_SYLLABLE


def is_lead(code):
    return FIRST_LEAD <= code <= LAST_LEAD


def is_vowel(code):
    return FIRST_VOWEL <= code <= LAST_VOWEL


def is_tail(code):
    return FIRST_TAIL <= code <= LAST_TAIL


def touches_syllables(first, last):
    kept = (
        (FIRST_SYLLABLE, LAST_SYLLABLE),
        (FIRST_LEAD, LAST_LEAD),
        (FIRST_VOWEL, LAST_VOWEL),
        (FIRST_TAIL, LAST_TAIL),
    )
    return any([first <= high and low <= last for low, high in kept])


def syllable_parts(syllable):
    offset = syllable - FIRST_SYLLABLE
    lead = offset // TAILS // VOWELS
    vowel = offset // TAILS % VOWELS
    tail = offset % TAILS
    parts = [FIRST_LEAD + lead, FIRST_VOWEL + vowel]
    if tail != 0:
        parts.append(NO_TAIL + tail)
    return parts


def syllable_of(first, second):
    if is_lead(first) and is_vowel(second):
        return FIRST_SYLLABLE + ((first - FIRST_LEAD) * VOWELS + second - FIRST_VOWEL) * TAILS
    if is_syllable(first) and (first - FIRST_SYLLABLE) % TAILS == 0 and is_tail(second):
        return first + second - NO_TAIL
    return None
