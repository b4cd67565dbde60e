"""Setting texts: their pictures, how wide these are, and where their letters begin."""

from blotsure.fonts import columns_of


def set_text(font, text):
    strip = []
    for sign in text:
        strip.extend(columns_of(font, sign))
    return strip


def breadth(font, text):
    return len(set_text(font, text))


def seams(font, text):
    wide = 0
    answer = [wide]
    for sign in text:
        wide += len(columns_of(font, sign))
        answer.append(wide)
    return answer
