"""Guards: how far sums of more and more rests lay texts apart."""

from blotsure.far import farness
from blotsure.makers import sums


def guards(font, signs, wish, most):
    answer = []
    for many in range(1, most + 1):
        far = far_of(font, sums(signs, many))
        answer.append(far)
        if far is None or far >= wish:
            return answer
    return answer


def far_of(font, house):
    told = farness(font, house)
    return None if told is None else told[0]
