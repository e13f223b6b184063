"""The forms in which truths and fractions are answered."""


def one_or_zero(truth):
    if truth:
        return 1
    return 0


def lone_fraction(fraction):
    return [0, fraction[0], fraction[1]]


def counted_fractions(fractions):
    answer = [len(fractions)]
    for top, bottom in fractions:
        answer.append(top)
        answer.append(bottom)
    return answer
