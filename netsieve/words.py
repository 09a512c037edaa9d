"""The words of a filter's text."""

from netsieve.numbers import is_number

MOST_FIGURES = 10
NAMES = ("and", "or", "not", "so", "len", "byte", "half", "word", "rest", "true", "false")
LONG_SIGNS = ("<<", ">>", "<=", ">=", "!=")
SIGNS = ("<", ">", "=", "+", "-", "*", "/", "&", "|", "^", "(", ")", "[", "]")


# Numbers as whole numbers, other words as texts, and None for what counts as a word and is a wrong one.
def words_of(text):
    words = []
    place = 0
    while place < len(text):
        end = end_of_word(text, place)
        if text[place] != " ":
            words.append(word_of(text[place:end]))
        place = end
    return words


def end_of_word(text, place):
    if text[place].isdigit():
        return end_of_figures(text, place)
    if text[place].isalpha():
        return end_of_letters(text, place)
    if text[place:place + 2] in LONG_SIGNS:
        return place + 2
    return place + 1


def end_of_figures(text, place):
    end = place
    while end < len(text) and text[end].isdigit():
        end += 1
    return end


def end_of_letters(text, place):
    end = place
    while end < len(text) and text[end].isalpha():
        end += 1
    return end


def word_of(piece):
    if piece[0].isdigit():
        return number_of(piece)
    if piece in NAMES or piece in LONG_SIGNS or piece in SIGNS:
        return piece
    return None


def number_of(figures):
    # Noughts ahead count too, so the figures are counted ahead of the number.
    if len(figures) > MOST_FIGURES:
        return None
    number = int(figures)
    return number if is_number(number) else None
