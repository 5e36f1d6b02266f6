"""Plans and parts as texts, shown and read."""

from wearplan.errors import NoPart, NoText
from wearplan.parts import GREATEST_FIRST, MOST_ROUNDS, Part, check_first
from wearplan.walks import check_plan
from wearplan.works import MOST_PARTS, is_choice_among

GREATEST_NUMBER = 99


def numbers_shown(numbers):
    """Tell the numbers with a blank between."""
    return " ".join([str(number) for number in numbers])


def show_plan(plan, first):
    """Tell the plan as a text: how many rounds from which on, then a line for each round with a choice."""
    check_plan(plan, MOST_PARTS)
    check_first(first)
    lines = [f"rounds {len(plan)} from {first}"]
    for round_number, choice in enumerate(plan, start=first):
        if len(choice) > 0:
            lines.append(f"{round_number}: {numbers_shown(choice)}")
    return "".join([line + "\n" for line in lines])


def show_part(part):
    """Tell the part as one line."""
    return f"full {part.full} mark {part.mark} price {part.price} wear {numbers_shown(part.wear)}"


def lines_of(text):
    """Tell the text's lines, what stands behind the last line feed among them if that is not empty."""
    lines = text.split("\n")
    if lines[-1] == "":
        lines.pop()
    return lines


def words_of(line):
    """Tell what stands in the line with blanks between."""
    return [word for word in line.split(" ") if word != ""]


def number_of(word, least, most):
    """Tell the number from least to most that is written so, or None."""
    for number in range(least, most + 1):
        if word == str(number):
            return number
    return None


def read_head(words):
    """Tell how many rounds a plan has and the first of them, or None if the words do not tell it."""
    if len(words) != 4 or words[0] != "rounds" or words[2] != "from":
        return None
    rounds = number_of(words[1], 0, MOST_ROUNDS)
    first = number_of(words[3], 0, GREATEST_FIRST)
    if rounds is None or first is None:
        return None
    return rounds, first


def read_round(words, least, most):
    """Tell a round from least to most and what is chosen in it, or None if the words do not tell it."""
    if len(words) < 2 or not words[0].endswith(":"):
        return None
    round_number = number_of(words[0][:-1], least, most)
    choice = tuple([number_of(word, 0, MOST_PARTS - 1) for word in words[1:]])
    if round_number is None or not is_choice_among(choice, MOST_PARTS):
        return None
    return round_number, choice


def rows_of(text):
    """Tell (number, words) of each line that counts, at least one, or refuse what has none."""
    if not isinstance(text, str):
        raise NoText(0)
    lines = lines_of(text)
    rows = [(row, words_of(line)) for row, line in enumerate(lines, start=1)]
    counted = [(row, words) for row, words in rows if len(words) > 0]
    if len(counted) == 0:
        raise NoText(len(lines) + 1)
    return counted


def read_plan(text):
    """Tell the plan that a text tells, and its first round."""
    counted = rows_of(text)
    head = read_head(counted[0][1])
    if head is None:
        raise NoText(counted[0][0])
    rounds, first = head
    plan = [()] * rounds
    free = first
    for row, words in counted[1:]:
        told = read_round(words, free, first + rounds - 1)
        if told is None:
            raise NoText(row)
        plan[told[0] - first] = told[1]
        free = told[0] + 1
    return tuple(plan), first


def read_part(text):
    """Tell the part that a line tells."""
    if not isinstance(text, str) or "\n" in text:
        raise NoText(0)
    words = words_of(text)
    if words[:7:2] != ["full", "mark", "price", "wear"]:
        raise NoText(1)
    full, mark, price = [number_of(word, 0, GREATEST_NUMBER) for word in words[1:6:2]]
    wear = [number_of(word, 0, GREATEST_NUMBER) for word in words[7:]]
    # What is no number is None by now, and no part has that.
    try:
        return Part(full, mark, wear, price)
    except NoPart:
        raise NoText(1) from None
