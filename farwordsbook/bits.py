"""The program's one way in: a list of calls on a new object, and the list of what they answer."""

from farwordsbook.book import Book
from farwordsbook.changes import again, back, begin, close, fill, goal, move, note, put, rest, strike, swap, take
from farwordsbook.limits import best_proof, bound, proves, spread
from farwordsbook.looks import held, least, mend, more, off, strength, sums, tilt, twos, uneven, words
from farwordsbook.reading import read_calls
from farwordsbook.reports import all_of, line, report, so, state
from farwordsbook.rounds import evenly, in_the_way, radius, reach


def answers(calls):
    """For each call, in order, how many numbers are answered, then these."""
    book = Book()
    found = []
    for call in read_calls(calls):
        answer = answer_call(book, call[0], call[1])
        found.append(len(answer))
        found.extend(answer)
    return found


def answer_call(book, name, told):
    """What one call answers; ahead of all else, only begin is answered till it is answered 0."""
    if name == "begin":
        return begin(book, told[0], told[1])
    if book.bits == 0:
        return [-61]
    return answer_change(book, name, told)


def answer_change(book, name, told):
    """What a call answers that changes words, goal or report, takes back or does again; others are handed on."""
    if name == "put":
        return put(book, told[0])
    if name == "take":
        return take(book, told[0])
    if name == "rest":
        return rest(book)
    if name == "move":
        return move(book, told[0])
    if name == "swap":
        return swap(book, told[0], told[1])
    if name == "close":
        return close(book)
    if name == "fill":
        return fill(book)
    if name == "goal":
        return goal(book, told[0])
    if name == "note":
        return note(book, told[0], told[1])
    if name == "strike":
        return strike(book, told[0])
    if name == "back":
        return back(book)
    if name == "again":
        return again(book)
    return answer_look(book, name, told)


def answer_look(book, name, told):
    """What a call answers that looks at the words and how far apart they are; others are handed on."""
    if name == "words":
        return words(book)
    if name == "twos":
        return twos(book)
    if name == "sums":
        return sums(book)
    if name == "tilt":
        return tilt(book, told[0])
    if name == "strength":
        return strength(book)
    if name == "uneven":
        return uneven(book)
    if name == "least":
        return least(book)
    if name == "off":
        return off(book, told[0])
    if name == "mend":
        return mend(book, told[0])
    if name == "more":
        return more(book)
    if name == "held":
        return held(book)
    return answer_bound(book, name, told)


def answer_bound(book, name, told):
    """What a call answers that tells of how many words there can be, or of balls; others are handed on."""
    if name == "bound":
        return bound(book)
    if name == "proves":
        return proves(book, told[0])
    if name == "best_proof":
        return best_proof(book)
    if name == "spread":
        return spread(book)
    if name == "evenly":
        return evenly(book, told[0])
    if name == "in_the_way":
        return in_the_way(book, told[0])
    if name == "radius":
        return radius(book)
    if name == "reach":
        return reach(book)
    return answer_report(book, name, told)


def answer_report(book, name, told):
    """What a call answers that looks at sayings, at the report or at all that is there."""
    if name == "so":
        return so(book, told[0], told[1])
    if name == "all_of":
        return all_of(book, told[0])
    if name == "report":
        return report(book)
    if name == "line":
        return line(book, told[0])
    return state(book)
