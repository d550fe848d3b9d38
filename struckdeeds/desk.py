"""The desk: logs kept by names, told and asked in rows of words."""

from struckdeeds.booktexts import show_book
from struckdeeds.checker import holds
from struckdeeds.deedtexts import read_deed
from struckdeeds.errors import NoCall, NoLog
from struckdeeds.figures import read_whole, show_whole
from struckdeeds.logs import Log
from struckdeeds.papers import paper_goes
from struckdeeds.words import is_name, is_within
from struckdeeds.worldtexts import read_world, show_world

# What stands behind the first word of a row: n a name, k a line's number, t a text, all that is left.
FORMS = {"log": "nt", "mark": "nn", "do": "nnt", "strike": "nk", "restore": "nk", "undo": "nn", "back": "nn",
         "world": "n", "stand": "n", "book": "n", "paper": "nk"}
LAST_NUMBER = 999
DONE = "ok"


def read_call(row):
    """The list of the row's words, its number read; NoCall."""
    form = FORMS.get(row.partition(" ")[0]) if isinstance(row, str) else None
    if form is None:
        raise NoCall(row)
    words = row.split(" ", len(form))
    parts = [read_part(sign, word) for sign, word in zip(form, words[1:])]
    if len(parts) != len(form) or None in parts:
        raise NoCall(row)
    return words[:1] + parts


def read_part(sign, word):
    """What the word tells, or None where it isn't as the sign of its form asks."""
    if sign == "n":
        return word if is_name(word) else None
    if sign == "k":
        number = read_whole(word)
        return number if is_within(number, 0, LAST_NUMBER) else None
    return word


def show_numbers(numbers):
    """The numbers with blanks between, or - for none."""
    return " ".join([show_whole(number) for number in numbers]) if len(numbers) > 0 else "-"


def say_mark(log, parts):
    """Sets a mark."""
    log.mark(parts[0])
    return DONE


def say_do(log, parts):
    """Tells a line, and answers its number."""
    return show_whole(log.tell(parts[0], read_deed(parts[1])))


def say_strike(log, parts):
    """Strikes a line, and answers what went."""
    return show_numbers(log.strike(parts[0]))


def say_restore(log, parts):
    """Puts a line back, and answers what went."""
    return show_numbers(log.put_back(parts[0]))


def say_undo(log, parts):
    """Undoes a hand's last line that stands, and answers what went."""
    return show_numbers(log.undo(parts[0]))


def say_back(log, parts):
    """Comes back to a mark, and answers how many were taken back and how many done again."""
    words = [step[0] for step in log.come_back(parts[0])]
    return show_numbers((words.count("back"), words.count("again")))


def say_world(log, parts):
    """The text of the world."""
    return show_world(log.world())


def say_stand(log, parts):
    """The numbers of the lines that stand."""
    return show_numbers(log.stand())


def say_book(log, parts):
    """The text of the book that stands, in one row."""
    return show_book(log.book()).replace("\n", "; ")


def say_paper(log, parts):
    """Whether the checker takes what goes with a line of the book that stands."""
    claim, paper = paper_goes(log.book(), (parts[0],))
    return "holds" if holds(claim, paper) else "no"


ANSWERS = {"mark": say_mark, "do": say_do, "strike": say_strike, "restore": say_restore, "undo": say_undo,
           "back": say_back, "world": say_world, "stand": say_stand, "book": say_book, "paper": say_paper}


class Desk:
    """Logs by names."""

    def __init__(self):
        self.logs = {}

    def say(self, row):
        """The answer to a row; NoCall, NoLog, then what the texts refuse, then what the log does."""
        word, name, *parts = read_call(row)
        if word == "log":
            self.logs[name] = Log(read_world(parts[0]))
            return DONE
        if name not in self.logs:
            raise NoLog(name)
        answer = ANSWERS[word]
        return answer(self.logs[name], parts)
