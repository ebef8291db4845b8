"""Things read again from rows that write them."""

from foldrows.errors import NoThing
from foldrows.laying import laid

SIGNS_OF_WORDS = "abcdefghijklmnopqrstuvwxyz0123456789"
MARKS = ("(", ")", "[", "]", ",", ":")

# No word and no mark is an empty text, so it can stand behind the last of them.
END = ""


def is_word(text):
    return text != "" and all([sign in SIGNS_OF_WORDS for sign in text])


def read(rows):
    tokens = Tokens(tokens_of_rows(rows))
    # What is begun is kept in a list, for a recursion could go too deep before rows are found to write no thing.
    begun = []
    thing = begin(tokens, begun)
    while begun:
        if thing is None:
            thing = begin(tokens, begun)
        else:
            thing = hand_over(thing, tokens, begun)
    if not tokens.takes(END):
        raise NoThing("there is more behind the thing")
    return thing


def laid_anew(rows, width):
    return laid(read(rows), width)


def tokens_of_rows(rows):
    tokens = []
    for row in rows:
        tokens.extend(tokens_of_row(row))
    return tokens


def tokens_of_row(row):
    spread = row
    for mark in MARKS:
        spread = spread.replace(mark, " " + mark + " ")
    # Split at blanks alone: a tab or a line feed has to stay, so that it is refused with what it stands in.
    return [token for token in spread.split(" ") if token != ""]


class Tokens:
    def __init__(self, tokens):
        self.tokens = tokens + [END]
        self.place = 0

    def takes(self, token):
        found = self.tokens[self.place] == token
        if found:
            self.place += 1
        return found

    def take_word(self):
        token = self.tokens[self.place]
        if not is_word(token):
            raise NoThing(f"a word is asked for, not {token!r}")
        self.place += 1
        return token


# The next two answer None in the place of a whole thing: no thing is None, and what is begun last waits for one.


def begin(tokens, begun):
    if tokens.takes("["):
        return ("run", words_of_run(tokens))
    word = tokens.take_word()
    if tokens.takes(":"):
        begun.append(("tag", word))
        return None
    if not tokens.takes("("):
        return word
    if tokens.takes(")"):
        return ("bundle", word, [])
    begun.append(("bundle", word, []))
    return None


def hand_over(thing, tokens, begun):
    around = begun[-1]
    if around[0] == "tag":
        begun.pop()
        return ("tag", around[1], thing)
    around[2].append(thing)
    if tokens.takes(","):
        return None
    if tokens.takes(")"):
        return begun.pop()
    raise NoThing("a part of a bundle has neither a comma nor the bundle's end behind it")


def words_of_run(tokens):
    words = []
    while not tokens.takes("]"):
        words.append(tokens.take_word())
    return words
