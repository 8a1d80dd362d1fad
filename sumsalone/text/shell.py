"""A shell: commands that make things under names, change them, and ask about them."""

from sumsalone.base.things import is_any_thing
from sumsalone.base.words import is_name
from sumsalone.errors import InvalidCommand, InvalidOperation, TooMany, UnknownName
from sumsalone.house.bench import turned_at
from sumsalone.roads.carried import moved, row_of
from sumsalone.rows.rows import is_under
from sumsalone.sure.forced import is_alone, state_of
from sumsalone.text.texts import is_number, read, write

MAX_THINGS = 8
# For each command the numbers of names and of integers behind its word.
FORMS = {"new": (1, 0), "copy": (2, 0), "drop": (1, 0), "turn": (1, 2), "carry": (1, 2), "other": (1, 0),
         "text": (1, 0), "sums": (1, 0), "state": (1, 2), "alone": (1, 0), "under": (2, 0)}


def _turned(thing, numbers):
    """The thing in which this place is turned."""
    return turned_at(thing, numbers)


def _carried(thing, numbers):
    """The thing in which a unit is carried from the one index to the other one."""
    return moved(thing, numbers[0], numbers[1])


def _opposite(thing, numbers):
    """The opposite thing."""
    return thing.opposite()


def _text_told(things, numbers):
    """The text of the thing."""
    return write(things[0])


def _sums_told(things, numbers):
    """The text of the sums of the thing."""
    return write(things[0].sums)


def _state_told(things, numbers):
    """The state of this place for the sums of the thing."""
    return state_of(things[0].sums, numbers)


def _alone_told(things, numbers):
    """Whether just the thing has its sums."""
    return is_alone(things[0].sums)


def _under_told(things, numbers):
    """Whether the row of the first thing is under that of the second one."""
    return is_under(row_of(things[0]), row_of(things[1]))


# What is done with one thing by two integers, or none.
CHANGES = {"turn": _turned, "carry": _carried, "other": _opposite}
# What is asked about one or two things by two integers, or none.
QUESTIONS = {"text": _text_told, "sums": _sums_told, "state": _state_told, "alone": _alone_told, "under": _under_told}


class Shell:
    """Things under names, and the commands that made them so."""

    def __init__(self):
        self._things = {}
        self._script = []

    @classmethod
    def replayed(cls, script):
        """The shell behind the commands of a script."""
        if not isinstance(script, tuple):
            raise InvalidCommand("a script is a tuple of commands")
        shell = cls()
        for command in script:
            shell.run(command)
        return shell

    @property
    def names(self):
        """The ascending tuple of the names of the things."""
        return tuple(sorted(self._things))

    @property
    def things(self):
        """The dict from names to things."""
        return {name: self._things[name] for name in self.names}

    @property
    def script(self):
        """The tuple of all commands that changed the shell, in order."""
        return tuple(self._script)

    def run(self, command):
        """Do what the command tells, and return the reply."""
        word, names, numbers, text = _parts_of(command)
        needed, made = _names_needed_and_made(word, names)
        for name in needed:
            if name not in self:
                raise UnknownName(name)
        for name in made:
            if name in self:
                raise InvalidOperation("there is a thing with this name")
        if word in QUESTIONS:
            question = QUESTIONS[word]
            return question([self._things[name] for name in needed], numbers)
        reply = self._changed(word, names, numbers, text)
        self._script.append(command)
        return reply

    def _changed(self, word, names, numbers, text):
        """Do what a command tells that changes the shell, and return the reply."""
        if word == "new":
            thing = _thing_of_text(text)
            self._make(names[0], thing)
            return str(thing)
        if word == "copy":
            self._make(names[1], self._things[names[0]])
            return None
        if word == "drop":
            del self._things[names[0]]
            return None
        change = CHANGES[word]
        thing = change(self._things[names[0]], numbers)
        self._things[names[0]] = thing
        return write(thing)

    def _make(self, name, thing):
        """Put a new thing under a name."""
        if len(self._things) >= MAX_THINGS:
            raise TooMany(MAX_THINGS)
        self._things[name] = thing

    def __call__(self, command):
        return self.run(command)

    def __contains__(self, value):
        return is_name(value) and value in self._things

    def __len__(self):
        return len(self._things)

    def __eq__(self, other):
        return isinstance(other, Shell) and self._things == other._things

    def __str__(self):
        return f"shell of {len(self._things)} things"


def _parts_of(command):
    """The word, the names and the integers of a command, and the text below them."""
    if not isinstance(command, str):
        raise InvalidCommand("a command is a string")
    head, line_end, text = command.partition("\n")
    word, *others = head.split(" ")
    if word not in FORMS or (line_end == "\n") != (word == "new"):
        raise InvalidCommand("no command, or one that has not the lines that belong to it")
    many_names, many_numbers = FORMS[word]
    names, numbers = others[:many_names], others[many_names:]
    if len(names) != many_names or len(numbers) != many_numbers:
        raise InvalidCommand("not just as many words as belong to the command")
    if not all([is_name(name) for name in names]) or not all([is_number(number) for number in numbers]):
        raise InvalidCommand("a word has not the form of its place")
    return word, names, tuple([int(number) for number in numbers]), text


def _names_needed_and_made(word, names):
    """The names of things that have to be there, and of those that must not."""
    if word == "new":
        return [], names
    if word == "copy":
        return names[:1], names[1:]
    return names, []


def _thing_of_text(text):
    """The thing of a text, which must not be one of sums."""
    thing = read(text)
    if not is_any_thing(thing):
        raise InvalidOperation("a text of sums makes no thing")
    return thing
