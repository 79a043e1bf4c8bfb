"""A workshop: a history that commands change, ask about, and change back."""

from quietsums.commands import command_parts
from quietsums.errors import InvalidCommand, NameTaken, NothingToUndo, UnknownHand
from quietsums.histories import History
from quietsums.mending import expressed, hand_on, learned_of, least_tellers, loss
from quietsums.steering import least_round
from quietsums.sums import require_sum_of

QUERIES = ("tellers", "express", "knows")


class Workshop:
    """A history with a modulus and at first no hands, and the commands that it carried out."""

    def __init__(self, modulus):
        self._modulus = modulus
        self._history = History(modulus, [])
        # The commands that changed the history and were not undone, with what the history was before.
        self._done = []
        self._log = []

    def history(self):
        """Return a copy of the history."""
        return self._history.copied()

    def log(self):
        """Return the list of the commands that raised no error."""
        return list(self._log)

    def execute(self, command):
        """Carry out a command, and return its answer."""
        parts = command_parts(self._modulus, command)
        if parts is None:
            raise InvalidCommand(command)
        if parts[0] == "back":
            answer = self._undo()
        elif parts[0] in QUERIES:
            answer = _answer(self._history, parts)
        else:
            changed = self._history.copied()
            answer = _change(changed, parts)
            self._done.append((command, self._history))
            self._history = changed
        self._log.append(command)
        return answer

    def execute_all(self, *commands):
        """Carry out some commands and return the list of their answers; if one raises an error, carry out none."""
        trial = Workshop(self._modulus)
        trial._history = self._history
        trial._done = list(self._done)
        trial._log = list(self._log)
        answers = [trial.execute(command) for command in commands]
        self._history = trial._history
        self._done = trial._done
        self._log = trial._log
        return answers

    def _undo(self):
        if len(self._done) == 0:
            raise NothingToUndo("no command is left that could be undone")
        command, self._history = self._done.pop()
        return command


def _change(history, parts):
    """Let the parts of a command change a history, and return the answer."""
    if parts[0] in ("enter", "stop"):
        return _enter_or_stop(history, parts[0], parts[1])
    if parts[0] in ("own", "drop"):
        return _own_or_drop(history, parts[0], parts[1], parts[2])
    if parts[0] == "give":
        hand_on(history, parts[1], parts[2], parts[3])
    else:
        _put_round(history, parts[1], parts[2])
    return str(len(history) - 1)


def _enter_or_stop(history, word, hand):
    if word == "enter":
        history.enter(hand)
    else:
        history.stop(hand)
    return _listed(history.hands(), "-")


def _own_or_drop(history, word, hand, name):
    if word == "own":
        history.own(hand, name)
    else:
        history.drop(hand, name)
    return _listed(history.held(hand), "-")


def _put_round(history, hands, entries):
    """Let hands get new names, each with its holders and as a sum, in a round that lets know no more than that."""
    _require_all(hands, history.hands())
    outs = {}
    for name, holders, _ in entries:
        history.require_new(name)
        if name in outs:
            raise NameTaken(name)
        outs[name] = holders
    history.put(least_round(history, hands, outs, {name: total for name, _, total in entries}))


def _answer(history, parts):
    """Return the answer to a command that changes nothing."""
    if parts[0] == "knows":
        return _knows(history, parts[1], parts[2])
    if parts[0] == "express":
        return "lost" if loss(history, parts[1]) is not None else str(expressed(history, parts[1]))
    groups = [_listed(group, "nobody") for group in least_tellers(history, parts[1])]
    return " , ".join(groups) if len(groups) > 0 else "-"


def _knows(history, hands, target):
    """Tell in a word whether hands that sit in all rounds in which they are present learn the target."""
    _require_all(hands, history.had_hands())
    require_sum_of(history.modulus, target, history.own_names())
    watch = [[hand for hand in hands if hand in scene.hands()] for scene in history.scenes()]
    return "yes" if target in learned_of(history, watch) else "no"


def _require_all(hands, known):
    """Raise UnknownHand unless all hands are known ones."""
    for hand in hands:
        if hand not in known:
            raise UnknownHand(hand)


def _listed(words, nothing):
    """Return some words with spaces between them, or what stands for nothing."""
    return " ".join(words) if len(words) > 0 else nothing
