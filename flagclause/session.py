"""Sessions: lines that are typed token by token."""

from flagclause.analysis import check_satisfiable
from flagclause.completion import verdicts
from flagclause.errors import FlagclauseError, InvalidName, InvalidOperation, UnknownCheckpoint
from flagclause.grammar import LETTERS, is_text_of
from flagclause.lexer import check_tokens
from flagclause.lines import parse_tokens, read_prefix

MOST_NAME_LETTERS = 8


class Session:
    """A line that is typed token by token."""

    def __init__(self, grammar):
        check_satisfiable(grammar)
        self._grammar = grammar
        self._typed = ()
        # What was typed before each change that has not been reverted.
        self._earlier = []
        self._saved = {}
        self._busy = False

    def add(self, token):
        """Type a token, and return the dict of the verdicts that have changed."""
        check_tokens([token])
        typed = (*self._typed, token)
        before = self.verdicts()
        after = verdicts_behind(self._grammar, typed)
        self._change(typed)
        return {name: after[name] for name in after if after[name] != before[name]}

    def remove(self):
        """Remove the last token and return it, or return None."""
        if len(self._typed) == 0:
            return None
        token = self._typed[-1]
        self._change(self._typed[:-1])
        return token

    def tokens(self):
        """Return the list of all tokens."""
        return list(self._typed)

    def verdicts(self):
        """Return the dict of all verdicts."""
        return verdicts_behind(self._grammar, self._typed)

    def pending_option(self):
        """Return the name of the option that still needs its value, or None."""
        return read_prefix(self._grammar, self._typed)[2]

    def finish(self):
        """Return the options and positional words of the whole line."""
        return parse_tokens(self._grammar, self._typed)

    def save(self, name):
        """Store the tokens under a name."""
        if not is_text_of(name, LETTERS) or len(name) > MOST_NAME_LETTERS:
            raise InvalidName()
        self._saved[name] = self._typed

    def restore(self, name):
        """Return to stored tokens."""
        if not isinstance(name, str) or name not in self._saved:
            raise UnknownCheckpoint()
        self._change(self._saved[name])

    def checkpoints(self):
        """Return the ascending list of the names under which tokens are stored."""
        return sorted(self._saved)

    def undo(self):
        """Revert the last change and return True, or return False if there is none."""
        if len(self._earlier) == 0:
            return False
        self._typed = self._earlier.pop()
        return True

    def add_all(self, tokens):
        """Type all tokens of a list or none, and return the list of the results of add."""
        if not isinstance(tokens, list):
            raise InvalidOperation(0)
        typed = self._typed
        changes = len(self._earlier)
        results = []
        self._busy = True
        try:
            for token in tokens:
                results.append(self.add(token))
        except FlagclauseError:
            self._typed = typed
            del self._earlier[changes:]
            raise InvalidOperation(len(results)) from None
        finally:
            self._busy = False
        return results

    def is_busy(self):
        """Return whether add_all is running."""
        return self._busy

    def _change(self, typed):
        """Have other tokens typed, in a way that can be reverted."""
        self._earlier.append(self._typed)
        self._typed = typed


def verdicts_behind(grammar, tokens):
    """Return the verdicts for the options that some tokens give."""
    assignments = read_prefix(grammar, tokens)[0]
    return verdicts(grammar, list(assignments))
