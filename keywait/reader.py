"""A Reader reads a row entry by entry, and tells each event in the call that settles it."""

from keywait.errors import NoFlag, NoKeys, NoNumber, NoTime
from keywait.kinds import is_boolean, is_letter, is_within
from keywait.maps import check_alike, check_map, check_state, copy_of, with_flags
from keywait.reading import LATEST, settle


class Reader:
    """Reads keys, changes of flags and silence, call by call."""

    def __init__(self, keymap, state):
        check_state(keymap, state)
        self._keymap = copy_of(keymap)
        self._state = state
        self._held = ""
        self._last = 0
        self._greatest = 0
        self._used = 0
        # What all of this was before each call that stands, so that back can restore it.
        self._past = []

    def key(self, letter, time):
        """Pass a key: the events that it settles."""
        if not is_letter(letter):
            raise NoKeys("this is no letter")
        self._check_time(time)
        self._begin_call()
        events = self._reach_time(time)
        self._last = time
        return events + self._settle(self._held + letter, False)

    def change(self, flag, value, time):
        """Pass a change of a flag from outside, which ends the burst: the events of its end."""
        if flag not in self._keymap[1] or not is_boolean(value):
            raise NoFlag("this is no flag from outside, or no value of one")
        self._check_time(time)
        self._begin_call()
        self._greatest = time
        events = self._end_burst()
        self._state = with_flags(self._keymap, self._state, {flag: value})
        return events

    def advance(self, time):
        """Tell that it is this time now: the events of a burst that has ended by then."""
        self._check_time(time)
        self._begin_call()
        return self._reach_time(time)

    def finish(self):
        """Tell that a pause follows: the events of the end of the burst."""
        self._begin_call()
        return self._end_burst()

    def swap(self, keymap):
        """Exchange the keymap at the end of the burst: the events of this end."""
        check_map(keymap)
        check_alike(self._keymap, keymap)
        self._begin_call()
        events = self._end_burst()
        self._keymap = copy_of(keymap)
        return events

    def back(self, count):
        """Take the last calls back, so many of them."""
        if not is_within(count, 0, self.calls()):
            raise NoNumber("there are not so many calls, or this is no number")
        if count > 0:
            kept = self.calls() - count
            self._keymap, self._state, self._held, self._last, self._greatest, self._used = self._past[kept]
            del self._past[kept:]

    def held(self):
        """The keys that are held."""
        return self._held

    def state(self):
        """The state behind the last event or change."""
        return self._state

    def used(self):
        """How many keys all events have used."""
        return self._used

    def calls(self):
        """How many calls were accepted and not taken back."""
        return len(self._past)

    def _check_time(self, time):
        """Raise NoTime for what is no time, or a time before the greatest one."""
        if not is_within(time, self._greatest, LATEST):
            raise NoTime("this is no time, or one before a time that was passed already")

    def _begin_call(self):
        """Count a call that is accepted, and keep what stands before it."""
        self._past.append(
            (self._keymap, self._state, self._held, self._last, self._greatest, self._used)
        )

    def _reach_time(self, time):
        """Let it be this time: the events of a burst that has ended by then."""
        self._greatest = time
        if time > self._last + self._keymap[4]:
            return self._end_burst()
        return []

    def _end_burst(self):
        """Read the held keys with silence behind them: their events."""
        return self._settle(self._held, True)

    def _settle(self, keys, silence):
        """Read these keys as far as they are settled, and hold the others: their events."""
        events, self._state, self._held = settle(self._keymap, self._state, keys, silence)
        self._used += sum(len(event[-1]) for event in events)
        return events
