"""The shield, which takes exactly the events that an honest system can give."""

from honestrun.answers import NO_CALL
from honestrun.clock import Clock
from honestrun.maps import Maps
from honestrun.names import Names
from honestrun.pages import Pages
from honestrun.threads import Threads


class Shield:
    """What is remembered of the events that were taken, in parts that each know their own events."""

    def __init__(self):
        self.clock = Clock()
        self.maps = Maps()
        self.threads = Threads()
        self.names = Names()
        self.pages = Pages()

    def take(self, event):
        """Take an event and return None, or return why it is not taken and change nothing."""
        if not self.threads.caller_runs(event):
            return NO_CALL
        # Names come before pages: rule 10 is looked at before rule 11.
        parts = [self.clock, self.maps, self.threads, self.names, self.pages]
        concerned = [part for part in parts if event[0] in part.EVENTS]
        for part in concerned:
            answer = part.answer(event)
            if answer is not None:
                return answer
        for part in concerned:
            part.change(event)
        return None

    def copy(self):
        """A shield that remembers the same."""
        twin = Shield()
        twin.clock = self.clock.copy()
        twin.maps = self.maps.copy()
        twin.threads = self.threads.copy()
        twin.names = self.names.copy()
        twin.pages = self.pages.copy()
        return twin

    def form(self):
        """The form of what is remembered, which is the same for two pasts exactly if their futures are."""
        return (
            tuple(sorted(self.threads.running)),
            self.threads.next_thread,
            tuple(sorted(self.threads.holders.items())),
            self.threads.woken(),
            self.threads.waits(),
            self.clock.last,
            self.maps.form(),
            self.names.form(),
            self.pages.form(self.names.files_now(), self.names.files_later()),
            self.names.next_stamp,
        )

    def recall(self, form):
        """Remember what a form says, and nothing else."""
        running, next_thread, holders, woken, waits, clock, maps, names, pages, next_stamp = form
        self.clock.recall(clock)
        self.maps.recall(maps)
        self.threads.recall(running, next_thread, holders, woken, waits)
        self.names.recall(names, next_stamp)
        self.pages.recall(pages)


def taken(history):
    """None if a new shield takes all events, otherwise the number of the first that it does not take, and why."""
    shield = Shield()
    for number, event in enumerate(history):
        answer = shield.take(event)
        if answer is not None:
            return (number, answer)
    return None
