"""The threads: which ones run, which locks they hold, and where they wait."""

from honestrun.answers import NO_CALL, refused
from honestrun.lines import Line

LOCKS = 4
CONDITIONS = 2


class Threads:
    """The threads that run, the thread that holds each held lock, and a line for each condition."""

    EVENTS = ("start", "end", "lock", "unlock", "wait", "signal", "signal_all", "woken", "restart")

    def __init__(self):
        self.running = {0: True}
        self.next_thread = 1
        self.holders = {}
        self.lines = [Line() for _ in range(CONDITIONS)]

    def copy(self):
        """Threads that remember the same."""
        twin = Threads()
        twin.running = dict(self.running)
        twin.next_thread = self.next_thread
        twin.holders = dict(self.holders)
        twin.lines = [line.copy() for line in self.lines]
        return twin

    def caller_runs(self, event):
        """Whether the thread that calls, or whose call was cut, runs; True if nobody calls."""
        call = event[1] if event[0] == "restart" else event
        # A thread that goes on does not call: it has to wait instead.
        if call is None or call[0] == "woken":
            return True
        return call[1] in self.running

    def answer(self, event):
        """None if the event can be taken, otherwise what is answered to it; nothing changes."""
        if event[0] == "restart":
            # What it cut is no event of the threads.
            return None
        if not self.caller_runs(event) or not self._is_call(event):
            return NO_CALL
        match event:
            case ("lock", _, lock):
                if lock in self.holders:
                    return refused(1)
            case ("woken", thread):
                line = self._line_of(thread)
                if not line.can_be_woken(thread):
                    return refused(2)
                if line.lock_of(thread) in self.holders:
                    return refused(3)
        return None

    def change(self, event):
        """Take an event that can be taken."""
        match event:
            case ("start", _, thread):
                self.running[thread] = True
                self.next_thread += 1
            case ("end", thread):
                del self.running[thread]
            case ("lock", thread, lock):
                self.holders[lock] = thread
            case ("unlock", _, lock):
                del self.holders[lock]
            case ("wait", thread, condition, lock):
                del self.running[thread]
                del self.holders[lock]
                self.lines[condition].wait(thread, lock)
            case ("signal", _, condition):
                self.lines[condition].signal()
            case ("signal_all", _, condition):
                self.lines[condition].signal_all()
            case ("woken", thread):
                self._go_on(thread)
            case ("restart", _):
                self._restart()

    def woken(self):
        """The pairs of thread and lock of all that surely have been woken, ascending."""
        return tuple(sorted([pair for line in self.lines for pair in line.woken()]))

    def waits(self):
        """The blocks of those that wait, for each condition."""
        return tuple([line.blocks() for line in self.lines])

    def recall(self, running, next_thread, holders, woken, waits):
        """Remember what these parts of a form say, and nothing else."""
        self.running = {thread: True for thread in running}
        self.next_thread = next_thread
        self.holders = dict(holders)
        self.lines = [Line() for _ in range(CONDITIONS)]
        # At which condition one waits that surely has been woken makes no difference any more.
        self.lines[0].add_woken(woken)
        for condition, blocks in enumerate(waits):
            for members, count in blocks:
                self.lines[condition].add_block(members, count)

    def _is_call(self, event):
        """Whether there is such a call, apart from whether the calling thread runs."""
        match event:
            case ("start", _, thread):
                return thread == self.next_thread
            case ("end", thread):
                return thread != 0 and not self._locks_of(thread)
            case ("lock", _, lock):
                return 0 <= lock < LOCKS
            case ("unlock", thread, lock):
                return lock in self._locks_of(thread)
            case ("wait", thread, condition, lock):
                return thread != 0 and _is_condition(condition) and self._locks_of(thread) == [lock]
            case ("signal", _, condition):
                return _is_condition(condition)
            case ("signal_all", _, condition):
                return _is_condition(condition)
            case ("woken", thread):
                return self._line_of(thread) is not None
        return True

    def _locks_of(self, thread):
        """The locks that a thread holds."""
        return [lock for lock in self.holders if self.holders[lock] == thread]

    def _line_of(self, thread):
        """The line in which a thread waits, None if it does not wait."""
        for line in self.lines:
            if line.index_of(thread) is not None:
                return line
        return None

    def _go_on(self, thread):
        """A woken thread leaves its line, holds its lock again and runs."""
        line = self._line_of(thread)
        self.holders[line.lock_of(thread)] = thread
        self.running[thread] = True
        line.go_on(thread)

    def _restart(self):
        """Thread 0 alone runs, nobody holds a lock, nobody waits."""
        self.running = {0: True}
        self.holders = {}
        self.lines = [Line() for _ in range(CONDITIONS)]


def _is_condition(condition):
    """Whether there is a condition with this number."""
    return 0 <= condition < CONDITIONS
