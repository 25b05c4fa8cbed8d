"""The pages of files: which texts they can hold now and after a restart."""

from honestrun.answers import refused


class Page:
    """The text now, None if it is not known, and a dict whose keys are the texts that may survive.

    A text that is not known is what survives.
    """

    def __init__(self):
        self.now = ()
        self.may = {(): True}

    def copy(self):
        """A page that remembers the same."""
        twin = Page()
        twin.now = self.now
        twin.may = {text: True for text in self.may}
        return twin

    def is_new(self):
        """Whether the page is as at the beginning."""
        return self.now == () and len(self.may) == 1

    def can_hold(self, text):
        """Whether the page can hold a text now."""
        if self.now is None:
            return text in self.may
        return text == self.now

    def read(self, text):
        """A text that the page can hold was read."""
        if self.now is None:
            self.now = text
            self.may = {text: True}

    def write(self, text):
        """A text was written."""
        self.now = text
        self.may[text] = True

    def write_cut(self, text):
        """A text was written or not; a restart follows."""
        self.may[text] = True

    def sync(self):
        """The page was made safe."""
        if self.now is not None:
            self.may = {self.now: True}

    def restart(self):
        """The page holds what survived."""
        texts = list(self.may)
        self.now = texts[0] if len(texts) == 1 else None

    def recall(self, now, may):
        """Remember this text now, or None, and these texts that may survive, and nothing else."""
        self.now = now
        self.may = {text: True for text in may}


class Pages:
    """The pages by stamp and number; one that is not there is as at the beginning."""

    EVENTS = ("read", "write", "sync", "restart")

    def __init__(self):
        self.pages = {}

    def copy(self):
        """Pages that remember the same."""
        twin = Pages()
        twin.pages = {at: self.pages[at].copy() for at in self.pages}
        return twin

    def answer(self, event):
        """None if the event can be taken, otherwise what is answered to it; nothing changes."""
        match event:
            case ("read", _, stamp, number, text):
                page = self.pages.get((stamp, number), Page())
                if text is not None and not page.can_hold(text):
                    return refused(11)
        return None

    def change(self, event):
        """Take an event that can be taken."""
        match event:
            case ("read", _, stamp, number, text):
                if text is not None:
                    self._page(stamp, number).read(text)
            case ("write", _, stamp, number, text, done):
                if done:
                    self._page(stamp, number).write(text)
            case ("sync", _, stamp, done):
                if done:
                    self._sync(stamp)
            case ("restart", cut):
                self._restart(cut)

    def form(self, now, later):
        """The entries for the files that are keys of two dicts: files with a name now, and with one that survives."""
        entries = []
        for stamp, number in sorted(self.pages):
            page = self.pages[(stamp, number)]
            may = tuple(sorted(page.may))
            if page.is_new():
                continue
            if stamp in now:
                entries.append((stamp, number, page.now, may))
            elif stamp in later:
                entries.append((stamp, number, None, may))
        return tuple(entries)

    def recall(self, entries):
        """Remember what these entries of a form say, and nothing else."""
        self.pages = {}
        for stamp, number, now, may in entries:
            self._page(stamp, number).recall(now, may)

    def _page(self, stamp, number):
        """The page of a file, to be changed."""
        return self.pages.setdefault((stamp, number), Page())

    def _sync(self, stamp):
        """Make the pages of a file safe."""
        for at in self.pages:
            if at[0] == stamp:
                self.pages[at].sync()

    def _restart(self, cut):
        """Each page holds what survived of it; a cut write may have happened before."""
        match cut:
            case ("write", _, stamp, number, text):
                self._page(stamp, number).write_cut(text)
        # A cut sync needs no more: a known text is among what may survive in any case.
        for at in self.pages:
            self.pages[at].restart()
