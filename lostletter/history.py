"""The code, and the changes that can be taken back and done again."""

MOST_BACK = 20


class History:
    """The code as it is, as it was ahead of each change, and as it was when one was taken back."""

    def __init__(self):
        self.code = ()
        self.earlier = []
        self.later = []

    def change(self, code):
        """Put another code in the place of the one there is, as a change."""
        # More than the last ones can't be taken back, so those ahead of them are let go.
        self.earlier = (self.earlier + [self.code])[-MOST_BACK:]
        self.later = []
        self.code = code

    def take_back(self):
        """Take the last change back; False if there is none."""
        if len(self.earlier) == 0:
            return False
        self.later.append(self.code)
        self.code = self.earlier.pop()
        return True

    def do_again(self):
        """Do the change again that was taken back last; False if there is none."""
        if len(self.later) == 0:
            return False
        self.earlier.append(self.code)
        self.code = self.later.pop()
        return True
