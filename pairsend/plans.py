"""A plan: a mode, a goal and the lists of messages."""

from pairsend.canonical import different


class Plan:
    """The X codes (one in mode 0, else one for each class) and the Y code or class list.

    A plan isn't changed once it is made, so several states may hold the same one.
    """

    def __init__(self, mode, goal, x_codes, y_code):
        self.mode = mode
        self.goal = goal
        self.x_codes = x_codes
        self.y_code = y_code

    def y_message(self, y):
        """Return the Y message of each pair with this Y symbol."""
        return self.y_code[y]

    def x_message(self, x, y):
        """Return the X message of the pair."""
        if self.mode == 0:
            return self.x_codes[0][x]
        return self.x_codes[self.y_code[y]][x]

    def x_size(self):
        """Return the greatest number of different messages in an X code that is in use."""
        if self.mode == 0:
            return different(self.x_codes[0])
        return max([different(self.x_codes[number]) for number in self.y_code])

    def y_size(self):
        """Return the number of different Y messages or classes, but 0 in mode 3."""
        if self.mode == 3:
            return 0
        return different(self.y_code)

    def x_messages(self):
        """Return the messages of all X codes, one code behind the other."""
        messages = []
        for code in self.x_codes:
            messages.extend(code)
        return messages
