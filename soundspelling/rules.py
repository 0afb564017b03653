"""A rule: what letters sound like, and what letters it puts back."""

MOST_RULES = 64
MOST_LETTERS = 6
MOST_SOUNDS = 4
MOST_BACK = 5


class Rule:
    """Letters, their sounds, and the letters that come back in their place."""

    def __init__(self, letters, sounds, back):
        self.letters = tuple(letters)
        self.sounds = tuple(sounds)
        self.back = tuple(back)

    def has_right_sizes(self):
        """Tell whether no part is too long and fewer come back than are taken."""
        if len(self.letters) > MOST_LETTERS or len(self.sounds) > MOST_SOUNDS:
            return False
        return len(self.back) <= MOST_BACK and len(self.back) < len(self.letters)
