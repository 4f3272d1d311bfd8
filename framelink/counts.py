"""What has happened at an end."""


class Counts:
    """What has happened at an end since it was opened."""

    def __init__(self):
        self.sent_frames = 0
        self.sent_bytes = 0
        self.heard_frames = 0
        self.heard_bytes = 0
        self.no_frames = 0
        self.for_others = 0
        self.dropped = 0
        self.refused_full = 0
        self.grown_old = 0
        self.not_taken = 0

    def in_order(self):
        """The ten numbers as the call counts tells them."""
        received = [self.heard_frames, self.heard_bytes, self.no_frames, self.for_others]
        lost = [self.dropped, self.refused_full, self.grown_old, self.not_taken]
        return [self.sent_frames, self.sent_bytes] + received + lost
