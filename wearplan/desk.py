"""A desk: a works that is kept round by round, with its parts' stands and what was paid."""

from wearplan.errors import NoRounds, NoStands
from wearplan.leading import with_mark, with_part, with_shut
from wearplan.parts import GREATEST_FIRST
from wearplan.tables import best_plan
from wearplan.walks import do_round
from wearplan.works import Works, cost_of


class Desk:
    """Keeps a works, its round, its parts' stands and what was paid; what is refused changes nothing."""

    def __init__(self, call):
        self.kept = Works((), call, ())
        self.round_number = 0
        self.stands = ()
        self.paid = 0

    def add(self, part):
        """Add a part, full, and tell its number."""
        self.kept = with_part(self.kept, part)
        self.stands = self.stands + (part.full,)
        return len(self.stands) - 1

    def set_mark(self, k, mark):
        """Give part k that mark, and tell whether it is another one than before."""
        changed = with_mark(self.kept, k, mark)
        if self.stands[k] < mark:
            raise NoStands()
        is_other = self.kept.parts[k].mark != mark
        self.kept = changed
        return is_other

    def shut_round(self, round_number):
        """Shut one round more."""
        self.kept = with_shut(self.kept, round_number)
        return True

    def go(self, choice):
        """Do the round with that choice, and tell the stands behind it."""
        if self.round_number > GREATEST_FIRST:
            raise NoRounds()
        cost = cost_of(self.kept, choice)
        self.stands = do_round(self.kept, self.stands, choice, self.round_number)
        self.round_number += 1
        self.paid += cost
        return self.stands

    def told(self):
        """Tell the round, the stands, and what was paid."""
        return self.round_number, self.stands, self.paid

    def works(self):
        """Tell the works as it is now."""
        return self.kept

    def plan(self, rounds):
        """Tell the best plan of so many rounds from now on."""
        return best_plan(self.kept, self.stands, self.round_number, rounds)
