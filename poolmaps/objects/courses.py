"""Courses: one round of a plan, step by step."""

from poolmaps.base.checks import check_many, check_number
from poolmaps.errors import InvalidOperation
from poolmaps.objects.plans import STEPS, check_plan, plan_web, told_by_steps


class Course:
    """One round of a plan, step by step."""

    def __init__(self, plan):
        check_plan(plan)
        self._plan = plan
        self.set_steps(())

    def set_steps(self, steps):
        """Makes these the steps so far."""
        self._steps = steps
        self._told = told_by_steps(self._plan, steps)

    @property
    def plan(self):
        """The plan."""
        return self._plan

    @property
    def steps(self):
        """The threads that have made steps."""
        return self._steps

    @property
    def state(self):
        """The state of the object."""
        return self._told[0]

    @property
    def written(self):
        """The ascending tuple of the threads that have written."""
        return self._told[1]

    @property
    def answers(self):
        """The answers of both threads, None for a thread that has not done its operation."""
        return self._told[2]

    @property
    def signals(self):
        """The signals of both threads, None for a thread that has not looked."""
        return self._told[3]

    def move(self, thread):
        """Makes the next step of the thread: None for writing, the answer for doing, the signal for looking."""
        check_number(thread, 0, 1)
        made = len([each for each in self._steps if each == thread])
        if made == STEPS:
            raise InvalidOperation("the thread has made its steps")
        self.set_steps((*self._steps, thread))
        return (None, self.answers[thread], self.signals[thread])[made]

    def undo(self, *, many=1):
        """Takes back the last steps, and tells how many remain."""
        check_many(many, len(self._steps))
        self.set_steps(self._steps[:len(self._steps) - many])
        return len(self._steps)

    def web(self):
        """The web behind the whole round, which fails as long as some steps are to be made."""
        return plan_web(self._plan, self._steps)

    def twin(self):
        """An equal course that goes on by itself."""
        twin = Course(self._plan)
        twin.set_steps(self._steps)
        return twin

    def __len__(self):
        return len(self._steps)

    def __eq__(self, other):
        return isinstance(other, Course) and self._plan == other._plan and self._steps == other._steps

    def __str__(self):
        return f"course of {len(self._steps)} steps"
