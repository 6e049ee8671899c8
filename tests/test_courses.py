"""Courses of rounds of plans, step by step, against a record of the tests' own."""

from random import Random

from poolmaps.errors import InvalidNumber, InvalidOperation, NothingToUndo
from poolmaps.objects.courses import Course
from poolmaps.objects.kinds import cell_kind, flag_kind
from poolmaps.objects.plans import Plan, plan_web
from tests.support import WRONG, Case, not_numbers, wrong_where
from tests.test_plans import PLANS, web_by_hand


def record(plan, steps):
    """All that is told behind these steps, and what the last one returned."""
    state, done, told = plan.start, [[], []], None
    answers, signals = [None, None], [None, None]
    for thread in steps:
        done[thread].append(thread)
        place = len(done[thread])
        told = None
        if place == 2:
            state, answers[thread] = plan.kind.table[state][plan.operations[thread]]
            told = answers[thread]
        if place == 3:
            heard = tuple(each for each in (0, 1) if done[each])
            told = signals[thread] = (heard, 100 * answers[thread] + state)
    written = tuple(each for each in (0, 1) if done[each])
    return (state, written, tuple(answers), tuple(signals)), told


class CoursesTest(Case):
    def checks(self, course, plan, steps):
        told, _ = record(plan, steps)
        self.assertEqual((course.state, course.written, course.answers, course.signals), told)
        self.assertEqual((course.plan, course.steps, len(course)), (plan, tuple(steps), len(steps)))
        self.assertEqual(str(course), f"course of {len(steps)} steps")
        if len(steps) == 6:
            self.assertEqual(course.web(), web_by_hand(plan, steps))
            self.assertEqual(course.web(), plan_web(plan, tuple(steps)))
        else:
            self.fails(InvalidOperation, course.web)

    def test_drawn_histories(self):
        drawn = Random(23)
        for plan in PLANS[::3]:
            course, steps = Course(plan), []
            for _ in range(25):
                choice = drawn.randrange(8)
                if choice < 6:
                    thread = drawn.randrange(2)
                    if steps.count(thread) == 3:
                        self.fails(InvalidOperation, course.move, thread)
                    else:
                        steps.append(thread)
                        self.assertEqual(course.move(thread), record(plan, steps)[1])
                elif choice == 6:
                    many = drawn.randrange(4)
                    if many > len(steps):
                        self.fails_keeping(NothingToUndo, many, course.undo, many=many)
                    else:
                        steps = steps[:len(steps) - many]
                        self.assertEqual(course.undo(many=many), len(steps))
                else:
                    twin = course.twin()
                    self.assertTrue(twin == course and course == twin)
                    if steps.count(0) < 3:
                        twin.move(0)
                    else:
                        twin.undo()
                    self.assertTrue(twin != course)
                self.checks(course, plan, steps)

    def test_errors_and_equality(self):
        self.checks_arguments(Course, (PLANS[0],), ((InvalidOperation, wrong_where(
            lambda value: type(value) is Plan, flag_kind())),))
        course = Course(Plan(flag_kind(), 0, 0, 0))
        for _ in range(2):
            self.checks_arguments(course.move, (0,), ((InvalidNumber, not_numbers(0, 1)),))
            self.checks(course, course.plan, course.steps)
            for thread in (0, 0, 0, 1, 1, 1):
                if course.steps.count(thread) < 3:
                    course.move(thread)
        self.fails(InvalidOperation, course.move, 0)
        for many in not_numbers(0, 10 ** 60 - 1):
            self.fails_keeping(InvalidNumber, many, course.undo, many=many)
        self.fails_keeping(NothingToUndo, 7, course.undo, many=7)
        self.assertEqual((course.undo(), course.undo(many=0), course.undo(many=5)), (5, 5, 0))
        self.fails_keeping(NothingToUndo, 1, course.undo)
        self.assertTrue(course == Course(Plan(flag_kind(), 0, 0, 0)))
        self.assertFalse(course == Course(Plan(flag_kind(), 1, 0, 0)) or course == Course(Plan(cell_kind(1), 0, 0, 0)))
        for value in WRONG:
            self.assertIs(course == value, False)
        self.fails(TypeError, iter, course)
