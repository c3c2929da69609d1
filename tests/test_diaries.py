"""[67] to [74]: diaries."""

import copy
import itertools
import random
import unittest

from tablebills.bills import Bill
from tablebills.books import is_book
from tablebills.diaries import Diary
from tablebills.errors import NoBack, NoPage
from tablebills.lines import shown_pages
from tablebills.paying import to_pay
from tablebills.readings import read_page, read_pages
from tests.chances import BOOKS
from tests.samples import ANY_THINGS, DEEDS, deep
from tests.walks import HOUSE, book

OTHER_HOUSE = HOUSE[:2] + (41, 2)
SIT, ASK, PAY, BOB, SHARED = [read_page(text) for text in (
    "5.0 sit ann one", "6.0 ask 0 bun 0 ann", "7.0 pay ann 4", "5.1 sit bob one", "6.1 ask 1 ham 0 ann bob")]
# Of the names of those above, and unlike.
UNLIKE_SIT, UNLIKE_ASK = read_page("5.0 sit ann two"), read_page("6.0 ask 0 ham 0 ann")
FIRST = (SIT, ASK)


def diary_of(*steps, house=HOUSE):
    """A diary to which these PAGES were told, these BOOKS brought; a NUMBER is how many STEPS go back."""
    diary = Diary(house)
    for step in steps:
        if isinstance(step, int):
            diary.back(step)
        elif is_book(step):
            diary.bring(step)
        else:
            diary.tell(step)
    return diary


def all_told(diary):
    """All that a diary tells, with its STEPS."""
    return (diary.house(), diary.book(), diary.steps(), [diary.then(k) for k in range(diary.steps() + 1)],
            diary.turned(), len(diary), str(diary), diary.until((6, 0)))


class Checks(unittest.TestCase):
    def refused(self, word, call, *told, **named):
        with self.assertRaises(NoPage) as caught:
            call(*told, **named)
        self.assertEqual(caught.exception.word, word, (told, named))

    def no_back(self, diary, *told, **named):
        thing = (told or tuple(named.values()) or (1,))[0]
        with self.assertRaises(NoBack) as caught:
            diary.back(*told, **named)
        self.assertIs(caught.exception.times, thing)


class TestNew(Checks):
    def test_a_new_one(self):
        for diary in (Diary(HOUSE), Diary(house=HOUSE)):
            self.assertEqual(all_told(diary), (HOUSE, (), 0, [()], (), 0, "", ()))
            self.assertIs(bool(diary), False)
            self.no_back(diary)


class TestTell(Checks):
    def test_a_page_that_comes(self):
        diary = Diary(HOUSE)
        self.assertIs(diary.tell(SIT), True)
        self.assertEqual(diary.book(), (SIT,))
        self.assertIs(diary.tell(page=ASK), True)
        self.assertEqual(diary.book(), (SIT, ASK))
        self.assertEqual(diary.steps(), 2)

    def test_late_ones_stand_where_they_belong(self):
        for order in itertools.permutations((SIT, ASK, PAY, BOB)):
            self.assertEqual(diary_of(*order).book(), (SIT, BOB, ASK, PAY))

    def test_it_once_more(self):
        diary = diary_of(SIT, ASK)
        for page in (SIT, ASK, copy.deepcopy(SIT), ASK):
            self.assertIs(diary.tell(page), False)
        self.assertEqual((diary.book(), diary.steps()), ((SIT, ASK), 2))

    def test_an_unlike_one_of_its_name(self):
        diary = diary_of(SIT, ASK)
        ahead = all_told(diary)
        for page in (UNLIKE_SIT, UNLIKE_ASK, (SIT[0], ASK[1]), ((5, 0), ("go", "ann"))):
            self.refused("twice", diary.tell, page)
        self.assertEqual(all_told(diary), ahead)
        # Once the other is gone, it may come.
        diary.back()
        self.assertIs(diary.tell(UNLIKE_ASK), True)

    def test_no_page(self):
        diary = diary_of(SIT, ASK)
        ahead = all_told(diary)
        for thing in ANY_THINGS + ((), (SIT,), [SIT], list(SIT), SIT[0], SIT[1], SIT + (1,), ((5, True), ("go", "ann")),
                                   ((True, 5), ("go", "ann")), ((-1, 0), ("go", "ann")), ((5, 0), ["go", "ann"]),
                                   ((5, 0), ("go", "Ann")), ([5, 0], ("go", "ann")), ((5, 0), ("pay", "ann", 0)),
                                   ((5, 0), ("pay", "ann", True)), "5.0 sit ann one", Diary(HOUSE)):
            self.refused("kind", diary.tell, thing)
        self.assertEqual(all_told(diary), ahead)

    def test_true_is_no_number(self):
        # A thing that Python finds like a PAGE that is there.
        diary = diary_of(((1, 0), ("serve", 1)))
        for thing in (((True, 0), ("serve", 1)), ((1, False), ("serve", 1)), ((1, 0), ("serve", True))):
            self.refused("kind", diary.tell, thing)
            self.refused("kind", diary.bring, (thing,))
        self.assertEqual(diary.steps(), 1)

    def test_pages_that_are_idle_come_too(self):
        diary = Diary(HOUSE)
        for at, (deed, text) in enumerate(DEEDS):
            self.assertIs(diary.tell(((at, 0), deed)), True)
        self.assertEqual(len(diary), len(DEEDS))


class TestBring(Checks):
    def test_a_book(self):
        diary = Diary(HOUSE)
        self.assertEqual(diary.bring(FIRST), ((5, 0), (6, 0)))
        self.assertEqual((diary.book(), diary.steps()), (FIRST, 1))
        self.assertEqual(diary.bring(book=(BOB, PAY)), ((5, 1), (7, 0)))
        self.assertEqual((diary.book(), diary.steps()), ((SIT, BOB, ASK, PAY), 2))

    def test_of_which_some_are_there(self):
        diary = diary_of(SIT, PAY)
        self.assertEqual(diary.bring((SIT, BOB, ASK, PAY)), ((5, 1), (6, 0)))
        self.assertEqual((diary.book(), diary.steps()), ((SIT, BOB, ASK, PAY), 3))
        self.assertEqual(diary.back(), ((5, 1), (6, 0)))
        self.assertEqual(diary.book(), (SIT, PAY))

    def test_of_none_new(self):
        diary = diary_of(FIRST)
        for pages in ((), (SIT,), (ASK,), FIRST):
            self.assertEqual(diary.bring(pages), ())
        self.assertEqual((diary.book(), diary.steps()), (FIRST, 1))
        self.assertEqual(Diary(HOUSE).bring(()), ())

    def test_one_that_is_refused_changes_nothing(self):
        diary = diary_of(FIRST, BOB)
        ahead = all_told(diary)
        for pages in ((UNLIKE_SIT,), (UNLIKE_SIT, PAY), (SIT, UNLIKE_ASK), (read_page("1.0 sit cy one"), UNLIKE_ASK),
                      (SIT, BOB, UNLIKE_ASK, PAY)):
            self.refused("twice", diary.bring, pages)
            self.assertEqual(all_told(diary), ahead)

    def test_no_book(self):
        diary = diary_of(FIRST)
        ahead = all_told(diary)
        for thing in ANY_THINGS + (SIT, [SIT], list(FIRST), FIRST[::-1], (SIT, SIT), (SIT, UNLIKE_SIT), (SIT, ASK, BOB),
                                   (SIT, None), (PAY, []), (list(PAY),), ((), PAY), (FIRST,), "", shown_pages(FIRST), None,
                                   Diary(HOUSE)):
            self.refused("kind", diary.bring, thing)
        self.assertEqual(all_told(diary), ahead)

    def test_kind_goes_ahead_of_twice(self):
        diary = diary_of(FIRST)
        self.refused("kind", diary.bring, (UNLIKE_SIT, None))
        self.refused("kind", diary.bring, (UNLIKE_ASK, UNLIKE_SIT))
        self.refused("kind", diary.bring, [UNLIKE_SIT])
        self.refused("kind", diary.tell, list(UNLIKE_SIT))


class TestBack(Checks):
    def test_one(self):
        diary = diary_of(SIT, ASK, PAY)
        self.assertEqual(diary.back(), ((7, 0),))
        self.assertEqual(diary.book(), (SIT, ASK))
        self.assertEqual(diary.back(1), ((6, 0),))
        self.assertEqual(diary.back(times=1), ((5, 0),))
        self.assertEqual((diary.book(), diary.steps()), ((), 0))
        self.no_back(diary)

    def test_several(self):
        diary = diary_of(PAY, SIT, (BOB, ASK), SHARED)
        # A rising tuple, whatever the order they came in.
        self.assertEqual(diary.back(3), ((5, 0), (5, 1), (6, 0), (6, 1)))
        self.assertEqual((diary.book(), diary.steps()), ((PAY,), 1))
        diary = diary_of(PAY, SIT, (BOB, ASK), SHARED)
        self.assertEqual(diary.back(4), ((5, 0), (5, 1), (6, 0), (6, 1), (7, 0)))
        self.assertEqual(diary.steps(), 0)

    def test_the_last_ones_by_their_coming(self):
        diary = diary_of(PAY, ASK, SIT)
        self.assertEqual(diary.back(2), ((5, 0), (6, 0)))
        self.assertEqual(diary.book(), (PAY,))

    def test_calls_that_are_no_steps_arent_counted(self):
        diary = diary_of(SIT, ASK)
        diary.tell(SIT)
        diary.bring(FIRST)
        self.refused("twice", diary.tell, UNLIKE_SIT)
        self.assertEqual(diary.back(), ((6, 0),))
        self.assertEqual(diary.book(), (SIT,))

    def test_what_went_may_come_again(self):
        diary = diary_of(SIT, ASK, 1, ASK, 2, FIRST)
        self.assertEqual((diary.book(), diary.steps()), (FIRST, 1))

    def test_no_number_of_them(self):
        diary = diary_of(SIT, ASK, PAY)
        ahead = all_told(diary)
        for thing in (0, 4, 5, -1, -3, 10 ** 199, True, False, None, "", "1", "one", (), (1,), [], [1], deep(20)):
            self.no_back(diary, thing)
            self.no_back(diary, times=thing)
        for thing in ANY_THINGS:
            if thing != 1 or thing is True:
                self.no_back(diary, thing)
        self.assertEqual(all_told(diary), ahead)
        self.no_back(Diary(HOUSE), 1)
        self.no_back(Diary(HOUSE), True)
        self.no_back(Diary(HOUSE), 0)


class TestViews(Checks):
    def test_house(self):
        self.assertEqual(Diary(HOUSE).house(), HOUSE)
        self.assertEqual(Diary(OTHER_HOUSE).house(), OTHER_HOUSE)

    def test_until(self):
        diary = diary_of((SIT, BOB, ASK, SHARED, PAY))
        for name, many in (((0, 0), 0), ((4, 999), 0), ((5, 0), 1), ((5, 1), 2), ((5, 2), 2), ((6, 0), 3), ((6, 1), 4),
                           ((6, 999), 4), ((7, 0), 5), ((10 ** 9, 0), 5)):
            self.assertEqual(diary.until(name), diary.book()[:many])
            self.assertEqual(diary.until(name=name), diary.book()[:many])
        self.assertEqual(Diary(HOUSE).until((5, 0)), ())

    def test_then(self):
        diary = diary_of(PAY, (SIT, ASK), BOB)
        views = [(), (PAY,), (SIT, ASK, PAY), (SIT, BOB, ASK, PAY)]
        self.assertEqual([diary.then(k) for k in range(4)], views)
        self.assertEqual(diary.then(k=2), views[2])
        diary.tell(SHARED)
        self.assertEqual([diary.then(k) for k in range(4)], views)
        diary.back(2)
        self.assertEqual([diary.then(k) for k in range(3)], views[:3])
        self.refused("number", diary.then, 3)

    def test_then_of_no_number_of_them(self):
        diary = diary_of(SIT, ASK)
        ahead = all_told(diary)
        for thing in ANY_THINGS + (3, -1, "0", "", (), (1,), [1], None, True, False, 10 ** 199, deep(20)):
            if thing in (0, 1, 2) and not isinstance(thing, bool):
                continue
            self.refused("number", diary.then, thing)
        self.assertEqual(all_told(diary), ahead)
        self.refused("number", Diary(HOUSE).then, 1)
        self.assertEqual(Diary(HOUSE).then(0), ())
        self.refused("number", Diary(HOUSE).then, False)

    def test_steps(self):
        diary = Diary(HOUSE)
        for many, step in enumerate((PAY, (SIT, ASK), BOB)):
            self.assertEqual(diary.steps(), many)
            diary.bring(step) if many == 1 else diary.tell(step)
        self.assertEqual((diary.steps(), len(diary)), (3, 4))

    def test_len_and_str(self):
        diary = diary_of(PAY, BOB, SIT)
        self.assertEqual(len(diary), 3)
        self.assertIs(bool(diary), True)
        self.assertEqual(str(diary), "5.0 sit ann one\n5.1 sit bob one\n7.0 pay ann 4")
        self.assertEqual(str(diary_of(SIT)), "5.0 sit ann one")
        self.assertEqual(str(Diary(HOUSE)), "")
        for pages in BOOKS[:5]:
            diary = diary_of(pages)
            self.assertEqual(read_pages(str(diary)), pages)
            self.assertEqual(str(diary), shown_pages(pages))


class TestTurned(Checks):
    def test_behind_each_call(self):
        diary = Diary(HOUSE)
        self.assertEqual(diary.turned(), ())
        for call, thing, told in ((diary.tell, SIT, ()), (diary.tell, BOB, ()), (diary.tell, ASK, ("ann",)),
                                  (diary.tell, SHARED, ("ann", "bob")), (diary.tell, PAY, ("ann",)),
                                  (diary.tell, PAY, ()), (diary.back, 1, ("ann",)), (diary.back, 1, ("ann", "bob")),
                                  (diary.bring, (SIT, ASK), ()), (diary.bring, (SHARED, PAY), ("bob",)),
                                  (diary.back, 4, ("ann", "bob")), (diary.bring, (), ())):
            call(thing)
            self.assertEqual(diary.turned(), told, (call, thing))
            self.assertEqual(diary.turned(), told)

    def test_behind_refused_ones(self):
        diary = diary_of(SIT, ASK)
        for call, thing in ((diary.tell, UNLIKE_SIT), (diary.tell, None), (diary.bring, (UNLIKE_ASK,)), (diary.bring, []),
                            (diary.back, 3), (diary.back, True), (diary.then, 9)):
            self.assertRaises((NoPage, NoBack), call, thing)
            self.assertEqual(diary.turned(), ("ann",))
        diary = Diary(HOUSE)
        self.assertRaises(NoBack, diary.back)
        self.assertRaises(NoPage, diary.tell, 5)
        self.assertEqual(diary.turned(), ())

    def test_looks_turn_nothing(self):
        diary = diary_of(SIT, ASK)
        all_told(diary)
        self.assertTrue(diary == diary_of(FIRST))
        self.assertEqual(diary.turned(), ("ann",))

    def test_who_never_sat_has_nought_there(self):
        # Behind the call, and ahead of it.
        diary = diary_of(FIRST)
        self.assertEqual(diary.turned(), ("ann",))
        diary.back()
        self.assertEqual(diary.turned(), ("ann",))
        self.assertEqual(to_pay(HOUSE, diary.book()), ())
        # Who sits with nothing TO PAY isn't turned.
        self.assertEqual(diary_of((SIT, BOB)).turned(), ())
        self.assertEqual(diary_of((SIT, BOB), 1).turned(), ())

    def test_a_late_page_turns_what_comes_behind_it(self):
        # Without the "sit" all behind it is IDLE.
        diary = diary_of((ASK, PAY))
        self.assertEqual(diary.turned(), ())
        diary.tell(SIT)
        self.assertEqual(diary.turned(), ("ann",))
        # What turns away and back again by one call isn't turned.
        diary = diary_of(SIT)
        diary.bring((ASK, read_page("7.1 pay ann 10")))
        self.assertEqual(diary.turned(), ())

    def test_back_of_several_steps(self):
        diary = diary_of(SIT, ASK, PAY, read_page("8.0 pay ann 6"))
        diary.back(3)
        self.assertEqual(diary.turned(), ())
        self.assertEqual(diary.book(), (SIT,))

    def test_against_what_is_to_pay(self):
        for seed, pages in enumerate(BOOKS[:20]):
            dice, diary = random.Random(seed), Diary(HOUSE)
            for call in range(25):
                ahead = dict(to_pay(HOUSE, diary.book()))
                if diary.steps() and dice.random() < 0.25:
                    diary.back(dice.randint(1, diary.steps()))
                elif dice.random() < 0.5:
                    diary.tell(dice.choice(pages))
                else:
                    diary.bring(tuple(sorted(dice.sample(pages, 6))))
                now = dict(to_pay(HOUSE, diary.book()))
                self.assertEqual(diary.turned(), tuple(seat for seat in sorted(set(ahead) | set(now))
                                                       if ahead.get(seat, 0) != now.get(seat, 0)))


class TestAlike(Checks):
    def test_by_house_and_book_alone(self):
        self.assertTrue(Diary(HOUSE) == Diary(copy.deepcopy(HOUSE)))
        self.assertTrue(diary_of(SIT, ASK) == diary_of(FIRST))
        self.assertTrue(diary_of(ASK, SIT) == diary_of(PAY, 1, FIRST))
        self.assertFalse(diary_of(ASK, SIT) != diary_of(FIRST))
        diary = diary_of(SIT)
        self.assertTrue(diary == diary)

    def test_unlike(self):
        for diary, other in ((diary_of(SIT), diary_of(UNLIKE_SIT)), (diary_of(SIT), Diary(HOUSE)),
                             (diary_of(SIT), diary_of(FIRST)), (Diary(HOUSE), Diary(OTHER_HOUSE)),
                             (diary_of(SIT), diary_of(SIT, house=OTHER_HOUSE))):
            for first, second in ((diary, other), (other, diary)):
                self.assertIs(first == second, False)
                self.assertIs(first != second, True)

    def test_things_of_other_kinds(self):
        for diary in (Diary(HOUSE), diary_of(FIRST)):
            for thing in ANY_THINGS + (HOUSE, FIRST, (HOUSE, FIRST), [HOUSE, FIRST], "", str(diary), (), [diary], (diary,),
                                       Bill("ann"), len(diary)):
                self.assertIs(diary == thing, False)
                self.assertIs(thing == diary, False)
                self.assertIs(diary != thing, True)

    def test_brought_one_anothers_book(self):
        """[74]"""
        for seed, pages in enumerate(BOOKS[:20]):
            dice = random.Random(seed)
            one, other = diary_of(*dice.sample(pages, 20)), diary_of(*dice.sample(pages, 20))
            self.assertFalse(one == other)
            one.bring(other.book())
            other.bring(one.book())
            self.assertTrue(one == other)
            self.assertEqual(str(one), str(other))

    def test_two_know_nothing_of_one_another(self):
        """[74]"""
        for house in (HOUSE, OTHER_HOUSE):
            one, other = Diary(HOUSE), Diary(house)
            one.tell(SIT)
            other.bring((UNLIKE_SIT, ASK))
            one.tell(ASK)
            self.assertEqual((one.book(), one.steps(), one.turned()), (FIRST, 2, ("ann",)))
            self.assertEqual((other.book(), other.steps(), other.house()), ((UNLIKE_SIT, ASK), 1, house))
            one.back(2)
            self.assertEqual(other.book(), (UNLIKE_SIT, ASK))


class TestSo(Checks):
    def test_in_whatever_order_and_however_often(self):
        """[74]"""
        for seed, pages in enumerate(BOOKS[:15]):
            dice = random.Random(seed)
            mixed = list(pages + pages[::2])
            dice.shuffle(mixed)
            diary = diary_of(*mixed)
            self.assertTrue(diary == diary_of(pages))
            self.assertEqual((diary.book(), diary.steps(), len(diary)), (pages, 40, 40))
            self.assertEqual(str(diary), str(diary_of(pages)))
            for name, deed in pages:
                self.assertEqual(diary.until(name), tuple(page for page in pages if page[0] <= name))

    def test_an_earlier_book_is_told_as_it_was(self):
        """[74]"""
        dice = random.Random(3)
        pages = list(BOOKS[3])
        dice.shuffle(pages)
        diary, views = Diary(HOUSE), [()]
        for page in pages:
            diary.tell(page)
            views.append(diary.book())
            self.assertEqual([diary.then(k) for k in range(diary.steps() + 1)], views)
        diary.back(15)
        self.assertEqual([diary.then(k) for k in range(diary.steps() + 1)], views[:26])

    def test_sixty_steps(self):
        pages = tuple(((minute, 0), ("go", "ann")) for minute in range(60))
        diary = diary_of(*pages[::-1])
        self.assertEqual((diary.steps(), len(diary), diary.book()), (60, 60, pages))
        self.assertEqual(diary.then(59), pages[1:])
        self.no_back(diary, 61)
        self.assertEqual(diary.back(60), tuple(page[0] for page in pages))
        # Sixty calls, most of them undone again.
        diary = Diary(HOUSE)
        for page in pages:
            diary.tell(page)
            diary.back()
        self.assertEqual((diary.steps(), diary.book()), (0, ()))

    def test_what_is_told_is_the_askers_own(self):
        """[2]"""
        diary = diary_of(SIT, ASK)
        told = (diary.book(), diary.then(1), diary.until((5, 0)), diary.turned())
        names = diary.bring((BOB,))
        diary.back(3)
        self.assertEqual(told, (FIRST, (SIT,), (SIT,), ("ann",)))
        self.assertEqual(names, ((5, 1),))
        self.assertTrue(all(type(each) is tuple for each in told))

    def test_nothing_that_is_handed_in_is_changed(self):
        """[2]"""
        house, pages, things = copy.deepcopy(HOUSE), copy.deepcopy(BOOKS[0]), copy.deepcopy(ANY_THINGS)
        diary = diary_of(pages, house=house)
        for thing in things:
            self.assertRaises(NoPage, diary.tell, thing)
            self.assertRaises(NoPage, diary.bring, thing)
        diary.back()
        self.assertEqual((house, pages, things), (HOUSE, BOOKS[0], ANY_THINGS))
        # A list that is filled behind a refusal changes nothing.
        pages = []
        self.refused("kind", diary.bring, pages)
        pages.append(SIT)
        self.assertEqual(diary.book(), ())

    def test_a_book_told_by_text(self):
        """[35]"""
        pages = book("sit ann one | ask 0 bun 0 ann | fire one 0", 30)
        self.assertEqual(diary_of(read_pages(shown_pages(pages))).book(), pages)


if __name__ == "__main__":
    unittest.main()
