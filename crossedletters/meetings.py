"""The calls, and how a list of them is read and answered.

Each call is a function of the world and of the call's own numbers, without the call's number ahead.
It gives back the numbers that are answered; a refusal is one number below 0.
"""

from crossedletters.world import Answer, Guest, LAST_TIME, NO, NO_ANSWER, NO_TIME, PEOPLE, PERHAPS, Word, World, YES

MOST_MEETINGS = 6

WRONG = -1
OVER = -2
NOT_THERE = -3
NOT_SO = -4
FULL = -5

# How many numbers stand behind a call's own number. Behind those of new come its guests.
SIZES = {0: 3, 1: 2, 2: 1, 3: 2, 4: 2, 5: 4, 6: 2, 7: 1, 8: 2, 9: 1, 10: 1, 11: 1, 12: 0, 13: 1, 14: 2, 15: 1}
NEW = 0
AT_GUESTS = 3

# What stands in the place of an answer where a person is shown a meeting of their own.
IS_HOST = 4


def is_meeting(world, number):
    return number < len(world.meetings)


def is_letter(world, number):
    return number < len(world.letters)


def refusal_to_change(world, number):
    """Why the host can't change the meeting of that number: -3, -2, or 0 if they can."""
    if not is_meeting(world, number):
        return NOT_THERE
    if world.meetings[number].off == 1:
        return OVER
    return 0


def may_meet(host, time, guests):
    people = [host] + guests
    return time <= LAST_TIME and max(people) < PEOPLE and len(set(people)) == len(people)


def new_meeting(world, numbers):
    host = numbers[0]
    time = numbers[1]
    guests = numbers[AT_GUESTS:]
    if not may_meet(host, time, guests):
        return [WRONG]
    if len(world.meetings) == MOST_MEETINGS:
        return [FULL]
    return [world.add_meeting(host, time, guests)]


def move_meeting(world, numbers):
    refusal = refusal_to_change(world, numbers[0])
    if refusal < 0:
        return [refusal]
    time = numbers[1]
    if time > LAST_TIME:
        return [WRONG]
    meeting = world.meetings[numbers[0]]
    world.move(meeting, time)
    return [meeting.round_no]


def call_off(world, numbers):
    refusal = refusal_to_change(world, numbers[0])
    if refusal < 0:
        return [refusal]
    meeting = world.meetings[numbers[0]]
    meeting.off = 1
    return [world.tell_asked(meeting)]


def ask_person(world, numbers):
    refusal = refusal_to_change(world, numbers[0])
    if refusal < 0:
        return [refusal]
    meeting = world.meetings[numbers[0]]
    person = numbers[1]
    if person >= PEOPLE or person == meeting.host:
        return [WRONG]
    guest = meeting.guest_of(person)
    if guest is None:
        guest = Guest(person)
        meeting.guests.append(guest)
    elif guest.asked == 1:
        return [NOT_SO]
    guest.asked = 1
    world.tell(meeting, guest)
    return [len(meeting.asked_guests())]


def take_off_person(world, numbers):
    refusal = refusal_to_change(world, numbers[0])
    if refusal < 0:
        return [refusal]
    meeting = world.meetings[numbers[0]]
    guest = meeting.asked_guest_of(numbers[1])
    if guest is None:
        return [NOT_SO]
    guest.asked = 0
    world.tell(meeting, guest)
    return [len(meeting.asked_guests())]


def give_answer(world, numbers):
    person = numbers[0]
    number = numbers[1]
    what = numbers[2]
    # The wish is told as 1 above the time, so that none is 0: one below, it is NO_TIME or the time.
    wish = numbers[3] - 1
    if not is_meeting(world, number):
        return [NOT_THERE]
    if what < YES or what > PERHAPS or wish > LAST_TIME:
        return [WRONG]
    copy = world.copy_of(person, number)
    if copy is None:
        return [NOT_SO]
    if not copy.invites():
        return [OVER]
    copy.given += 1
    copy.answer = what
    copy.wish = wish
    world.send(Answer(world.meetings[number], person, copy))
    return [copy.given]


def grant_wish(world, numbers):
    refusal = refusal_to_change(world, numbers[0])
    if refusal < 0:
        return [refusal]
    meeting = world.meetings[numbers[0]]
    guest = meeting.asked_guest_of(numbers[1])
    if guest is None or guest.wish == NO_TIME:
        return [NOT_SO]
    world.move(meeting, guest.wish)
    return [meeting.round_no, meeting.time]


def nudge_guests(world, numbers):
    if not is_meeting(world, numbers[0]):
        return [NOT_THERE]
    meeting = world.meetings[numbers[0]]
    for guest in meeting.guests:
        world.send(Word(meeting, guest))
    return [len(meeting.guests)]


def press_answer(world, numbers):
    person = numbers[0]
    number = numbers[1]
    if not is_meeting(world, number):
        return [NOT_THERE]
    copy = world.copy_of(person, number)
    if copy is None:
        return [NOT_SO]
    if copy.answer == NO_ANSWER:
        return [OVER]
    world.send(Answer(world.meetings[number], person, copy))
    return [copy.given]


def take_letter(world, numbers):
    if not is_letter(world, numbers[0]):
        return [NOT_THERE]
    return [world.hand_over(world.letters.pop(numbers[0]))]


def keep_letter(world, numbers):
    if not is_letter(world, numbers[0]):
        return [NOT_THERE]
    return [world.hand_over(world.letters[numbers[0]])]


def lose_letter(world, numbers):
    if not is_letter(world, numbers[0]):
        return [NOT_THERE]
    world.letters.pop(numbers[0])
    return [0]


def show_letters(world, numbers):
    shown = [len(world.letters)]
    for letter in world.letters:
        shown.extend(letter.row())
    return shown


def show_host(world, numbers):
    if not is_meeting(world, numbers[0]):
        return [NOT_THERE]
    meeting = world.meetings[numbers[0]]
    sayers_of_yes = [guest for guest in meeting.asked_guests() if guest.answer == YES]
    shown = [meeting.host, meeting.round_no, meeting.time, meeting.off, len(sayers_of_yes), len(meeting.guests)]
    for guest in meeting.guests:
        shown.extend([guest.person, guest.words, guest.asked, guest.counted, guest.answer, guest.wish])
    return shown


def show_copy(world, numbers):
    if not is_meeting(world, numbers[1]):
        return [NOT_THERE]
    copy = world.copy_of(numbers[0], numbers[1])
    if copy is None:
        return [NOT_SO]
    word = copy.word
    told = [word.number, word.round_no, word.time, word.off, word.asked]
    return told + [copy.given, copy.answer, copy.wish]


def row_for(world, person, meeting):
    """Time, number and what, as this person is shown the meeting; None if they aren't shown it."""
    if meeting.host == person:
        return (meeting.time, meeting.number, IS_HOST) if meeting.off == 0 else None
    copy = world.copy_of(person, meeting.number)
    if copy is None or not copy.invites() or copy.answer == NO:
        return None
    return (copy.word.time, meeting.number, copy.answer)


def show_person(world, numbers):
    person = numbers[0]
    if person >= PEOPLE:
        return [WRONG]
    rows = [row_for(world, person, meeting) for meeting in world.meetings]
    rows = sorted([row for row in rows if row is not None])
    shown = [len(rows)]
    for row in rows:
        shown.extend(row)
    return shown


CALLS = {
    0: new_meeting,
    1: move_meeting,
    2: call_off,
    3: ask_person,
    4: take_off_person,
    5: give_answer,
    6: grant_wish,
    7: nudge_guests,
    8: press_answer,
    9: take_letter,
    10: keep_letter,
    11: lose_letter,
    12: show_letters,
    13: show_host,
    14: show_copy,
    15: show_person,
}


def end_of_call(calls, start):
    """Where the call that begins at start ends, and the next one begins."""
    end = start + 1 + SIZES[calls[start]]
    if calls[start] == NEW:
        end += calls[start + AT_GUESTS]
    return end


def answers(calls):
    """The answers to the calls, one behind another, each with how many numbers it has ahead of it."""
    world = World()
    given_back = []
    start = 0
    while start < len(calls):
        end = end_of_call(calls, start)
        call = CALLS[calls[start]]
        answered = call(world, calls[start + 1:end])
        given_back.append(len(answered))
        given_back.extend(answered)
        start = end
    return given_back
