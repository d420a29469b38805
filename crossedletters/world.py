"""What there is: meetings with their guests, the guests' copies, and the letters on their way."""

PEOPLE = 5
LAST_TIME = 100000
MOST_LETTERS = 100

NO_TIME = -1
NO_ANSWER = 0
YES = 1
NO = 2
PERHAPS = 3

WORD = 0
ANSWER = 1

NO_USE = 0
COPY_TOLD = 1
ANSWER_COUNTS = 2


class Guest:
    """What the host knows of one guest."""

    def __init__(self, person):
        self.person = person
        self.words = 0
        self.asked = 1
        self.counted = 0
        self.answer = NO_ANSWER
        self.wish = NO_TIME


class Meeting:
    """A meeting as its host has it."""

    def __init__(self, number, host, time, people):
        self.number = number
        self.host = host
        self.time = time
        self.round_no = 1
        self.off = 0
        self.guests = [Guest(person) for person in people]

    def guest_of(self, person):
        """The guest that this person is, asked or not; None if they've never been one."""
        for guest in self.guests:
            if guest.person == person:
                return guest
        return None

    def asked_guest_of(self, person):
        """The guest that this person is, if they're asked now; else None."""
        guest = self.guest_of(person)
        if guest is None or guest.asked == 0:
            return None
        return guest

    def asked_guests(self):
        return [guest for guest in self.guests if guest.asked == 1]


class Word:
    """A letter from the host: all as it stands when it is sent. It is never changed."""

    def __init__(self, meeting, guest):
        self.guest = guest.person
        self.host = meeting.host
        self.meeting = meeting.number
        self.number = guest.words
        self.round_no = meeting.round_no
        self.time = meeting.time
        self.off = meeting.off
        self.asked = guest.asked

    def row(self):
        """The numbers by which it is shown."""
        head = [WORD, self.guest, self.host, self.meeting, self.number, self.round_no]
        return head + [self.time, self.off, self.asked]


class Answer:
    """A letter from a guest: what their copy has when it is sent. It is never changed."""

    def __init__(self, meeting, person, copy):
        self.guest = person
        self.host = meeting.host
        self.meeting = meeting.number
        self.number = copy.given
        self.round_no = copy.word.round_no
        self.what = copy.answer
        self.wish = copy.wish

    def row(self):
        """The numbers by which it is shown."""
        head = [ANSWER, self.host, self.guest, self.meeting, self.number, self.round_no]
        return head + [self.what, self.wish]


class Copy:
    """What a guest has of a meeting: the last word heard, and what they said to it."""

    def __init__(self, word):
        self.word = word
        self.given = 0
        self.answer = NO_ANSWER
        self.wish = NO_TIME

    def hear(self, word):
        # An answer to another round says nothing of this one.
        if word.round_no != self.word.round_no:
            self.answer = NO_ANSWER
            self.wish = NO_TIME
        self.word = word

    def invites(self):
        """Whether, by what was told, they may answer."""
        return self.word.off == 0 and self.word.asked == 1


class World:
    """All meetings, copies and letters of one line of calls."""

    def __init__(self):
        self.meetings = []
        self.copies = {}
        self.letters = []

    def copy_of(self, person, number):
        """This person's copy of the meeting of that number, or None."""
        return self.copies.get((person, number))

    def send(self, letter):
        # What finds no room is lost, but it was sent all the same.
        if len(self.letters) < MOST_LETTERS:
            self.letters.append(letter)

    def tell(self, meeting, guest):
        guest.words += 1
        self.send(Word(meeting, guest))

    def tell_asked(self, meeting):
        """Tell all that are asked; gives back how many these are."""
        asked = meeting.asked_guests()
        for guest in asked:
            self.tell(meeting, guest)
        return len(asked)

    def add_meeting(self, host, time, people):
        """Gives back the new meeting's number."""
        meeting = Meeting(len(self.meetings), host, time, people)
        self.meetings.append(meeting)
        self.tell_asked(meeting)
        return meeting.number

    def move(self, meeting, time):
        meeting.round_no += 1
        meeting.time = time
        # The count stays: guests count their answers on from round to round.
        for guest in meeting.guests:
            guest.answer = NO_ANSWER
            guest.wish = NO_TIME
        self.tell_asked(meeting)

    def hand_over(self, letter):
        """Gives back of what use the letter was."""
        if isinstance(letter, Word):
            return self.hand_over_word(letter)
        return self.hand_over_answer(letter)

    def hand_over_word(self, word):
        copy = self.copy_of(word.guest, word.meeting)
        if copy is None:
            self.copies[(word.guest, word.meeting)] = Copy(word)
            return COPY_TOLD
        if word.number <= copy.word.number:
            return NO_USE
        copy.hear(word)
        return COPY_TOLD

    def hand_over_answer(self, letter):
        meeting = self.meetings[letter.meeting]
        guest = meeting.asked_guest_of(letter.guest)
        if guest is None or meeting.off == 1:
            return NO_USE
        if letter.round_no != meeting.round_no or letter.number <= guest.counted:
            return NO_USE
        guest.counted = letter.number
        guest.answer = letter.what
        guest.wish = letter.wish
        return ANSWER_COUNTS
