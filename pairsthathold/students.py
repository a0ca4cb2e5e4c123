"""The students: their lists, whom each one has, and the changes that can be taken back or done again."""

MOST_STUDENTS = 7
MOST_WISHES = 6
MOST_CHANGES = 20


class Students:
    """What is kept from call to call.

    lists holds a tuple for each student, whom they'd rather have first; mates tells whom each one has, themselves
    if alone. Both are tuples, and a change puts others in their place: so those of before can be kept as they are.
    past and undone hold both as they were, the newest last.
    """

    def __init__(self):
        self.begin(0)

    def begin(self, n):
        self.lists = tuple([()] * n)
        self.mates = tuple(range(n))
        self.past = []
        self.undone = []

    def has(self, a):
        return a < len(self.lists)

    def change(self, lists, mates):
        self.past.append((self.lists, self.mates))
        self.past = self.past[-MOST_CHANGES:]
        self.undone = []
        self.put((lists, mates))

    def take_back(self):
        self.undone.append((self.lists, self.mates))
        self.put(self.past.pop())

    def do_again(self):
        self.past.append((self.lists, self.mates))
        self.put(self.undone.pop())

    def put(self, kept):
        self.lists = kept[0]
        self.mates = kept[1]
