"""Marks and the lines that joined them: groups, levels and ways."""


class Forest:
    # A line joins only where no way led before, so the joined lines never close a ring.
    def __init__(self):
        # for each mark: its group, its height over a base of that group, its joined lines
        self.group_of = []
        self.levels = []
        self.links = []
        # for each group: its marks
        self.members = {}

    def add_mark(self):
        mark = len(self.levels)
        self.group_of.append(mark)
        self.levels.append(0)
        self.links.append([])
        self.members[mark] = [mark]

    def count_groups(self):
        return len(self.members)

    def together(self, one, other):
        return self.group_of[one] == self.group_of[other]

    # By how much the upper stands over the lower; they hang together.
    def rise(self, lower, upper):
        return self.levels[upper] - self.levels[lower]

    def members_with(self, mark):
        return self.members[self.group_of[mark]]

    def count_together(self, mark):
        return len(self.members_with(mark))

    # The number stands behind the level, so that of several at one level the least is taken.
    def lowest(self, mark):
        return min([(self.levels[each], each) for each in self.members_with(mark)])[1]

    # The level's sign is turned, so that here too the least number is taken.
    def highest(self, mark):
        return min([(-self.levels[each], each) for each in self.members_with(mark)])[1]

    def add_line(self, number, first, second, height):
        off = height - self.rise(first, second)
        # moving the smaller group keeps long books quick
        if self.count_together(first) < self.count_together(second):
            self.move_group(first, second, -off)
        else:
            self.move_group(second, first, off)
        self.links[first].append((number, second))
        self.links[second].append((number, first))

    def move_group(self, mark, into, shift):
        group = self.group_of[into]
        moved = self.members.pop(self.group_of[mark])
        for each in moved:
            self.group_of[each] = group
            self.levels[each] += shift
        self.members[group].extend(moved)

    # The numbers of the joined lines from start to goal; they hang together.
    def way(self, start, goal):
        onward = self.onward_to(goal)
        numbers = []
        mark = start
        while mark != goal:
            numbers.append(onward[mark][0])
            mark = onward[mark][1]
        return numbers

    # For each other mark of the goal's group: the line that leads on to the goal, and the mark behind it.
    def onward_to(self, goal):
        onward = {}
        reached = [goal]
        at = 0
        while at < len(reached):
            mark = reached[at]
            at += 1
            for link in self.links[mark]:
                if link[1] != goal and link[1] not in onward:
                    onward[link[1]] = (link[0], mark)
                    reached.append(link[1])
        return onward
