"""Flows of the least cost from node to node of a network."""

# A path of the least cost with the fewest arcs is the one of the least weight, if a unit of cost weighs more than all
# arcs of a path. Of the paths of one cost this takes the shortest ones first, so that few of them are needed.
WEIGHT_OF_COST = 1000


class Network:
    """Nodes, numbered from 0, and arcs between them with a room and a cost; each arc has one that takes it back."""

    def __init__(self, nodes):
        self._arcs_of = [[] for _ in range(nodes)]
        self._heads = []
        self._rooms = []
        self._costs = []

    def connect(self, tail, head, room, cost):
        """Make an arc, and return its number."""
        number = len(self._heads)
        for start, end, width, price in ((tail, head, room, cost), (head, tail, 0, -cost)):
            self._arcs_of[start].append(len(self._heads))
            self._heads.append(end)
            self._rooms.append(width)
            self._costs.append(price)
        return number

    def flow(self, number):
        """Return how much flows along an arc."""
        return self._rooms[number + 1]

    def push(self, source, sink):
        """Push as much as possible from source to sink, at the least cost, and return how much."""
        total = 0
        path = self._lightest(source, sink)
        while path is not None:
            amount = min([self._rooms[number] for number in path])
            for number in path:
                self._rooms[number] -= amount
                # Arcs stand in pairs: an even number, and the next one, which takes it back.
                self._rooms[number ^ 1] += amount
            total += amount
            path = self._lightest(source, sink)
        return total

    def _lightest(self, source, sink):
        """Return the arcs of a path of the least weight with room, or None."""
        weights, entries = {source: 0}, {}
        queue = [source]
        while queue:
            tail = queue.pop(0)
            for number in self._arcs_of[tail]:
                head = self._heads[number]
                weight = weights[tail] + self._costs[number] * WEIGHT_OF_COST + 1
                if self._rooms[number] > 0 and weight < weights.get(head, weight + 1):
                    weights[head] = weight
                    entries[head] = number
                    if head not in queue:
                        queue.append(head)
        if sink not in weights:
            return None
        path = []
        while sink != source:
            path.append(entries[sink])
            sink = self._heads[entries[sink] ^ 1]
        return path

    def reached(self, source):
        """Return the ascending list of the nodes to which paths with room lead from source."""
        found = {source: True}
        queue = [source]
        while queue:
            tail = queue.pop(0)
            for number in self._arcs_of[tail]:
                head = self._heads[number]
                if self._rooms[number] > 0 and head not in found:
                    found[head] = True
                    queue.append(head)
        return sorted(found)

    def prices(self):
        """Return for each node the least cost of a path with room from it to any node, perhaps to itself."""
        found = [0] * len(self._arcs_of)
        changed = True
        while changed:
            changed = False
            for tail, numbers in enumerate(self._arcs_of):
                for number in numbers:
                    cost = self._costs[number] + found[self._heads[number]]
                    if self._rooms[number] > 0 and cost < found[tail]:
                        found[tail] = cost
                        changed = True
        return found
