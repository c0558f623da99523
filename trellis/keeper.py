"""The keeper of right papers while a graph is edited."""

from trellis.deciding import decide
from trellis.edits import edited
from trellis.errors import BadQuestion
from trellis.following import carried
from trellis.forms import is_vertex
from trellis.questions import is_question


class Keeper:
    """A graph that is edited, questions about it, and a right paper for each of them."""

    def __init__(self, graph):
        self._graph = graph
        self._questions = []
        self._papers = []
        # The graph and the papers before each edit that has not been taken back.
        self._past = []
        self._decided = 0

    @property
    def decided(self):
        """The number of the papers that the last edit made new."""
        return self._decided

    def watch(self, question):
        """Add a question, and return its number."""
        if not is_question(self._graph, question) or question[0] == "linked":
            raise BadQuestion("this is no question to watch")
        self._papers.append(decide(self._graph, question))
        self._questions.append(question)
        return len(self._questions) - 1

    def edit(self, edit):
        """Make an edit, and bring all papers up to date."""
        after = edited(self._graph, edit)
        papers = []
        decided = 0
        for question, paper in zip(self._questions, self._papers):
            found = carried(self._graph, edit, question, paper)
            if found is None:
                found = decide(after, question)
                decided += 1
            papers.append(found)
        self._past.append((self._graph, self._papers))
        self._graph = after
        self._papers = papers
        self._decided = decided

    def back(self):
        """Take back the last edit that has not been taken back, and return whether there was one."""
        if not self._past:
            return False
        graph, papers = self._past.pop()
        # A question may have been added since.
        added = [decide(graph, question) for question in self._questions[len(papers):]]
        self._graph = graph
        self._papers = papers + added
        return True

    def graph(self):
        """Return the graph as it is now."""
        return self._graph

    def paper(self, k):
        """Return the paper of the question with a number."""
        if not is_vertex(len(self._papers), k):
            raise BadQuestion("there is no question with this number")
        return self._papers[k]

    def answer(self, k):
        """Return the answer to the question with a number."""
        return self.paper(k)[0]

    def questions(self):
        """Return the list of the questions."""
        return list(self._questions)
