"""Workspaces: lexers and documents under names, with changes that can be taken back and performed again."""

from cutscribe.documents import Document
from cutscribe.errors import (
    Incompatible, InUse, InvalidName, NameInUse, NothingToRedo, NothingToUndo, UnknownName)
from cutscribe.lexers import is_name


class Workspace:
    """What is held: a dict of lexers, and one of pairs of the name of a lexer and a document that uses it.

    Neither these dicts nor the documents in them are ever changed: a change makes new ones. So what was held earlier,
    and is kept to be restored, stays as it was.
    """

    def __init__(self):
        self._held = ({}, {})
        self._earlier = []
        self._later = []

    def define(self, name, lexer):
        """Store a lexer under a name; documents that use it are tokenized by it from now on."""
        if not is_name(name):
            raise InvalidName(name)
        lexers, documents = self._held
        users = self._users(name)
        for document in users:
            if not all([character in lexer.alphabet for character in documents[document][1].text()]):
                raise Incompatible(document)
        anew = {document: (name, Document(lexer, documents[document][1].text())) for document in users}
        self._change({**lexers, name: lexer}, {**documents, **anew})

    def remove(self, name):
        """Remove a lexer."""
        lexers, documents = self._held
        if name not in lexers:
            raise UnknownName(name)
        users = self._users(name)
        if len(users) > 0:
            raise InUse(users[0])
        self._change({other: lexers[other] for other in lexers if other != name}, documents)

    def create(self, document, lexer, text=""):
        """Create a document with a name that uses the lexer of a name."""
        lexers, documents = self._held
        if not is_name(document):
            raise InvalidName(document)
        if document in documents:
            raise NameInUse(document)
        if lexer not in lexers:
            raise UnknownName(lexer)
        self._change(lexers, {**documents, document: (lexer, Document(lexers[lexer], text))})

    def close(self, document):
        """Remove a document."""
        lexers, documents = self._held
        if document not in documents:
            raise UnknownName(document)
        self._change(lexers, {other: documents[other] for other in documents if other != document})

    def edit(self, document, start, stop, text):
        """Edit a document; return the kept tokens as pairs (old number, new number)."""
        changed = self.document_of(document)
        kept = changed.edit(start, stop, text)
        self._put(document, changed)
        return kept

    def substitute(self, document, first, last, words, *, most=400):
        """Put words in place of tokens of a document; return the text that yields them, or None if there is none."""
        changed = self.document_of(document)
        found = changed.substitute(first, last, words, most=most)
        if found is not None:
            self._put(document, changed)
        return found

    def undo(self):
        """Take back the last change that has not been taken back."""
        if len(self._earlier) == 0:
            raise NothingToUndo()
        self._later.append(self._held)
        self._held = self._earlier.pop()

    def redo(self):
        """Perform the change again that was taken back last."""
        if len(self._later) == 0:
            raise NothingToRedo()
        self._earlier.append(self._held)
        self._held = self._later.pop()

    def lexers(self):
        """Return the sorted list of the names of the lexers."""
        return sorted(self._held[0])

    def documents(self):
        """Return the sorted list of the names of the documents."""
        return sorted(self._held[1])

    def lexer_of(self, name):
        """Return the lexer of a name."""
        if name not in self._held[0]:
            raise UnknownName(name)
        return self._held[0][name]

    def document_of(self, name):
        """Return a new document that is equal to the one of a name and independent of it."""
        if name not in self._held[1]:
            raise UnknownName(name)
        held = self._held[1][name][1]
        return Document(held.lexer, held.text())

    def uses(self, document):
        """Return the name of the lexer that a document uses."""
        if document not in self._held[1]:
            raise UnknownName(document)
        return self._held[1][document][0]

    def copy(self):
        """Return an independent workspace in the same state, with the same changes to undo and to redo."""
        other = Workspace()
        other._held = self._held
        other._earlier = list(self._earlier)
        other._later = list(self._later)
        return other

    def _users(self, lexer):
        """Return the sorted list of the names of the documents that use the lexer of a name."""
        return [document for document in self.documents() if self.uses(document) == lexer]

    def _put(self, document, changed):
        """Put a changed document in place of that of a name."""
        lexers, documents = self._held
        self._change(lexers, {**documents, document: (self.uses(document), changed)})

    def _change(self, lexers, documents):
        """Hold what a change has made, and discard the changes that have been taken back."""
        self._earlier.append(self._held)
        self._held = (lexers, documents)
        self._later = []
