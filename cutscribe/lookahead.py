"""Lookahead: how many characters are scanned behind the ends of tokens, and certificates that there are no more."""

from cutscribe.configurations import check_flat, configuration_texts, FIRST, following, is_configuration, pending_after


def lookahead(lexer, *, most=400):
    """Return ("finite", n, text) or ("infinite", head, loop, tail), as the lexer's greatest lookahead is.

    A node is a pair of a reachable configuration and one of its pending pairs: the end of a token that is still read
    on. An edge to a further node, or to None where the token is read on for the last time, scans one character more.
    """
    texts = configuration_texts(lexer, most)
    reads = {here: _reads(lexer, here) for here in texts}
    heads, edges = _nodes(texts, reads)
    longest = _longest_walks(edges)
    endless = [node for node in edges if node not in longest]
    if len(endless) > 0:
        node, loop = _cycle(edges, longest, endless[0])
        return ("infinite", heads[node], loop, "")
    # One character is a token that has scanned no further; it serves where nothing is read on.
    greatest, text = 0, lexer.alphabet[0]
    for node in edges:
        if longest[node][0] > greatest:
            greatest, text = longest[node][0], heads[node] + _walk(longest, node)
    return ("finite", greatest, text)


def lookahead_at_most(lexer, bound, value):
    """Return whether a value, any value, is a certificate that no token has a lookahead greater than the bound."""
    check_flat(lexer)
    if not isinstance(value, (list, tuple)) or not all([_is_numbered(lexer, part) for part in value]):
        return False
    numbers = {here: dict(zip(here[3], given)) for here, given in value}
    if len(numbers) < len(value) or FIRST not in numbers:
        return False
    return all([_is_bounded(lexer, bound, numbers, here) for here in numbers])


def _reads(lexer, configuration):
    """Return what each character by which no pending pair would accept does, as tuples (character, moves, ended, ways).

    moves has for each pending pair the pair to which it moves, or None if that is not live; ended is the pair with
    which a token that ends here is read on, or None if it is not; ways is what following returns.
    """
    mode, _, state, pending = configuration
    reads = []
    for character in lexer.alphabet:
        if pending_after(lexer, pending, character) is not None:
            moves = {pair: _moved(lexer, pair, character) for pair in pending}
            ended = _moved(lexer, (mode, state), character)
            reads.append((character, moves, ended, following(lexer, configuration, character)))
    return reads


def _moved(lexer, pair, character):
    """Return the pair to which a pair moves, or None if that is not live."""
    mode, state = pair
    part = lexer.modes[mode]
    after = part.steps[state][character]
    return (mode, after) if part.live[after] else None


def _nodes(texts, reads):
    """Return for each node a text that leads to it, and the list of its edges as pairs (character, node or None)."""
    heads = {}
    for here in texts:
        for character, _, ended, ways in reads[here]:
            for event, after in ways:
                if event is not None and ended is not None:
                    heads[(after, ended)] = texts[here] + character
    edges = {}
    waiting = list(heads)
    at = 0
    while at < len(waiting):
        here, pair = waiting[at]
        edges[(here, pair)] = _edges(reads[here], pair)
        for character, node in edges[(here, pair)]:
            if node is not None and node not in heads:
                heads[node] = heads[(here, pair)] + character
                waiting.append(node)
        at += 1
    return heads, edges


def _edges(reads, pair):
    """Return the edges of the node of a configuration with these reads and one of its pending pairs."""
    # A character without ways adds no edge: what is scanned by it is counted where the text has its path.
    edges = []
    for character, moves, _, ways in reads:
        if moves[pair] is None:
            edges.append((character, None))
        else:
            edges.extend([(character, (after, moves[pair])) for _, after in ways])
    return edges


def _longest_walks(edges):
    """Return for each node without an endless walk its longest one, as a pair (length, its first edge or None)."""
    left = {node: len([edge for edge in edges[node] if edge[1] is not None]) for node in edges}
    before = {node: [] for node in edges}
    for node in edges:
        for _, after in edges[node]:
            if after is not None:
                before[after].append(node)
    longest = {}
    ready = [node for node in edges if left[node] == 0]
    while len(ready) > 0:
        node = ready.pop()
        walks = [(1 if first[1] is None else 1 + longest[first[1]][0], first) for first in edges[node]]
        longest[node] = max(walks, key=lambda walk: walk[0], default=(0, None))
        for earlier in before[node]:
            left[earlier] -= 1
            if left[earlier] == 0:
                ready.append(earlier)
    return longest


def _walk(longest, node):
    """Return the characters of the longest walk from a node."""
    text = ""
    edge = longest[node][1]
    while edge is not None:
        character, after = edge
        text += character
        edge = None if after is None else longest[after][1]
    return text


def _cycle(edges, longest, node):
    """Return a node to which an endless walk from a node comes back, and the characters of one turn."""
    met = {}
    text = ""
    while node not in met:
        met[node] = len(text)
        character, node = [edge for edge in edges[node] if edge[1] is not None and edge[1] not in longest][0]
        text += character
    return node, text[met[node]:]


def _is_numbered(lexer, value):
    """Return whether a value, any value, is a tuple of a configuration and one number for each of its pending pairs."""
    if not isinstance(value, tuple) or len(value) != 2 or not is_configuration(lexer, value[0]):
        return False
    numbers = value[1]
    if not isinstance(numbers, tuple) or len(numbers) != len(value[0][3]):
        return False
    return all([isinstance(number, int) and not isinstance(number, bool) and number >= 0 for number in numbers])


def _is_bounded(lexer, bound, numbers, configuration):
    """Return whether the numbers of a configuration's pending pairs are great enough for whatever is read next.

    numbers has for each configuration a dict of the numbers of its pending pairs.
    """
    here = numbers[configuration]
    for _, moves, ended, ways in _reads(lexer, configuration):
        if any([here[pair] < 1 for pair in moves]):
            return False
        for event, after in ways:
            if after not in numbers:
                return False
            ahead = numbers[after]
            if any([moves[pair] is not None and here[pair] <= ahead[moves[pair]] for pair in moves]):
                return False
            if event is not None and ended is not None and ahead[ended] > bound:
                return False
    return True
