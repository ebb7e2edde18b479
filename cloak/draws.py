"""The numbers that are drawn in the lines of a script."""

from cloak.coins import coin


def drawn_exponent(q, line, text):
    """The draw of a text in the line with this index, from 0 to q - 1."""
    return coin(line, 0, text) % q


def drawn_factor(q, line, text):
    """The draw of a text in the line with this index, from 1 to q - 1."""
    return 1 + coin(line, 0, text) % (q - 1)


def drawn_blinding(q, line):
    """The blinding that a person draws in a line."""
    covers = [drawn_exponent(q, line, word) for word in ("x0", "x1", "x2", "x3")]
    return (drawn_factor(q, line, "s"), drawn_factor(q, line, "u"),
            drawn_exponent(q, line, "v"), tuple(covers))


def drawn_noise(q, line, many, own):
    """The noise of a paper for so many claims, of which one is the person's own."""
    return tuple([(0 if at == own else drawn_exponent(q, line, f"c{at}"),
                   (drawn_exponent(q, line, f"a{at}b"), drawn_exponent(q, line, f"a{at}d")))
                  for at in range(many)])
