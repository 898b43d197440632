"""What the test files share: errors looked at, and texts spoilt."""

from howeverled.errors import NotUsable


class Naming:
    """For test cases: a call has to name a parameter."""

    def named(self, word, function, *values, **by_name):
        """The call raises NotUsable for the parameter of this name."""
        told = (getattr(function, "__name__", function), values, by_name)
        with self.assertRaises(NotUsable, msg=told) as caught:
            function(*values, **by_name)
        self.assertEqual((caught.exception.word, caught.exception.at), (word, -1), told)


def spoilt(text, spoils):
    """The text cut short behind each field, and with each field left out, and a spoil put in ahead of it or instead of it."""
    fields = text.split(" ")
    changed = [fields[:place] for place in range(1, len(fields))]
    for place in range(len(fields) + 1):
        changed += [fields[:place] + fields[place + 1:]] if place < len(fields) else []
        for spoil in spoils:
            changed.append(fields[:place] + [spoil] + fields[place:])
            changed.append(fields[:place] + [spoil] + fields[place + 1:])
    return [" ".join(one) for one in changed]
