"""The grammar of the document, and which tokens it lets stand where.

The rules below are those of section 4, word for word. They are followed in
all possible ways at once (by Earley's method), so that nothing here leans on
how the program itself reads a text.
"""

GRAMMAR = '''
program    = { "global" name ";" } { "proc" name "(" [ name { "," name } ] ")" block }
block      = "{" { statement } "}"
statement  = name "=" expression ";" | "ask" name ";" | "tell" expression ";"
           | "check" condition ";" | "need" condition ";" | "return" expression ";"
           | "if" condition block [ "else" block ] | "while" condition block
           | "call" name "(" [ expression { "," expression } ] ")" [ "to" name ] ";"
expression = number | "-" number | name | "(" expression sign expression ")"
sign       = "+" | "-" | "*" | "/" | "mod"
condition  = expression relation expression | "not" condition
           | "[" condition ( "and" | "or" ) condition "]"
relation   = "<" | "<=" | "==" | "!="
'''


class Grammar:
    """Rules without braces and brackets: a list of rows of symbols for each name."""

    def __init__(self, text):
        self.rules = {}
        words = text.split()
        starts = [at - 1 for at, word in enumerate(words) if word == "="]
        for start, end in zip(starts, starts[1:] + [len(words)]):
            self.rules[words[start]] = self.read_choices(words[start + 2:end])
        symbols = {s for rows in self.rules.values() for row in rows for s in row}
        self.terminals = sorted(s for s in symbols if s not in self.rules)

    def read_choices(self, words):
        rows = [[]]
        while words and words[0] not in ("}", "]", ")"):
            word = words.pop(0)
            if word == "|":
                rows.append([])
            elif word in ("{", "[", "("):
                rows[-1].append(self.read_group(word, words))
            else:
                rows[-1].append(word.strip('"'))
        return rows

    def read_group(self, opening, words):
        name = f"part {len(self.rules)}"
        self.rules[name] = None
        rows = self.read_choices(words)
        words.pop(0)
        if opening == "{":
            rows = [row + [name] for row in rows]
        if opening != "(":
            rows.append([])
        self.rules[name] = rows
        return name

    def allowed(self, row):
        """For each place of the row, and behind it: the symbols that can stand there.

        Symbols are "name", "number", the quoted parts, and "end".
        """
        charts = [self.close([], [("program", tuple(r), 0, 0) for r in self.rules["program"]])]
        found = [self.next_symbols(charts[0])]
        for symbol in row:
            moved = [
                (name, rule, dot + 1, origin)
                for name, rule, dot, origin in charts[-1]
                if dot < len(rule) and rule[dot] == symbol
            ]
            charts.append(self.close(charts, moved))
            found.append(self.next_symbols(charts[-1]))
        return found

    def close(self, charts, items):
        """All items that follow from these at the place behind the charts."""
        here = len(charts)
        chart = list(dict.fromkeys(items))
        known = set(chart)
        grows = True
        while grows:
            # Until nothing is new: parts that can be empty end where they begin.
            grows = False
            for item in list(chart):
                for new in self.following(item, chart, charts, here):
                    if new not in known:
                        known.add(new)
                        chart.append(new)
                        grows = True
        return chart

    def following(self, item, chart, charts, here):
        name, rule, dot, origin = item
        if dot < len(rule):
            rows = self.rules.get(rule[dot], [])
            return [(rule[dot], tuple(row), 0, here) for row in rows]
        source = chart if origin == here else charts[origin]
        return [
            (other, parts, at + 1, start)
            for other, parts, at, start in source
            if at < len(parts) and parts[at] == name
        ]

    def next_symbols(self, chart):
        found = set()
        for name, rule, dot, origin in chart:
            if dot < len(rule) and rule[dot] not in self.rules:
                found.add(rule[dot])
            if dot == len(rule) and name == "program" and origin == 0:
                found.add("end")
        return found
