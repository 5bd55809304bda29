"""A second, slow reading of 0.7 to 0.10, against which the package is compared."""


class Model:
    """A part in use: its age and, for each payer, days and claims left."""

    def __init__(self, part):
        self.price, lives, self.most, terms = part
        self.lives = dict(lives)
        self.terms = [
            dict(zip(["payer", "days", "kinds", "renewal", "claims", "sale"], term))
            for term in terms
        ]
        self.age = 0
        for term in self.terms:
            self.refill(term)

    def refill(self, term):
        term["left"] = term["days"]
        term["uses"] = term["claims"] if term["claims"] else None

    def state(self):
        return (
            self.age,
            tuple(
                (term["left"], -1 if term["uses"] is None else term["uses"])
                for term in self.terms
            ),
        )

    def put(self, state):
        """Go on from a state."""
        self.age, rows = state
        for term, (left, claims) in zip(self.terms, rows):
            term["left"] = left
            term["uses"] = None if claims == -1 else claims

    def events(self):
        found = []
        if self.most == 0 or self.age < self.most:
            found.append("")
        for kind in "abc":
            if kind in self.lives and self.age >= self.lives[kind]:
                found.append(kind)
        return found

    def asked(self, kind):
        return [
            number
            for number, term in enumerate(self.terms)
            if term["left"] > 0 and term["uses"] != 0 and kind in term["kinds"]
        ]

    def day(self, event):
        """Let a day pass; return the payer, "" for the owner, None without a fault."""
        payer = None
        if event != "":
            payer = self.fault(event)
        self.end()
        return payer

    def end(self):
        """End the day."""
        self.age += 1
        if self.most == 0:
            self.age = min(self.age, max(self.lives.values()))
        for term in self.terms:
            if term["left"] != 0:
                term["left"] -= 1

    def fault(self, kind):
        numbers = self.asked(kind)
        return self.pay(numbers[0]) if numbers else self.pay(None)

    def pay(self, number):
        """Exchange the part; the payer of the term with the number pays, or the owner."""
        self.age = 0
        if number is None:
            for term in self.terms:
                if term["sale"]:
                    self.refill(term)
            return ""
        term = self.terms[number]
        if term["uses"] is not None:
            term["uses"] -= 1
        if term["renewal"] == "anew":
            term["left"] = term["days"]
        return term["payer"]
