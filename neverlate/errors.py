"""The errors that the program raises."""


class NeverlateError(ValueError):
    """The base class of all errors that the program raises."""


class InvalidRatio(NeverlateError):
    """A fraction has the bottom 0."""


class InvalidTask(NeverlateError):
    """A name, kinds and ways that make no task."""


class InvalidTable(NeverlateError):
    """A list of capacities that is no table."""


class InvalidSystem(NeverlateError):
    """Tasks that make no system."""


class NothingToUndo(NeverlateError):
    """There is no change to take back."""


class NothingToRedo(NeverlateError):
    """There is no change to make again."""


class UnknownName(NeverlateError):
    """Nothing has this name."""

    def __init__(self, name):
        super().__init__(f"unknown name {name}")
        self.name = name


class UnknownNumber(NeverlateError):
    """Nothing has this number."""

    def __init__(self, number):
        super().__init__(f"unknown number {number}")
        self.number = number


class InvalidNotation(NeverlateError):
    """A text has a line that cannot stand where it stands."""

    def __init__(self, line):
        super().__init__(f"line {line} cannot stand there")
        self.line = line


class InvalidCertificate(NeverlateError):
    """A text is no certificate: this line breaks its form."""

    def __init__(self, line):
        super().__init__(f"line {line} breaks its form")
        self.line = line


class InvalidSchedule(NeverlateError):
    """A schedule breaks a rule in this slot."""

    def __init__(self, slot):
        super().__init__(f"slot {slot} breaks a rule")
        self.slot = slot


class InvalidReleases(NeverlateError):
    """A release is not legal."""

    def __init__(self, task_number, release_number):
        super().__init__(f"release {release_number} of task {task_number} is not legal")
        self.task_number = task_number
        self.release_number = release_number


class TooEarly(NeverlateError):
    """A release comes before its earliest time, or its kind has none (None)."""

    def __init__(self, time):
        super().__init__(f"the earliest time is {time}")
        self.time = time


class Undecided(NeverlateError):
    """No window up to the horizon is overfull, and the horizon does not decide."""

    def __init__(self, horizon):
        super().__init__(f"undecided up to {horizon}")
        self.horizon = horizon


class FullLoad(NeverlateError):
    """The load is 0 and the horizon does not decide."""

    def __init__(self, horizon):
        super().__init__(f"full load, undecided up to {horizon}")
        self.horizon = horizon


class NameInUse(NeverlateError):
    """A question names what is to be removed."""

    def __init__(self, name):
        super().__init__(f"name in use {name}")
        self.name = name
