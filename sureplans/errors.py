"""The refusals. Each one stands straight under PlanError, none under another."""


class PlanError(ValueError):
    """Any refusal."""


class NoHouse(PlanError):
    """What was handed in makes no house."""


class NoDeed(PlanError):
    """A name is no deed's."""


class NoWorld(PlanError):
    """A world, or a crowd of worlds, is none."""


class NoNeed(PlanError):
    """The need of a deed or a look does not hold."""


class NoPaper(PlanError):
    """A paper of never is not let by."""


class TooMany(PlanError):
    """More was found than is looked through."""


class NoLook(PlanError):
    """A name is no look's."""


class NoPlan(PlanError):
    """A row or a tree does not go well."""


class NoText(PlanError):
    """A text writes nothing that can be read."""


class NoForm(PlanError):
    """A row that the desk was told has no known form."""


class NoneYet(PlanError):
    """The desk has read no house."""
