"""The refusals of this package."""


class GlueError(ValueError):
    """Any refusal."""


class BadWord(GlueError):
    """What is no word was handed in where a word is needed."""


class BadWeb(GlueError):
    """What is no web was handed in where a web is needed."""
