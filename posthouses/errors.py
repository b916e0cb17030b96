"""The errors by which what was handed in is refused, one for each refusal."""


class PostError(ValueError):
    pass


class BadRoad(PostError):
    pass


class BadPosts(PostError):
    pass


class BadStretch(PostError):
    pass


class BadMany(PostError):
    pass
