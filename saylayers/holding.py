"""What holds where four layers speak."""

from saylayers.literals import same_value
from saylayers.paths import PathStore

LAYERS = 4

NONE_THERE = 0
HOLDS = 1
HIDDEN = 2
BARRED = 3
UNSETTING = 4


class Held:
    """A setting that holds, with the layer it is of."""

    def __init__(self, layer, setting):
        self.layer = layer
        self.setting = setting


class Record:
    """Four layers of settings, the weakest first, and what holds of them."""

    def __init__(self):
        self.layers = [[] for layer in range(LAYERS)]
        self.free = [[] for layer in range(LAYERS)]
        self.held = {}
        self.order = []
        self.store = PathStore()

    def place(self, layer, settings):
        self.layers[layer] = settings
        self.free = not_barred(self.layers)
        self.held = what_holds(self.free)
        self.order = sorted(self.held)
        self.store = PathStore()
        for path in self.order:
            self.store.keep(path)

    def held_at(self, path):
        return self.held.get(path)

    def holds_below(self, path):
        return self.store.has_below(path)

    def held_settings(self):
        """The settings that hold, in the order of their paths."""
        return [self.held[path].setting for path in self.order]

    def first_behind(self, row):
        """The first path at which something holds that comes after these bytes, or no bytes."""
        for path in self.order:
            if path > row:
                return path
        return ()

    def standing(self, layer, path):
        """What has become of the layer's setting with just that path."""
        if setting_at(self.layers[layer], path) is None:
            return NONE_THERE
        setting = setting_at(self.free[layer], path)
        if setting is None:
            return BARRED
        if setting.value is None:
            return UNSETTING
        held = self.held_at(path)
        return HOLDS if held is not None and held.layer == layer else HIDDEN


def setting_at(settings, path):
    for setting in settings:
        if setting.path == path:
            return setting
    return None


def hold_the_same(one, other):
    """Whether in both records the same values hold at the same paths, wherever they come from."""
    if one.order != other.order:
        return False
    ours = one.held_settings()
    theirs = other.held_settings()
    return all([same_value(first.value, second.value) for first, second in zip(ours, theirs)])


def not_barred(layers):
    """Of each layer the settings that touch no final one of a weaker layer that is in turn not barred."""
    finals = PathStore()
    free = []
    for settings in layers:
        # A barred final setting bars nothing, so each layer is sifted before its own final ones count.
        sifted = [setting for setting in settings if not finals.touches(setting.path)]
        for setting in sifted:
            if setting.final:
                finals.keep(setting.path)
        free.append(sifted)
    return free


def what_holds(free):
    """By path, what holds of the settings that are not barred."""
    heard = PathStore()
    held = {}
    for layer in range(len(free) - 1, -1, -1):
        # What is hidden itself, or has no value, hides all the same: so every setting is kept as heard. Those of
        # one layer never touch, so that its own are among them makes no difference.
        for setting in free[layer]:
            if setting.value is not None and not heard.touches(setting.path):
                held[setting.path] = Held(layer, setting)
            heard.keep(setting.path)
    return held
