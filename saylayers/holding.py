"""What holds where four layers speak."""

from saylayers.paths import PathStore

LAYERS = 4


class Held:
    """A setting that holds, with the layer it is of."""

    def __init__(self, layer, setting):
        self.layer = layer
        self.setting = setting


class Record:
    """Four layers of settings, the weakest first, and what holds of them."""

    def __init__(self):
        self.layers = [[] for layer in range(LAYERS)]
        self.held = {}
        self.store = PathStore()

    def place(self, layer, settings):
        self.layers[layer] = settings
        self.held = what_holds(not_barred(self.layers))
        self.store = PathStore()
        for path in self.held:
            self.store.keep(path)

    def held_at(self, path):
        return self.held.get(path)

    def holds_below(self, path):
        return self.store.has_below(path)


def not_barred(layers):
    """Of each layer the settings that touch no final one of a weaker layer that is in turn not barred."""
    finals = PathStore()
    free = []
    for settings in layers:
        # A barred final setting bars nothing, so each layer is sifted before its own final ones count.
        sifted = [setting for setting in settings if not finals.touches(setting.path)]
        for setting in sifted:
            if setting.final:
                finals.keep(setting.path)
        free.append(sifted)
    return free


def what_holds(free):
    """By path, what holds of the settings that are not barred."""
    heard = PathStore()
    held = {}
    for layer in range(len(free) - 1, -1, -1):
        # What is hidden itself, or has no value, hides all the same: so every setting is kept as heard. Those of
        # one layer never touch, so that its own are among them makes no difference.
        for setting in free[layer]:
            if setting.value is not None and not heard.touches(setting.path):
                held[setting.path] = Held(layer, setting)
            heard.keep(setting.path)
    return held
