"""The object on which the calls are made. Each call answers a list: its number, then what is told besides."""

from creammixes.mixing import NOTHING, is_recipe, part_of, times, together, what_is_wrong, without

NONE_SUCH = -2
OF_NOTHING = -6
NOT_BEGUN = -11
TOO_FEW = -12
OUT_OF_RANGE = -22
TOO_MANY = -28

MOST_ROOM = 300
MOST_INGREDIENTS = 8
MOST_MIXES = 6
MOST_RECIPES = 6
MOST_GRAMS = 1000
MOST_PRICE = 1000
MOST_BOUGHT = 10000


class Works:
    def __init__(self):
        self.empty_all(0)

    def empty_all(self, room):
        self.room = room
        self.ingredients = []
        self.stock = []
        self.mixes = []
        self.recipes = []

    def is_begun(self):
        # No begin that answers 0 leaves a room of 0.
        return self.room > 0

    def has_mix(self, mix):
        return mix < len(self.mixes)

    def has_ingredient(self, ingredient):
        return ingredient < len(self.ingredients)

    def has_recipe(self, recipe):
        return recipe < len(self.recipes)

    def is_of_nothing(self, mix):
        return self.mixes[mix][0] == 0

    def has_room(self, mix, amount):
        return self.mixes[mix][0] + amount <= self.room

    def begin(self, room):
        if room < 1 or room > MOST_ROOM:
            return [OUT_OF_RANGE]
        self.empty_all(room)
        return [0]

    def thing(self, fat, other, sugar, price):
        if fat + other + sugar > MOST_GRAMS or price > MOST_PRICE:
            return [OUT_OF_RANGE]
        if len(self.ingredients) == MOST_INGREDIENTS:
            return [TOO_MANY]
        self.ingredients.append([1, fat, other, sugar, price])
        self.stock.append(0)
        return [len(self.ingredients) - 1]

    def buy(self, ingredient, amount):
        if not self.has_ingredient(ingredient):
            return [NONE_SUCH]
        if amount < 1 or amount > MOST_BOUGHT:
            return [OUT_OF_RANGE]
        self.stock[ingredient] += amount
        return [self.stock[ingredient]]

    def mix(self):
        if len(self.mixes) == MOST_MIXES:
            return [TOO_MANY]
        self.mixes.append(list(NOTHING))
        return [len(self.mixes) - 1]

    def recipe(self, six):
        if not is_recipe(six):
            return [OUT_OF_RANGE]
        if len(self.recipes) == MOST_RECIPES:
            return [TOO_MANY]
        self.recipes.append(list(six))
        return [len(self.recipes) - 1]

    def add(self, mix, ingredient, amount):
        if not self.has_mix(mix) or not self.has_ingredient(ingredient):
            return [NONE_SUCH]
        if amount == 0:
            return [OUT_OF_RANGE]
        if self.stock[ingredient] < amount:
            return [TOO_FEW]
        if not self.has_room(mix, amount):
            return [TOO_MANY]
        self.stock[ingredient] -= amount
        self.mixes[mix] = together(self.mixes[mix], times(self.ingredients[ingredient], amount))
        return list(self.mixes[mix])

    def pour(self, mix, into, amount):
        if not self.has_mix(mix) or not self.has_mix(into):
            return [NONE_SUCH]
        if amount == 0 or mix == into:
            return [OUT_OF_RANGE]
        if self.mixes[mix][0] < amount:
            return [TOO_FEW]
        if not self.has_room(into, amount):
            return [TOO_MANY]
        self.mixes[into] = together(self.mixes[into], self.take_part(mix, amount))
        return list(self.mixes[into])

    def draw(self, mix, amount):
        if not self.has_mix(mix):
            return [NONE_SUCH]
        if amount == 0:
            return [OUT_OF_RANGE]
        if self.mixes[mix][0] < amount:
            return [TOO_FEW]
        return self.take_part(mix, amount)

    def take_part(self, mix, amount):
        part = part_of(self.mixes[mix], amount)
        self.mixes[mix] = without(self.mixes[mix], part)
        return part

    def fits(self, mix, recipe):
        if not self.has_mix(mix) or not self.has_recipe(recipe):
            return [NONE_SUCH]
        if self.is_of_nothing(mix):
            return [OF_NOTHING]
        return [what_is_wrong(self.mixes[mix], self.recipes[recipe])]

    def which(self, mix):
        if not self.has_mix(mix):
            return [NONE_SUCH]
        if self.is_of_nothing(mix):
            return [OF_NOTHING]
        has = self.mixes[mix]
        fitting = [number for number, recipe in enumerate(self.recipes) if what_is_wrong(has, recipe) == 0]
        return [len(fitting)] + fitting
