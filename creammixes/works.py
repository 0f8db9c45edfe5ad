"""The object on which the calls are made. Each call answers a list: its number, then what is told besides."""

from creammixes.adding import fewest, fewest_of_two
from creammixes.mixing import NOTHING, costs_more, is_recipe, part_of, spares, times, together, what_is_wrong, without

NONE_SUCH = -2
OF_NOTHING = -6
NOT_BEGUN = -11
TOO_FEW = -12
OUT_OF_RANGE = -22
TOO_MANY = -28
CANNOT_BE = -33

MOST_ROOM = 300
MOST_INGREDIENTS = 8
MOST_MIXES = 6
MOST_RECIPES = 6
MOST_GRAMS = 1000
MOST_PRICE = 1000
MOST_BOUGHT = 10000
MOST_SUPPOSED = 300


class Works:
    def __init__(self):
        self.empty_all(0)

    def empty_all(self, room):
        self.room = room
        self.ingredients = []
        self.stock = []
        self.mixes = []
        self.recipes = []
        self.bought = 0
        self.drawn = 0

    def is_begun(self):
        # No begin that answers 0 leaves a room of 0.
        return self.room > 0

    def has_mix(self, mix):
        return mix < len(self.mixes)

    def has_ingredient(self, ingredient):
        return ingredient < len(self.ingredients)

    def has_recipe(self, recipe):
        return recipe < len(self.recipes)

    def is_of_nothing(self, mix):
        return self.mixes[mix][0] == 0

    def room_left(self, mix):
        return self.room - self.mixes[mix][0]

    def begin(self, room):
        if room < 1 or room > MOST_ROOM:
            return [OUT_OF_RANGE]
        self.empty_all(room)
        return [0]

    def thing(self, fat, other, sugar, price):
        if fat + other + sugar > MOST_GRAMS or price > MOST_PRICE:
            return [OUT_OF_RANGE]
        if len(self.ingredients) == MOST_INGREDIENTS:
            return [TOO_MANY]
        self.ingredients.append([1, fat, other, sugar, price])
        self.stock.append(0)
        return [len(self.ingredients) - 1]

    def buy(self, ingredient, amount):
        if not self.has_ingredient(ingredient):
            return [NONE_SUCH]
        if amount < 1 or amount > MOST_BOUGHT:
            return [OUT_OF_RANGE]
        self.stock[ingredient] += amount
        self.bought += amount
        return [self.stock[ingredient]]

    def mix(self):
        if len(self.mixes) == MOST_MIXES:
            return [TOO_MANY]
        self.mixes.append(list(NOTHING))
        return [len(self.mixes) - 1]

    def recipe(self, six):
        if not is_recipe(six):
            return [OUT_OF_RANGE]
        if len(self.recipes) == MOST_RECIPES:
            return [TOO_MANY]
        self.recipes.append(list(six))
        return [len(self.recipes) - 1]

    def add(self, mix, ingredient, amount):
        if not self.has_mix(mix) or not self.has_ingredient(ingredient):
            return [NONE_SUCH]
        if amount == 0:
            return [OUT_OF_RANGE]
        if self.stock[ingredient] < amount:
            return [TOO_FEW]
        if amount > self.room_left(mix):
            return [TOO_MANY]
        self.stock[ingredient] -= amount
        self.mixes[mix] = self.with_more(mix, ingredient, amount)
        return list(self.mixes[mix])

    def with_more(self, mix, ingredient, amount):
        return together(self.mixes[mix], times(self.ingredients[ingredient], amount))

    def pour_refusal(self, mix, into, amount):
        """What both pour and after refuse; 0 if it's nothing."""
        if not self.has_mix(mix) or not self.has_mix(into):
            return NONE_SUCH
        if amount == 0 or mix == into:
            return OUT_OF_RANGE
        if self.mixes[mix][0] < amount:
            return TOO_FEW
        return 0

    def pour(self, mix, into, amount):
        refusal = self.pour_refusal(mix, into, amount)
        if refusal < 0:
            return [refusal]
        if amount > self.room_left(into):
            return [TOO_MANY]
        self.mixes[into] = together(self.mixes[into], self.take_part(mix, amount))
        return list(self.mixes[into])

    def draw(self, mix, amount):
        if not self.has_mix(mix):
            return [NONE_SUCH]
        if amount == 0:
            return [OUT_OF_RANGE]
        if self.mixes[mix][0] < amount:
            return [TOO_FEW]
        self.drawn += amount
        return self.take_part(mix, amount)

    def take_part(self, mix, amount):
        part = part_of(self.mixes[mix], amount)
        self.mixes[mix] = without(self.mixes[mix], part)
        return part

    def fits(self, mix, recipe):
        if not self.has_mix(mix) or not self.has_recipe(recipe):
            return [NONE_SUCH]
        if self.is_of_nothing(mix):
            return [OF_NOTHING]
        return [what_is_wrong(self.mixes[mix], self.recipes[recipe])]

    def which(self, mix):
        if not self.has_mix(mix):
            return [NONE_SUCH]
        if self.is_of_nothing(mix):
            return [OF_NOTHING]
        has = self.mixes[mix]
        fitting = [number for number, recipe in enumerate(self.recipes) if what_is_wrong(has, recipe) == 0]
        return [len(fitting)] + fitting

    def least(self, mix, recipe, ingredient):
        if not self.has_mix(mix) or not self.has_recipe(recipe) or not self.has_ingredient(ingredient):
            return [NONE_SUCH]
        if self.is_of_nothing(mix):
            return [OF_NOTHING]
        amount = self.fewest_alone(mix, recipe, ingredient)
        if amount is None:
            return [CANNOT_BE]
        return [amount, self.cost_of(ingredient, amount)]

    def fewest_alone(self, mix, recipe, ingredient):
        highest = min(self.stock[ingredient], self.room_left(mix))
        return fewest(self.mix_spares(mix, recipe), self.ingredient_spares(ingredient, recipe), 0, highest)

    def mix_spares(self, mix, recipe):
        return spares(self.mixes[mix], self.recipes[recipe])

    def ingredient_spares(self, ingredient, recipe):
        return spares(self.ingredients[ingredient], self.recipes[recipe])

    def cost_of(self, ingredient, amount):
        return self.ingredients[ingredient][4] * amount

    def two(self, mix, recipe, first, other):
        if not self.has_mix(mix) or not self.has_recipe(recipe):
            return [NONE_SUCH]
        if not self.has_ingredient(first) or not self.has_ingredient(other):
            return [NONE_SUCH]
        if first == other:
            return [OUT_OF_RANGE]
        if self.is_of_nothing(mix):
            return [OF_NOTHING]
        shares = fewest_of_two(
            self.mix_spares(mix, recipe),
            self.ingredient_spares(first, recipe),
            self.ingredient_spares(other, recipe),
            (self.stock[first], self.stock[other]),
            self.room_left(mix),
        )
        return [CANNOT_BE] if shares is None else shares

    def best(self, mix, recipe):
        if not self.has_mix(mix) or not self.has_recipe(recipe):
            return [NONE_SUCH]
        if self.is_of_nothing(mix):
            return [OF_NOTHING]
        ways = []
        for ingredient in range(len(self.ingredients)):
            amount = self.fewest_alone(mix, recipe, ingredient)
            if amount is not None:
                ways.append((amount, self.cost_of(ingredient, amount), ingredient))
        if len(ways) == 0:
            return [CANNOT_BE]
        way = min(ways)
        return [way[2], way[0]]

    def would(self, mix, ingredient, amount):
        if not self.has_mix(mix) or not self.has_ingredient(ingredient):
            return [NONE_SUCH]
        if amount > MOST_SUPPOSED:
            return [OUT_OF_RANGE]
        return self.with_more(mix, ingredient, amount)

    def after(self, mix, into, amount):
        refusal = self.pour_refusal(mix, into, amount)
        if refusal < 0:
            return [refusal]
        return together(self.mixes[into], part_of(self.mixes[mix], amount))

    def look(self, mix):
        if not self.has_mix(mix):
            return [NONE_SUCH]
        return list(self.mixes[mix])

    def of(self, ingredient):
        if not self.has_ingredient(ingredient):
            return [NONE_SUCH]
        return [self.stock[ingredient]] + self.ingredients[ingredient][1:]

    def dear(self):
        dearest = None
        for number, has in enumerate(self.mixes):
            if has[0] > 0 and (dearest is None or costs_more(has, self.mixes[dearest])):
                dearest = number
        if dearest is None:
            return [OF_NOTHING]
        return [dearest, self.mixes[dearest][4], self.mixes[dearest][0]]

    def sums(self):
        return [0, self.bought, sum(self.stock), sum([has[0] for has in self.mixes]), self.drawn]

    def state(self):
        return [len(self.mixes), len(self.ingredients), len(self.recipes), self.room]
