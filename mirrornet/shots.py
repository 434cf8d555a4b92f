"""A shot's way, and which bodies it meets."""

from mirrornet.bodies import BODIES, KEYS_OF_A_BODY

GREATEST_STEP = 1000
GREATEST_SQUARED_DISTANCE = 25


def is_direction(dx, dy):
    in_range = -GREATEST_STEP <= dx <= GREATEST_STEP and -GREATEST_STEP <= dy <= GREATEST_STEP
    return in_range and not (dx == 0 and dy == 0)


class Shot:
    def __init__(self, x, y, dx, dy):
        self.x = x
        self.y = y
        self.dx = dx
        self.dy = dy
        self.squared_step = dx * dx + dy * dy

    def way_to(self, upper_x, upper_y, lower):
        # How far along it meets what is there, as the upper number over lower * squared_step; None if it doesn't.
        away_x = upper_x - self.x * lower
        away_y = upper_y - self.y * lower
        along = away_x * self.dx + away_y * self.dy
        squared_reach = GREATEST_SQUARED_DISTANCE * lower * lower
        if along <= 0:
            return 0 if away_x * away_x + away_y * away_y <= squared_reach else None
        # The distance from the whole line, times the step's length, is a whole number: no root is needed.
        aside = away_x * self.dy - away_y * self.dx
        return along if aside * aside <= squared_reach * self.squared_step else None

    def meets(self, between, own):
        # Each body met, as how far along (all over the same lower number) and its number.
        found = []
        for body in range(BODIES):
            upper_x = between.upper_number(KEYS_OF_A_BODY * body)
            if body == own or upper_x is None:
                continue
            upper_y = between.upper_number(KEYS_OF_A_BODY * body + 1)
            way = self.way_to(upper_x, upper_y, between.lower_number)
            if way is not None:
                found.append((way, body))
        return sorted(found)
