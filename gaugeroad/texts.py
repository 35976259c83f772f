"""Pages of roads and of plays."""

from gaugeroad.errors import BadPlay
from gaugeroad.habits import Habit
from gaugeroad.player import Player
from gaugeroad.roads import check_road


def road_text(road):
    """The page of a road."""
    check_road(road)
    return "\n".join(["road", *lines_of_road(road)])


def play_text(player):
    """The page of a play."""
    if not isinstance(player, Player):
        raise BadPlay("player")
    beginnings = [f"part {beginning}" for beginning in player.beginnings]
    begin = [f"begin {player.begin}", f"lead {player.lead}"]
    return "\n".join(["play", *lines_of_road(player.road), *begin, *beginnings, *player.log])


def lines_of_road(road):
    """The lines of a road behind the first one."""
    looks = "habit" if isinstance(road.looks, Habit) else "looks"
    tiers = "none" if road.tiers is None else str(road.tiers)
    zoom = f"zoom {road.zoom.up} {road.zoom.down}"
    return [f"train {road.train}", f"pace {road.pace}", f"{looks} {road.looks}", f"register {road.display}",
            f"tiers {tiers}", f"width {road.width}", zoom]
