"""The errors of parameters that many files have, each raised where it is due."""

from evenloads.basics import is_name_list
from evenloads.errors import InvalidBounds, InvalidServers, InvalidYard
from evenloads.ratios import Ratio, is_amount
from evenloads.yards import Yard


def check_yard(yard):
    """Raise InvalidYard for any value that is no Yard."""
    if not isinstance(yard, Yard):
        raise InvalidYard(yard)


def check_task(yard, task):
    """Raise UnknownTask for any value that is no task of the yard."""
    # The yard itself raises the error.
    yard.work(task)


def check_server(yard, server):
    """Raise UnknownServer for any value that is no server of the yard."""
    # The yard itself raises the error.
    yard.speed(server)


def check_servers(yard, servers):
    """Raise InvalidServers for any value that is no list of different servers of the yard, perhaps empty."""
    if not is_server_set(yard, servers):
        raise InvalidServers(servers)


def is_server_set(yard, value):
    """Whether any value is a list of different servers of the yard, perhaps empty."""
    known = yard.servers()
    return is_name_list(value) and all([server in known for server in value])


def bounds_of(yard, bounds):
    """The dict of the bounds of all servers, Ratios; InvalidBounds for any value that tells none."""
    if not is_bounds(yard, bounds):
        raise InvalidBounds(bounds)
    if isinstance(bounds, dict):
        return {server: Ratio.of(bounds[server]) for server in yard.servers()}
    return {server: Ratio.of(bounds) for server in yard.servers()}


def is_bounds(yard, value):
    """Whether any value is a dict from all servers, and no other keys, to AMOUNTS, or a single AMOUNT."""
    if not isinstance(value, dict):
        return is_amount(value)
    servers = yard.servers()
    return len(value) == len(servers) and all([server in value and is_amount(value[server]) for server in servers])
