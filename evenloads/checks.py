"""The errors of parameters that many files have, each raised where it is due."""

from evenloads.basics import is_name_list
from evenloads.errors import InvalidBounds, InvalidServers, InvalidYard
from evenloads.ratios import Ratio, is_amount
from evenloads.yards import Yard


def check_yard(yard):
    """Raise InvalidYard for any value that is no Yard."""
    if not isinstance(yard, Yard):
        raise InvalidYard(yard)


def check_task(yard, task):
    """Raise UnknownTask for any value that is no task of the yard."""
    # The yard itself raises the error.
    yard.work(task)


def check_server(yard, server):
    """Raise UnknownServer for any value that is no server of the yard."""
    # The yard itself raises the error.
    yard.speed(server)


def check_servers(yard, servers):
    """Raise InvalidServers for any value that is no list of different servers of the yard, perhaps empty."""
    if not is_server_set(yard, servers):
        raise InvalidServers(servers)


def is_server_set(yard, value):
    """Whether any value is a list of different servers of the yard, perhaps empty."""
    known = yard.servers()
    return is_name_list(value) and all([server in known for server in value])


def bounds_of(yard, bounds):
    """The dict of the bounds of all servers, Ratios; InvalidBounds for any value that tells none."""
    servers = yard.servers()
    if is_amount(bounds):
        return {server: Ratio.of(bounds) for server in servers}
    if not isinstance(bounds, dict) or len(bounds) != len(servers):
        raise InvalidBounds(bounds)
    if not all([server in bounds and is_amount(bounds[server]) for server in servers]):
        raise InvalidBounds(bounds)
    return {server: Ratio.of(bounds[server]) for server in servers}
