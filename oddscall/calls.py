"""The checks of single procedures that contain no call."""

from oddscall.errors import BadValue, NotTold
from oddscall.wholes import is_index


def check_procedure(graph, procedure):
    """Raise BadValue if the argument is not the index of a procedure."""
    if not is_index(procedure, len(graph.procedures)):
        raise BadValue("procedure")


def check_no_call(graph, procedure):
    """Raise NotTold with the first place with a call of the procedure, if there is one."""
    for index, point in enumerate(graph.procedures[procedure][1]):
        if point[0] == "call":
            raise NotTold(("call", procedure, index))
