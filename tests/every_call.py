"""All functions of the interface, as in the table of `calls`."""

from tests.calls import CALLS
from tests.calls_lines import LINE_CALLS
from tests.calls_states import STATE_CALLS
from tests.calls_trees import TREE_CALLS
from tests.calls_ways import WAY_CALLS

EVERY_CALL = CALLS + LINE_CALLS + TREE_CALLS + WAY_CALLS + STATE_CALLS
