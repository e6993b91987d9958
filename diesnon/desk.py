"""Scripts: lines that are answered one after another at a desk."""

from diesnon.answers import ACTIONS
from diesnon.errors import BadForm, Missing, Never, NotAllowed, TooLarge
from diesnon.lines import read_command
from diesnon.onedesk import Desk

MAX_SIGNS = 4000
MAX_LINES = 60


def answer_to(desk, line):
    """The answer to a line at a desk."""
    command = read_command(line)
    if command is None:
        return "bad"
    if command == ():
        return ""
    action = ACTIONS[command[0]]
    try:
        return action(desk, command)
    except NotAllowed:
        return "refused"
    except BadForm:
        return "form"
    except Missing:
        return "missing"
    except Never:
        return "never"
    except TooLarge:
        return "large"


def run_script(script):
    """The list of the answers to the lines of the script, at a new desk."""
    lines = script.split("\n")
    if len(script) > MAX_SIGNS or len(lines) > MAX_LINES:
        raise NotAllowed("the script is too long")
    desk = Desk()
    return [answer_to(desk, line) for line in lines]
