"""Jobs: octets come in, and octets go out (point 907)."""

from swarmwhole.cases import parse_case
from swarmwhole.errors import BadCase
from swarmwhole.forms import table_value, word_value
from swarmwhole.reports import report, report_text
from swarmwhole.values import encode


def job(octets):
    """The text of the report of the case whose text the octets are, or of what is wrong with them; for any value."""
    try:
        case = parse_case(octets)
    except BadCase as error:
        return encode(table_value({"error": word_value(error.reason)}))
    return report_text(report(case))
