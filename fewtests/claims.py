"""Claims: what can be said of small writers, and what shows or breaks it."""

from fewtests.deciding import verdict_and_paper
from fewtests.errors import InvalidClaim
from fewtests.validity import is_claim


def require_claim(claim):
    """Raises InvalidClaim if the claim is no claim, or not a valid one."""
    if not is_claim(claim):
        raise InvalidClaim()


def decide(claim):
    """Returns a certificate for the claim: its verdict, the claim and a paper."""
    require_claim(claim)
    verdict, paper = verdict_and_paper(claim)
    return verdict, claim, paper
