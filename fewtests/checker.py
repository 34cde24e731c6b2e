"""Checker: whether a certificate is right, without search."""

from fewtests.checks import is_tuple_of
from fewtests.papers import is_paper
from fewtests.tablefaults import fault_by_tables
from fewtests.wordfaults import fault_by_tests
from fewtests.validity import is_claim


def first_fault(certificate):
    """Returns the first fault of the certificate, or None if it is right."""
    if not is_tuple_of(certificate, 3):
        return ("form",)
    verdict, claim, paper = certificate
    if not is_claim(claim):
        return ("claim",)
    if not is_paper(verdict, claim, paper):
        return ("paper",)
    if claim[0] in ("meets", "written", "surplus", "endless"):
        return fault_by_tables(verdict == "shown", claim, paper)
    return fault_by_tests(verdict == "shown", claim, paper)
