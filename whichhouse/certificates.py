"""Certificates: what a web has or lacks, as a claim with a paper for the checker."""

from whichhouse.checks import check_want, check_web
from whichhouse.links import wanted_table
from whichhouse.papers import lacking_paper
from whichhouse.webs import doors_of


def certify(web, want):
    """The claim that the web has what is wanted, or lacks it, and a paper that shows it."""
    check_web(web)
    check_want(want)
    doors = doors_of(web.ties)
    table = wanted_table(doors, want)
    if table is None:
        return (("lacks", web.plain, want), lacking_paper(doors, want))
    return (("has", web.plain, want), table)
