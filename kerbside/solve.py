"""The search for papers ([2.6])."""

from kerbside.tableau import Tableau


def greatest(system, form):
    """Returns a paper for the system and the form."""
    return Tableau(system).paper(form)
