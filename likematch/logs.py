"""Webs from their logs."""

from likematch.webs import Web


def web_of(log):
    """A new web in which the rows of the log were done."""
    web = Web()
    web.all_done(log)
    return web
