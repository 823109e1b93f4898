"""All states of a page: pagestates.pages.answers answers a list of calls."""
