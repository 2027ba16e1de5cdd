"""The kinds of machines, as their names tell them."""

JOURNAL = "journal"
MANAGER = "manager"
CLIENT = "client"
