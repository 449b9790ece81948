"""Who may talk to whom: groups of addresses, and rules in order."""
