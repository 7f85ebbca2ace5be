"""sawwhen: rights on folders that change at unknown moments, and who saw what in all orders."""
