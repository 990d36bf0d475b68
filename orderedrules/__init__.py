"""Facts told one after the other, rules tried in order."""
