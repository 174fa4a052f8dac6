"""Who can pay whom, when all owe one another."""
