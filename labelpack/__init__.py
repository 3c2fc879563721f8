"""Names of hosts in messages, packed by pointing back."""
