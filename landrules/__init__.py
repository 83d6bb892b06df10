"""Rules of addresses: a land's rules, the ways to read an address by them, and addresses printed."""
