"""Rules of addresses: a land's rules, and the ways to read an address by them."""
