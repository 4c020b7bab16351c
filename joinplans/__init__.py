"""A question planned: tables, a question asked of them, and how its atoms hang together."""
