"""A question planned: tables, a question asked of them, its ways, and how its atoms are joined."""
