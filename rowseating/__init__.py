"""Group seating planner: which groups can sit together in rows of seats, and where."""
