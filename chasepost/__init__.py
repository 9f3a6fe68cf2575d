"""Letters that follow people by forwarding orders."""
