"""Links that transfer items with wrapped sequence numbers over a bad channel."""
