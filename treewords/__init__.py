"""Any grammar: its texts, all their trees."""
