"""What is handed in and told, as texts, and a desk that takes rows of them."""
