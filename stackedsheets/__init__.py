"""Plus and minus sheets stacked in turn: what can be stacked, and in which order."""
